/- What the specification tells of statements. By mkspst.py. -/
import Derived.Test.YtopnodadggohiaaGreatDoorSpEx
import Derived.Test.YtopnodadggohiaaGreatDoorSpPure2
namespace Go.Proofs.YtopnodadggohiaaGreatDoor
open Go.RowKit
set_option linter.unusedVariables false
set_option linter.unusedSimpArgs false
set_option maxRecDepth 100000

def SpSt (x : St) : Prop := ∀ (w0 w : World) (vs : List Value) (g : Nat) (left d : Int), RdVals w0 x.fl vs → Below w0.heap.size w0 w → w0.heap.size ≤ g → Lft w g left → 0 ≤ left → left ≤ 250 → 0 ≤ d → d ≤ 17 → recLen x.fl ≤ 1048576 →
 Calls Tryz.prog 143 #[agg vs, .int .i64 d, .pointer (some ⟨g, 0, none⟩)] w fun e w' => e = .returned (.bool (fitSt x d left)) ∧ w.grownBy w' (some g) ∧ (fitSt x d left = true → Lft w' g (left - (ndSt x : Int)))
def SpSts (l : List St) : Prop := ∀ (w0 w : World) (a : Option Addr) (c g : Nat) (left d : Int), LRow w0 a c 6 (sts l) → Below w0.heap.size w0 w → w0.heap.size ≤ g → Lft w g left → 0 ≤ left → left ≤ 250 → 0 ≤ d → d ≤ 17 → rowsLen (sts l) ≤ 1048576 →
 Calls Tryz.prog 106 #[.slice a l.length c, .int .i64 d, .pointer (some ⟨g, 0, none⟩)] w fun e w' => e = .returned (.bool (fitSts l d left)) ∧ w.grownBy w' (some g) ∧ (fitSts l d left = true → Lft w' g (left - (ndSts l : Int)))

theorem one_of {α : Type} {l : List α} (h : l.length = 1) : ∃ x, l = [x] := by
 match l, h with
 | [x], _ => exact ⟨x, rfl⟩

theorem loc_fail {k n : Int} {name : List Int} {ks : List Ex} {bs es : List St} {d left : Int} {nk nb ne : Nat} (h1 : ks.length = nk) (h2 : bs.length = nb) (h3 : es.length = ne) (h : stLoc0 k n name nk nb ne = false) : fitSt (.mk k n name ks bs es) d left = false := by
 refine fitSt_loc0 ?_
 rw [h1, h2, h3]; exact h

set_option maxHeartbeats 40000000 in
theorem spStR (k n : Int) (name : List Int) (ks : List Ex) (bs es : List St) (S3 : ∀ x ∈ ks, SpEx x) (S4 : SpSts bs) (S5 : SpSts es) : SpSt (.mk k n name ks bs es) := by
 intro w0 w vs g left d hr hb hg hL hl0 hl1 hd0 hd1 hs
 unfold St.fl at hr
 have es9 : recLen (St.mk k n name ks bs es).fl = name.length + ((exs ks).length + rowsLen (exs ks)) + ((sts bs).length + rowsLen (sts bs)) + ((sts es).length + rowsLen (sts es)) := by simp [St.fl, recLen, Fl.len] <;> omega
 rw [es9] at hs
 have hs1 : name.length ≤ 1048576 := by omega
 have hs2 : rowsLen (exs ks) ≤ 1048576 := by omega
 have hs3 : rowsLen (sts bs) ≤ 1048576 := by omega
 have hs4 : rowsLen (sts es) ≤ 1048576 := by omega
 clear hs es9
 obtain ⟨y0, _, rfl, rfl, y1, _, rfl, rfl, y2, _, rfl, ⟨a2, c2, rfl, h2, hc2, _⟩, y3, _, rfl, h3', y4, _, rfl, h4', y5, _, rfl, h5', rfl⟩ := hr
 obtain ⟨a3, c3, rfl, h3⟩ := h3'.list
 obtain ⟨a4, c4, rfl, h4⟩ := h4'.list
 obtain ⟨a5, c5, rfl, h5⟩ := h5'.list
 clear h3' h4' h5'
 have hkl : (exs ks).length = ks.length := by simp [exs_map]
 have hbl : (sts bs).length = bs.length := by simp [sts_map]
 have hel : (sts es).length = es.length := by simp [sts_map]
 have hk9 : ks.length ≤ 9223372036854775807 := by have h7 := h3.cap; have h6 := h3.most; unfold maxLen at h6; omega
 have hb9 : bs.length ≤ 9223372036854775807 := by have h7 := h4.cap; have h6 := h4.most; unfold maxLen at h6; omega
 have he9 : es.length ≤ 9223372036854775807 := by have h7 := h5.cap; have h6 := h5.most; unfold maxLen at h6; omega
 rw [hkl, hbl, hel]
 clear hbl hel
 simp only [agg]
 obtain ⟨nn, hnn⟩ : ∃ z, z = name.length := ⟨_, rfl⟩
 rw [← hnn] at h2 hs1 hc2 ⊢
 have HNA : Hid (name.length = nn) := hnn.symm
 clear hnn
 obtain ⟨nk, hnk⟩ : ∃ z, z = ks.length := ⟨_, rfl⟩
 obtain ⟨nb, hnb⟩ : ∃ z, z = bs.length := ⟨_, rfl⟩
 obtain ⟨ne, hne⟩ : ∃ z, z = es.length := ⟨_, rfl⟩
 rw [← hnk] at hkl hk9 ⊢
 rw [← hnb] at hb9 ⊢
 rw [← hne] at he9 ⊢
 have HNK : Hid (ks.length = nk) := hnk.symm
 have HNB_ : Hid (bs.length = nb) := hnb.symm
 have HNE_ : Hid (es.length = ne) := hne.symm
 clear hnk hnb hne
 have hgl : g < w.heap.size := Blk.lt hL
 have hgx : w.heap.size ≠ g := by omega
 have yy := grown_alloc w (.cells #[.int .i64 k, .int .i64 n, .slice a2 nn c2, .slice a3 nk c3, .slice a4 nb c4, .slice a5 ne c5] 121 (0, 0)) (some g)
 have x0 := Blk.new w 121 [.int .i64 k, .int .i64 n, .slice a2 nn c2, .slice a3 nk c3, .slice a4 nb c4, .slice a5 ne c5]
 have hL1 : Lft _ g left := Blk.old hL (o := .cells #[.int .i64 k, .int .i64 n, .slice a2 nn c2, .slice a3 nk c3, .slice a4 nb c4, .slice a5 ne c5] 121 (0, 0))
 replace hb : Below w0.heap.size w0 (w.alloc (.cells #[.int .i64 k, .int .i64 n, .slice a2 nn c2, .slice a3 nk c3, .slice a4 nb c4, .slice a5 ne c5] 121 (0, 0))) := hb.alloc hb.size _
 clear hL
 go_enter Tryz.func143, Tryz.ntmps143
 go_upto_region 1 with fail
 generalize w.alloc (.cells #[.int .i64 k, .int .i64 n, .slice a2 nn c2, .slice a3 nk c3, .slice a4 nb c4, .slice a5 ne c5] 121 (0, 0)) = w1 at *
 have z0 := hL1.cell (i := 0) rfl
 have z1 := hL1.free 0
 go_upto_region 2 with fail
 have hL2 : Lft _ g (left - 1) := Blk.set hL1 (i := 0) (.int .i64 (left - 1))
 have hq : w1.grownBy (w1.setCell ⟨g, 0, none⟩ (.int .i64 (left - 1))) (some g) := grown_put
 replace x0 := x0.grown hq hgx
 replace yy := grown_trans yy hq
 replace hb := below_at hb hq hg
 generalize w1.setCell ⟨g, 0, none⟩ (.int .i64 (left - 1)) = w2 at *
 generalize w.heap.size = gx at *
 clear z0 z1 hL1 hq hgl
 obtain ⟨m, hm⟩ : ∃ m, m = left - 1 := ⟨_, rfl⟩
 rw [← hm] at hL2
 have HMM : Hid (m = left - 1) := hm
 have z0 := hL2.cell (i := 0) rfl
 obtain ⟨q0, q1, q2, q3, q4, q5⟩ := x0.c6
 by_cases r1 : m < 0
 ·
  have he : Hid (fitSt (.mk k n name ks bs es) d left = false) := fitSt_room (.inl (by omega))
  clear hm
  go_wp2_with fail
  go_ret
  rw [he.out]
  exact ⟨rfl, yy, by simp⟩
 by_cases r2 : 16 < d
 ·
  have he : Hid (fitSt (.mk k n name ks bs es) d left = false) := fitSt_room (.inr r2)
  clear hm
  go_wp2_with fail
  go_ret
  rw [he.out]
  exact ⟨rfl, yy, by simp⟩
 clear hm

 by_cases i1 : inB k 0 7 = true
 rotate_left
 ·
  have hno : inB k 0 7 = false := by simpa using i1
  have he : Hid (fitSt (.mk k n name ks bs es) d left = false) := loc_fail HNK.out HNB_.out HNE_.out (loc0_no (.inl hno))
  have g0 : (k == 0) = false := by simp only [inB, Bool.and_eq_false_iff, decide_eq_false_iff_not] at hno; simp only [beq_eq_false_iff_ne, ne_eq]; omega
  have g1 : (k == 1) = false := by simp only [inB, Bool.and_eq_false_iff, decide_eq_false_iff_not] at hno; simp only [beq_eq_false_iff_ne, ne_eq]; omega
  have g2 : (k == 2) = false := by simp only [inB, Bool.and_eq_false_iff, decide_eq_false_iff_not] at hno; simp only [beq_eq_false_iff_ne, ne_eq]; omega
  have g3 : (k == 3) = false := by simp only [inB, Bool.and_eq_false_iff, decide_eq_false_iff_not] at hno; simp only [beq_eq_false_iff_ne, ne_eq]; omega
  have g4 : (k == 4) = false := by simp only [inB, Bool.and_eq_false_iff, decide_eq_false_iff_not] at hno; simp only [beq_eq_false_iff_ne, ne_eq]; omega
  have g5 : (k == 5) = false := by simp only [inB, Bool.and_eq_false_iff, decide_eq_false_iff_not] at hno; simp only [beq_eq_false_iff_ne, ne_eq]; omega
  have g6 : (k == 6) = false := by simp only [inB, Bool.and_eq_false_iff, decide_eq_false_iff_not] at hno; simp only [beq_eq_false_iff_ne, ne_eq]; omega
  have g7 : (k == 7) = false := by simp only [inB, Bool.and_eq_false_iff, decide_eq_false_iff_not] at hno; simp only [beq_eq_false_iff_ne, ne_eq]; omega
  have g8 : ((-1 : Int) != (nk : Int)) = true := by simp only [bne_iff_ne, ne_eq]; omega
  clear hno i1
  go_wp2_with fail
  go_ret
  rw [he.out]
  exact ⟨rfl, yy, by simp⟩
 have h8 := eight i1
 have HI1 : Hid (inB k 0 7 = true) := i1
 clear i1
 rcases h8 with rfl | rfl | rfl | rfl | rfl | rfl | rfl | rfl
 ·
  by_cases c1 : (nk : Int) = 1
  rotate_left
  ·
   have c1' : ((1 : Int) != (nk : Int)) = true := by simp; omega
   have he : Hid (fitSt (.mk 0 n name ks bs es) d left = false) := loc_fail HNK.out HNB_.out HNE_.out (loc0_no (.inr (.inl c1)))
   go_wp2_with fail
   go_ret
   rw [he.out]
   exact ⟨rfl, yy, by simp⟩
  have c1' : ((1 : Int) != (nk : Int)) = false := by simp; omega
  have HC1 : Hid ((nk : Int) = stLeast 0) := c1
  have hkn : nk = 1 := by omega
  clear c1
  by_cases b1 : nb = 0
  rotate_left
  ·
   have b1' : (0 : Int) < (nb : Int) := by omega
   clear hkn
   have he : Hid (fitSt (.mk 0 n name ks bs es) d left = false) := loc_fail HNK.out HNB_.out HNE_.out (loc0_no (.inr (.inr (.inr (.inr (.inr (.inl ⟨b1, by decide⟩)))))))
   go_wp2_with fail
   go_ret
   rw [he.out]
   exact ⟨rfl, yy, by simp⟩
  have b1' : ¬ (0 : Int) < (nb : Int) := by omega
  have HB1 : Hid ((decide (nb = 0) || stBody 0) = true) := by show _ = _; rw [decide_eq_true b1]; rfl
  clear b1
  by_cases b2 : ne = 0
  rotate_left
  ·
   have b2' : (0 : Int) < (ne : Int) := by omega
   clear hkn
   have he : Hid (fitSt (.mk 0 n name ks bs es) d left = false) := loc_fail HNK.out HNB_.out HNE_.out (loc0_no (.inr (.inr (.inr (.inr (.inr (.inr ⟨b2, by decide⟩)))))))
   go_wp2_with fail
   go_ret
   rw [he.out]
   exact ⟨rfl, yy, by simp⟩
  have b2' : ¬ (0 : Int) < (ne : Int) := by omega
  have HB2 : Hid ((decide (ne = 0) || decide ((0 : Int) = 2)) = true) := by show _ = _; rw [decide_eq_true b2]; rfl
  clear b2
  have hn3 := specNameOk a2 nn c2 name false w2 (h2.below hb) (by omega)
  by_cases e0 : nn = 0
  ·
   have hno : nameOk name false = false := nameOk_short (by rw [HNA.out]; omega)
   rw [e0] at q2 ⊢
   clear hkn
   have he : Hid (fitSt (.mk 0 n name ks bs es) d left = false) := loc_fail HNK.out HNB_.out HNE_.out (loc0_no (.inr (.inr (.inr (.inl ⟨by decide, hno⟩)))))
   go_wp2_with fail
   go_ret
   rw [he.out]
   exact ⟨rfl, yy, by simp⟩
  have e0' : (0 : Int) < (nn : Int) := by omega
  generalize hno_ : nameOk name false = ok at *
  have HNB : Hid (nameOk name false = ok) := hno_
  clear hno_
  have HKN : Hid _ := hkn
  clear hkn
  go_wp2_with fail
  refine hn3.mono ?_
  rintro e w2 ⟨rfl, rfl⟩
  clear hn3
  cases ok
  ·
   skip
   have he : Hid (fitSt (.mk 0 n name ks bs es) d left = false) := loc_fail HNK.out HNB_.out HNE_.out (loc0_no (.inr (.inr (.inr (.inl ⟨by decide, HNB.out⟩)))))
   go_wp2_with fail
   go_ret
   rw [he.out]
   exact ⟨rfl, yy, by simp⟩
  by_cases n0 : n = 0
  rotate_left
  ·
   have n0' : (n != 0) = true := by simpa using n0
   have he : Hid (fitSt (.mk 0 n name ks bs es) d left = false) := loc_fail HNK.out HNB_.out HNE_.out (loc0_no (.inr (.inr (.inl (by simp [inB, stHigh]; omega)))))
   go_wp2_with fail
   go_ret
   rw [he.out]
   exact ⟨rfl, yy, by simp⟩
  have n0' : (n != 0) = false := by simpa using n0
  have HNN : Hid (inB n 0 (stHigh 0) = true) := by show _ = _; rw [n0]; decide
  clear n0
  have HLC : Hid (stLoc0 0 n name ks.length bs.length es.length = true) := by show _ = _; rw [HNK.out, HNB_.out, HNE_.out]; exact loc0_yes HI1.out HC1.out HNN.out (by rw [show stNamed 0 = true from by decide]; exact HNB.out) HB1.out HB2.out
  have HCC : Hid ((!decide ((0 : Int) = 7) || ks.any isCall) = true) := by show _ = _; simp
  have HE : Hid (fitSt (.mk 0 n name ks bs es) d left = spIn ks bs es (d + 1) m) := by
   show _ = _
   rw [fitSt_sp HLC.out HCC.out (by have := HMM.out; omega) (by omega), HMM.out]
  have HD : Hid (ndSt (.mk 0 n name ks bs es) = 1 + (ndExs ks + ndSts bs + ndSts es)) := by show _ = _; simp [ndSt]
  have HX0 : Hid _ := x0
  have HY : Hid (w.grownBy w2 (some g)) := yy
  have HB3 : Hid (Below w0.heap.size w0 w2) := hb
  have HLF : Hid (Lft w2 g (m - (ndExs (ks.take 0) : Int))) := by show Lft _ _ _; simpa [ndExs] using hL2
  have HRW : Hid (LRow w0 a3 c3 5 (exs ks)) := h3
  have HRB : Hid (LRow w0 a4 c4 6 (sts bs)) := h4
  have HRE : Hid (LRow w0 a5 c5 6 (sts es)) := h5
  have hm0 : 0 ≤ m := by omega
  have hm1 : m ≤ 250 := by have := HMM.out; omega
  have hd2 : d + 1 ≤ 17 := by omega
  have hd3 : 0 ≤ d + 1 := by omega
  go_wp2_with fail
  clear q0 q1 q2 q3 q4 q5 x0 yy hb hL2 h3 h4 h5 z0 e0' b1' b2'
  go_loopw [11] (fun i wr => ∃ j : Nat, j ≤ nk ∧ i = .int .i64 j ∧ Hid (w2.grownBy wr (some g)) ∧ Hid (Lft wr g (m - (ndExs (ks.take j) : Int))) ∧ Hid ((ndExs (ks.take j) : Int) ≤ m) ∧ Hid (∀ i x, i < j → ks[i]? = some x → spEx x (d + 1) false (m - (ndExs (ks.take i) : Int)) = true)) (fun i _ => nk - (intOf i).toNat)
  case atStart => exact ⟨0, Nat.zero_le _, rfl, grown_refl _ _, HLF, by show (_ : Int) ≤ _; simp [ndExs]; omega, by show ∀ _ _, _; omega⟩
  case round =>
   obtain ⟨j, hj, rfl, hgr, hLj, hnj, hyes⟩ := hrel
   clear HLF
   have x0 := Blk.grown HX0.out hgr.out hgx
   have q3 := x0.cell (i := 3) rfl
   have hb := below_at HB3.out hgr.out hg
   by_cases hlt : j < nk
   ·
    obtain ⟨b3, o3, rfl⟩ := LRow.addr HRW.out (by rw [hkl]; omega)
    obtain ⟨x, hx⟩ : ∃ x, ks[j]? = some x := ⟨ks[j]'(by rw [HNK.out]; exact hlt), List.getElem?_eq_getElem _⟩
    have hxj : (exs ks)[j]? = some x.fl := by rw [exs_map, List.getElem?_map, hx]; rfl
    obtain ⟨us, hvs, hcl⟩ := (LRow.el HRW.out hxj).vals
    obtain ⟨u0, u1, u2, u3, u4, rfl⟩ := five_of (hvs.len.trans (exs_len x))
    replace hcl : ∀ i v, _ → _ := fun i v hv => cell_on (hcl i v hv) hb
    have t0 : wr.cell? ⟨b3, o3 + j * 5, none⟩ = some u0 := hcl 0 _ rfl
    have t1 : wr.cell? ⟨b3, o3 + j * 5 + 1, none⟩ = some u1 := hcl 1 _ rfl
    have t2 : wr.cell? ⟨b3, o3 + j * 5 + 2, none⟩ = some u2 := hcl 2 _ rfl
    have t3 : wr.cell? ⟨b3, o3 + j * 5 + 3, none⟩ = some u3 := hcl 3 _ rfl
    have t4 : wr.cell? ⟨b3, o3 + j * 5 + 4, none⟩ = some u4 := hcl 4 _ rfl
    have hsx : recLen x.fl ≤ 1048576 := Nat.le_trans (recLen_le (List.mem_of_getElem? hxj)) hs2
    have HC := S3 x (List.mem_of_getElem? hx) w0 wr [u0, u1, u2, u3, u4] g (m - (ndExs (ks.take j) : Int)) (d + 1) false hvs hb hg hLj.out (by have := hnj.out; omega) (by omega) hd3 hd2 hsx
    simp only [agg] at HC
    have HJ : Hid (ks[j]? = some x) := hx
    have HNX : Hid (ndExs (ks.take (j + 1)) = ndExs (ks.take j) + ndEx x) := ndExs_next hx
    clear hcl hx hxj hsx hvs
    generalize hsp : spEx x (d + 1) false (m - (ndExs (ks.take j) : Int)) = rr at *
    have HSP : Hid (spEx x (d + 1) false (m - (ndExs (ks.take j) : Int)) = rr) := hsp
    clear hsp
    go_wp2_with fail
    refine HC.mono ?_
    rintro e w4 ⟨rfl, hg4, hL4⟩
    have HG4 : Hid (w2.grownBy w4 (some g)) := grown_trans hgr.out hg4
    have HL4 : Hid (rr = true → Lft w4 g (m - (ndExs (ks.take j) : Int) - (ndEx x : Int))) := hL4
    clear HC t0 t1 t2 t3 t4 q3 x0 hb hg4 hL4
    cases rr
    ·
     have he : Hid (fitSt (.mk 0 n name ks bs es) d left = false) := by show _ = _; rw [HE.out]; unfold spIn; rw [spExs_no HJ.out HSP.out]; rfl
     have hyy := grown_trans HY.out HG4.out
     go_wp2_with fail
     go_ret
     rw [he.out]
     exact ⟨rfl, hyy, by simp⟩
    ·
     have hle := spEx_le HSP.out
     have HL5 : Hid (Lft w4 g (m - (ndExs (ks.take (j + 1)) : Int))) := by
      have := HL4.out rfl
      rw [show m - (ndExs (ks.take j) : Int) - (ndEx x : Int) = m - (ndExs (ks.take (j + 1)) : Int) by rw [HNX.out]; omega] at this
      exact this
     go_wp2_with fail
     go_roundw
     case rel => exact ⟨j + 1, by omega, by go_num, HG4, HL5, (by show (_ : Int) ≤ _; rw [HNX.out]; omega), (show ∀ i x, i < j + 1 → _ from fun i y hi hy => (Nat.lt_or_ge i j).elim (fun h => hyes.out i y h hy) (fun h => by
      obtain rfl : i = j := by omega
      rw [HJ.out] at hy
      cases hy
      exact HSP.out))⟩
     case measure => simp [intOf]; omega
   ·
    have : j = nk := by omega
    subst this
    have HSE : Hid (spExs ks (d + 1) false m = true) := spExs_yes (fun i y hy => hyes.out i y (by have := (List.getElem?_eq_some_iff.1 hy).1; rw [HNK.out] at this; exact this) hy) hm0
    have hle3 := spExs_le HSE.out
    have hLf := hLj.out
    rw [List.take_of_length_le (by rw [HNK.out]; exact Nat.le_refl _)] at hLf
    have hyy := grown_trans HY.out hgr.out
    have q4 := x0.cell (i := 4) rfl
    have q5 := x0.cell (i := 5) rfl
    have HC := S4 w0 wr a4 c4 g (m - (ndExs ks : Int)) (d + 1) HRB.out hb hg hLf (by omega) (by omega) hd3 hd2 hs3
    rw [HNB_.out, show nb = 0 by omega] at HC
    generalize hsp : fitSts bs (d + 1) (m - (ndExs ks : Int)) = r4 at *
    have HS4 : Hid (fitSts bs (d + 1) (m - (ndExs ks : Int)) = r4) := hsp
    clear hsp hgr hLj hnj hyes
    go_wp2_with fail
    refine HC.mono ?_
    rintro e w4 ⟨rfl, hg4, hL4⟩
    replace x0 := x0.grown hg4 hgx
    replace hb := below_at hb hg4 hg
    replace hyy := grown_trans hyy hg4
    clear HC q3 q4 q5 hLf hg4
    cases r4
    ·
     have he : Hid (fitSt (.mk 0 n name ks bs es) d left = false) := by show _ = _; rw [HE.out]; unfold spIn; rw [HS4.out]; simp
     clear hL4
     go_wp2_with fail
     go_ret
     rw [he.out]
     exact ⟨rfl, hyy, by simp⟩
    ·
     have hle4 := fitSts_le HS4.out
     have hL5 := hL4 rfl
     have q5 := x0.cell (i := 5) rfl
     have HC := S5 w0 w4 a5 c5 g (m - (ndExs ks : Int) - (ndSts bs : Int)) (d + 1) HRE.out hb hg hL5 (by omega) (by omega) hd3 hd2 hs4
     rw [HNE_.out, show ne = 0 by omega] at HC
     generalize hsp : fitSts es (d + 1) (m - (ndExs ks : Int) - (ndSts bs : Int)) = r5 at *
     have HS5 : Hid (fitSts es (d + 1) (m - (ndExs ks : Int) - (ndSts bs : Int)) = r5) := hsp
     clear hsp hL4
     go_wp2_with fail
     refine HC.mono ?_
     rintro e w5 ⟨rfl, hg5, hL6⟩
     have he : Hid (fitSt (.mk 0 n name ks bs es) d left = r5) := by show _ = _; rw [HE.out]; unfold spIn; rw [HSE.out, HS4.out, HS5.out]; rfl
     clear HC q5
     go_wp2_with fail
     go_ret
     rw [he.out]
     exact ⟨rfl, grown_trans hyy hg5, fun h => by
      have := hL6 h
      rw [HD.out, show left - ((1 + (ndExs ks + ndSts bs + ndSts es) : Nat) : Int) = m - (ndExs ks : Int) - (ndSts bs : Int) - (ndSts es : Int) by have := HMM.out; omega]
      exact this⟩
 ·
  by_cases c1 : (nk : Int) = 2
  rotate_left
  ·
   have c1' : ((2 : Int) != (nk : Int)) = true := by simp; omega
   have he : Hid (fitSt (.mk 1 n name ks bs es) d left = false) := loc_fail HNK.out HNB_.out HNE_.out (loc0_no (.inr (.inl c1)))
   go_wp2_with fail
   go_ret
   rw [he.out]
   exact ⟨rfl, yy, by simp⟩
  have c1' : ((2 : Int) != (nk : Int)) = false := by simp; omega
  have HC1 : Hid ((nk : Int) = stLeast 1) := c1
  have hkn : nk = 2 := by omega
  clear c1
  by_cases b1 : nb = 0
  rotate_left
  ·
   have b1' : (0 : Int) < (nb : Int) := by omega
   clear hkn
   have he : Hid (fitSt (.mk 1 n name ks bs es) d left = false) := loc_fail HNK.out HNB_.out HNE_.out (loc0_no (.inr (.inr (.inr (.inr (.inr (.inl ⟨b1, by decide⟩)))))))
   go_wp2_with fail
   go_ret
   rw [he.out]
   exact ⟨rfl, yy, by simp⟩
  have b1' : ¬ (0 : Int) < (nb : Int) := by omega
  have HB1 : Hid ((decide (nb = 0) || stBody 1) = true) := by show _ = _; rw [decide_eq_true b1]; rfl
  clear b1
  by_cases b2 : ne = 0
  rotate_left
  ·
   have b2' : (0 : Int) < (ne : Int) := by omega
   clear hkn
   have he : Hid (fitSt (.mk 1 n name ks bs es) d left = false) := loc_fail HNK.out HNB_.out HNE_.out (loc0_no (.inr (.inr (.inr (.inr (.inr (.inr ⟨b2, by decide⟩)))))))
   go_wp2_with fail
   go_ret
   rw [he.out]
   exact ⟨rfl, yy, by simp⟩
  have b2' : ¬ (0 : Int) < (ne : Int) := by omega
  have HB2 : Hid ((decide (ne = 0) || decide ((1 : Int) = 2)) = true) := by show _ = _; rw [decide_eq_true b2]; rfl
  clear b2
  have hn3 := specNameOk a2 nn c2 name false w2 (h2.below hb) (by omega)
  by_cases e0 : nn = 0
  ·
   have hno : nameOk name false = false := nameOk_short (by rw [HNA.out]; omega)
   rw [e0] at q2 ⊢
   clear hkn
   have he : Hid (fitSt (.mk 1 n name ks bs es) d left = false) := loc_fail HNK.out HNB_.out HNE_.out (loc0_no (.inr (.inr (.inr (.inl ⟨by decide, hno⟩)))))
   go_wp2_with fail
   go_ret
   rw [he.out]
   exact ⟨rfl, yy, by simp⟩
  have e0' : (0 : Int) < (nn : Int) := by omega
  generalize hno_ : nameOk name false = ok at *
  have HNB : Hid (nameOk name false = ok) := hno_
  clear hno_
  have HKN : Hid _ := hkn
  clear hkn
  go_wp2_with fail
  refine hn3.mono ?_
  rintro e w2 ⟨rfl, rfl⟩
  clear hn3
  cases ok
  ·
   skip
   have he : Hid (fitSt (.mk 1 n name ks bs es) d left = false) := loc_fail HNK.out HNB_.out HNE_.out (loc0_no (.inr (.inr (.inr (.inl ⟨by decide, HNB.out⟩)))))
   go_wp2_with fail
   go_ret
   rw [he.out]
   exact ⟨rfl, yy, by simp⟩
  by_cases n0 : n = 0
  rotate_left
  ·
   have n0' : (n != 0) = true := by simpa using n0
   have he : Hid (fitSt (.mk 1 n name ks bs es) d left = false) := loc_fail HNK.out HNB_.out HNE_.out (loc0_no (.inr (.inr (.inl (by simp [inB, stHigh]; omega)))))
   go_wp2_with fail
   go_ret
   rw [he.out]
   exact ⟨rfl, yy, by simp⟩
  have n0' : (n != 0) = false := by simpa using n0
  have HNN : Hid (inB n 0 (stHigh 1) = true) := by show _ = _; rw [n0]; decide
  clear n0
  have HLC : Hid (stLoc0 1 n name ks.length bs.length es.length = true) := by show _ = _; rw [HNK.out, HNB_.out, HNE_.out]; exact loc0_yes HI1.out HC1.out HNN.out (by rw [show stNamed 1 = true from by decide]; exact HNB.out) HB1.out HB2.out
  have HCC : Hid ((!decide ((1 : Int) = 7) || ks.any isCall) = true) := by show _ = _; simp
  have HE : Hid (fitSt (.mk 1 n name ks bs es) d left = spIn ks bs es (d + 1) m) := by
   show _ = _
   rw [fitSt_sp HLC.out HCC.out (by have := HMM.out; omega) (by omega), HMM.out]
  have HD : Hid (ndSt (.mk 1 n name ks bs es) = 1 + (ndExs ks + ndSts bs + ndSts es)) := by show _ = _; simp [ndSt]
  have HX0 : Hid _ := x0
  have HY : Hid (w.grownBy w2 (some g)) := yy
  have HB3 : Hid (Below w0.heap.size w0 w2) := hb
  have HLF : Hid (Lft w2 g (m - (ndExs (ks.take 0) : Int))) := by show Lft _ _ _; simpa [ndExs] using hL2
  have HRW : Hid (LRow w0 a3 c3 5 (exs ks)) := h3
  have HRB : Hid (LRow w0 a4 c4 6 (sts bs)) := h4
  have HRE : Hid (LRow w0 a5 c5 6 (sts es)) := h5
  have hm0 : 0 ≤ m := by omega
  have hm1 : m ≤ 250 := by have := HMM.out; omega
  have hd2 : d + 1 ≤ 17 := by omega
  have hd3 : 0 ≤ d + 1 := by omega
  go_wp2_with fail
  clear q0 q1 q2 q3 q4 q5 x0 yy hb hL2 h3 h4 h5 z0 e0' b1' b2'
  go_loopw [11] (fun i wr => ∃ j : Nat, j ≤ nk ∧ i = .int .i64 j ∧ Hid (w2.grownBy wr (some g)) ∧ Hid (Lft wr g (m - (ndExs (ks.take j) : Int))) ∧ Hid ((ndExs (ks.take j) : Int) ≤ m) ∧ Hid (∀ i x, i < j → ks[i]? = some x → spEx x (d + 1) false (m - (ndExs (ks.take i) : Int)) = true)) (fun i _ => nk - (intOf i).toNat)
  case atStart => exact ⟨0, Nat.zero_le _, rfl, grown_refl _ _, HLF, by show (_ : Int) ≤ _; simp [ndExs]; omega, by show ∀ _ _, _; omega⟩
  case round =>
   obtain ⟨j, hj, rfl, hgr, hLj, hnj, hyes⟩ := hrel
   clear HLF
   have x0 := Blk.grown HX0.out hgr.out hgx
   have q3 := x0.cell (i := 3) rfl
   have hb := below_at HB3.out hgr.out hg
   by_cases hlt : j < nk
   ·
    obtain ⟨b3, o3, rfl⟩ := LRow.addr HRW.out (by rw [hkl]; omega)
    obtain ⟨x, hx⟩ : ∃ x, ks[j]? = some x := ⟨ks[j]'(by rw [HNK.out]; exact hlt), List.getElem?_eq_getElem _⟩
    have hxj : (exs ks)[j]? = some x.fl := by rw [exs_map, List.getElem?_map, hx]; rfl
    obtain ⟨us, hvs, hcl⟩ := (LRow.el HRW.out hxj).vals
    obtain ⟨u0, u1, u2, u3, u4, rfl⟩ := five_of (hvs.len.trans (exs_len x))
    replace hcl : ∀ i v, _ → _ := fun i v hv => cell_on (hcl i v hv) hb
    have t0 : wr.cell? ⟨b3, o3 + j * 5, none⟩ = some u0 := hcl 0 _ rfl
    have t1 : wr.cell? ⟨b3, o3 + j * 5 + 1, none⟩ = some u1 := hcl 1 _ rfl
    have t2 : wr.cell? ⟨b3, o3 + j * 5 + 2, none⟩ = some u2 := hcl 2 _ rfl
    have t3 : wr.cell? ⟨b3, o3 + j * 5 + 3, none⟩ = some u3 := hcl 3 _ rfl
    have t4 : wr.cell? ⟨b3, o3 + j * 5 + 4, none⟩ = some u4 := hcl 4 _ rfl
    have hsx : recLen x.fl ≤ 1048576 := Nat.le_trans (recLen_le (List.mem_of_getElem? hxj)) hs2
    have HC := S3 x (List.mem_of_getElem? hx) w0 wr [u0, u1, u2, u3, u4] g (m - (ndExs (ks.take j) : Int)) (d + 1) false hvs hb hg hLj.out (by have := hnj.out; omega) (by omega) hd3 hd2 hsx
    simp only [agg] at HC
    have HJ : Hid (ks[j]? = some x) := hx
    have HNX : Hid (ndExs (ks.take (j + 1)) = ndExs (ks.take j) + ndEx x) := ndExs_next hx
    clear hcl hx hxj hsx hvs
    generalize hsp : spEx x (d + 1) false (m - (ndExs (ks.take j) : Int)) = rr at *
    have HSP : Hid (spEx x (d + 1) false (m - (ndExs (ks.take j) : Int)) = rr) := hsp
    clear hsp
    go_wp2_with fail
    refine HC.mono ?_
    rintro e w4 ⟨rfl, hg4, hL4⟩
    have HG4 : Hid (w2.grownBy w4 (some g)) := grown_trans hgr.out hg4
    have HL4 : Hid (rr = true → Lft w4 g (m - (ndExs (ks.take j) : Int) - (ndEx x : Int))) := hL4
    clear HC t0 t1 t2 t3 t4 q3 x0 hb hg4 hL4
    cases rr
    ·
     have he : Hid (fitSt (.mk 1 n name ks bs es) d left = false) := by show _ = _; rw [HE.out]; unfold spIn; rw [spExs_no HJ.out HSP.out]; rfl
     have hyy := grown_trans HY.out HG4.out
     go_wp2_with fail
     go_ret
     rw [he.out]
     exact ⟨rfl, hyy, by simp⟩
    ·
     have hle := spEx_le HSP.out
     have HL5 : Hid (Lft w4 g (m - (ndExs (ks.take (j + 1)) : Int))) := by
      have := HL4.out rfl
      rw [show m - (ndExs (ks.take j) : Int) - (ndEx x : Int) = m - (ndExs (ks.take (j + 1)) : Int) by rw [HNX.out]; omega] at this
      exact this
     go_wp2_with fail
     go_roundw
     case rel => exact ⟨j + 1, by omega, by go_num, HG4, HL5, (by show (_ : Int) ≤ _; rw [HNX.out]; omega), (show ∀ i x, i < j + 1 → _ from fun i y hi hy => (Nat.lt_or_ge i j).elim (fun h => hyes.out i y h hy) (fun h => by
      obtain rfl : i = j := by omega
      rw [HJ.out] at hy
      cases hy
      exact HSP.out))⟩
     case measure => simp [intOf]; omega
   ·
    have : j = nk := by omega
    subst this
    have HSE : Hid (spExs ks (d + 1) false m = true) := spExs_yes (fun i y hy => hyes.out i y (by have := (List.getElem?_eq_some_iff.1 hy).1; rw [HNK.out] at this; exact this) hy) hm0
    have hle3 := spExs_le HSE.out
    have hLf := hLj.out
    rw [List.take_of_length_le (by rw [HNK.out]; exact Nat.le_refl _)] at hLf
    have hyy := grown_trans HY.out hgr.out
    have q4 := x0.cell (i := 4) rfl
    have q5 := x0.cell (i := 5) rfl
    have HC := S4 w0 wr a4 c4 g (m - (ndExs ks : Int)) (d + 1) HRB.out hb hg hLf (by omega) (by omega) hd3 hd2 hs3
    rw [HNB_.out, show nb = 0 by omega] at HC
    generalize hsp : fitSts bs (d + 1) (m - (ndExs ks : Int)) = r4 at *
    have HS4 : Hid (fitSts bs (d + 1) (m - (ndExs ks : Int)) = r4) := hsp
    clear hsp hgr hLj hnj hyes
    go_wp2_with fail
    refine HC.mono ?_
    rintro e w4 ⟨rfl, hg4, hL4⟩
    replace x0 := x0.grown hg4 hgx
    replace hb := below_at hb hg4 hg
    replace hyy := grown_trans hyy hg4
    clear HC q3 q4 q5 hLf hg4
    cases r4
    ·
     have he : Hid (fitSt (.mk 1 n name ks bs es) d left = false) := by show _ = _; rw [HE.out]; unfold spIn; rw [HS4.out]; simp
     clear hL4
     go_wp2_with fail
     go_ret
     rw [he.out]
     exact ⟨rfl, hyy, by simp⟩
    ·
     have hle4 := fitSts_le HS4.out
     have hL5 := hL4 rfl
     have q5 := x0.cell (i := 5) rfl
     have HC := S5 w0 w4 a5 c5 g (m - (ndExs ks : Int) - (ndSts bs : Int)) (d + 1) HRE.out hb hg hL5 (by omega) (by omega) hd3 hd2 hs4
     rw [HNE_.out, show ne = 0 by omega] at HC
     generalize hsp : fitSts es (d + 1) (m - (ndExs ks : Int) - (ndSts bs : Int)) = r5 at *
     have HS5 : Hid (fitSts es (d + 1) (m - (ndExs ks : Int) - (ndSts bs : Int)) = r5) := hsp
     clear hsp hL4
     go_wp2_with fail
     refine HC.mono ?_
     rintro e w5 ⟨rfl, hg5, hL6⟩
     have he : Hid (fitSt (.mk 1 n name ks bs es) d left = r5) := by show _ = _; rw [HE.out]; unfold spIn; rw [HSE.out, HS4.out, HS5.out]; rfl
     clear HC q5
     go_wp2_with fail
     go_ret
     rw [he.out]
     exact ⟨rfl, grown_trans hyy hg5, fun h => by
      have := hL6 h
      rw [HD.out, show left - ((1 + (ndExs ks + ndSts bs + ndSts es) : Nat) : Int) = m - (ndExs ks : Int) - (ndSts bs : Int) - (ndSts es : Int) by have := HMM.out; omega]
      exact this⟩
 ·
  by_cases c1 : (nk : Int) = 1
  rotate_left
  ·
   have c1' : ((1 : Int) != (nk : Int)) = true := by simp; omega
   have he : Hid (fitSt (.mk 2 n name ks bs es) d left = false) := loc_fail HNK.out HNB_.out HNE_.out (loc0_no (.inr (.inl c1)))
   go_wp2_with fail
   go_ret
   rw [he.out]
   exact ⟨rfl, yy, by simp⟩
  have c1' : ((1 : Int) != (nk : Int)) = false := by simp; omega
  have HC1 : Hid ((nk : Int) = stLeast 2) := c1
  have hkn : nk = 1 := by omega
  clear c1
  have HB1 : Hid ((decide (nb = 0) || stBody 2) = true) := by show _ = _; rw [show stBody 2 = true from by decide]; simp
  have HB2 : Hid ((decide (ne = 0) || decide ((2 : Int) = 2)) = true) := by show _ = _; simp
  have hn3 := specNameOk a2 nn c2 name false w2 (h2.below hb) (by omega)
  by_cases e0 : nn = 0
  rotate_left
  ·
   have e0' : (0 : Int) < (nn : Int) := by omega
   clear hkn
   have he : Hid (fitSt (.mk 2 n name ks bs es) d left = false) := loc_fail HNK.out HNB_.out HNE_.out (loc0_no (.inr (.inr (.inr (.inr (.inl ⟨by decide, by rw [HNA.out]; exact e0⟩))))))
   go_wp2_with fail
   go_ret
   rw [he.out]
   exact ⟨rfl, yy, by simp⟩
  have e0' : ¬ (0 : Int) < (nn : Int) := by omega
  have HE0 : Hid (name.length = 0) := HNA.out.trans e0
  clear e0
  have HKN : Hid _ := hkn
  clear hkn
  by_cases n0 : n = 0
  rotate_left
  ·
   have n0' : (n != 0) = true := by simpa using n0
   have he : Hid (fitSt (.mk 2 n name ks bs es) d left = false) := loc_fail HNK.out HNB_.out HNE_.out (loc0_no (.inr (.inr (.inl (by simp [inB, stHigh]; omega)))))
   go_wp2_with fail
   go_ret
   rw [he.out]
   exact ⟨rfl, yy, by simp⟩
  have n0' : (n != 0) = false := by simpa using n0
  have HNN : Hid (inB n 0 (stHigh 2) = true) := by show _ = _; rw [n0]; decide
  clear n0
  have HLC : Hid (stLoc0 2 n name ks.length bs.length es.length = true) := by show _ = _; rw [HNK.out, HNB_.out, HNE_.out]; exact loc0_yes HI1.out HC1.out HNN.out (by rw [show stNamed 2 = false from by decide]; exact decide_eq_true HE0.out) HB1.out HB2.out
  have HCC : Hid ((!decide ((2 : Int) = 7) || ks.any isCall) = true) := by show _ = _; simp
  have HE : Hid (fitSt (.mk 2 n name ks bs es) d left = spIn ks bs es (d + 1) m) := by
   show _ = _
   rw [fitSt_sp HLC.out HCC.out (by have := HMM.out; omega) (by omega), HMM.out]
  have HD : Hid (ndSt (.mk 2 n name ks bs es) = 1 + (ndExs ks + ndSts bs + ndSts es)) := by show _ = _; simp [ndSt]
  have HX0 : Hid _ := x0
  have HY : Hid (w.grownBy w2 (some g)) := yy
  have HB3 : Hid (Below w0.heap.size w0 w2) := hb
  have HLF : Hid (Lft w2 g (m - (ndExs (ks.take 0) : Int))) := by show Lft _ _ _; simpa [ndExs] using hL2
  have HRW : Hid (LRow w0 a3 c3 5 (exs ks)) := h3
  have HRB : Hid (LRow w0 a4 c4 6 (sts bs)) := h4
  have HRE : Hid (LRow w0 a5 c5 6 (sts es)) := h5
  have hm0 : 0 ≤ m := by omega
  have hm1 : m ≤ 250 := by have := HMM.out; omega
  have hd2 : d + 1 ≤ 17 := by omega
  have hd3 : 0 ≤ d + 1 := by omega
  go_wp2_with fail
  clear q0 q1 q2 q3 q4 q5 x0 yy hb hL2 h3 h4 h5 z0 e0'
  go_loopw [11] (fun i wr => ∃ j : Nat, j ≤ nk ∧ i = .int .i64 j ∧ Hid (w2.grownBy wr (some g)) ∧ Hid (Lft wr g (m - (ndExs (ks.take j) : Int))) ∧ Hid ((ndExs (ks.take j) : Int) ≤ m) ∧ Hid (∀ i x, i < j → ks[i]? = some x → spEx x (d + 1) false (m - (ndExs (ks.take i) : Int)) = true)) (fun i _ => nk - (intOf i).toNat)
  case atStart => exact ⟨0, Nat.zero_le _, rfl, grown_refl _ _, HLF, by show (_ : Int) ≤ _; simp [ndExs]; omega, by show ∀ _ _, _; omega⟩
  case round =>
   obtain ⟨j, hj, rfl, hgr, hLj, hnj, hyes⟩ := hrel
   clear HLF
   have x0 := Blk.grown HX0.out hgr.out hgx
   have q3 := x0.cell (i := 3) rfl
   have hb := below_at HB3.out hgr.out hg
   by_cases hlt : j < nk
   ·
    obtain ⟨b3, o3, rfl⟩ := LRow.addr HRW.out (by rw [hkl]; omega)
    obtain ⟨x, hx⟩ : ∃ x, ks[j]? = some x := ⟨ks[j]'(by rw [HNK.out]; exact hlt), List.getElem?_eq_getElem _⟩
    have hxj : (exs ks)[j]? = some x.fl := by rw [exs_map, List.getElem?_map, hx]; rfl
    obtain ⟨us, hvs, hcl⟩ := (LRow.el HRW.out hxj).vals
    obtain ⟨u0, u1, u2, u3, u4, rfl⟩ := five_of (hvs.len.trans (exs_len x))
    replace hcl : ∀ i v, _ → _ := fun i v hv => cell_on (hcl i v hv) hb
    have t0 : wr.cell? ⟨b3, o3 + j * 5, none⟩ = some u0 := hcl 0 _ rfl
    have t1 : wr.cell? ⟨b3, o3 + j * 5 + 1, none⟩ = some u1 := hcl 1 _ rfl
    have t2 : wr.cell? ⟨b3, o3 + j * 5 + 2, none⟩ = some u2 := hcl 2 _ rfl
    have t3 : wr.cell? ⟨b3, o3 + j * 5 + 3, none⟩ = some u3 := hcl 3 _ rfl
    have t4 : wr.cell? ⟨b3, o3 + j * 5 + 4, none⟩ = some u4 := hcl 4 _ rfl
    have hsx : recLen x.fl ≤ 1048576 := Nat.le_trans (recLen_le (List.mem_of_getElem? hxj)) hs2
    have HC := S3 x (List.mem_of_getElem? hx) w0 wr [u0, u1, u2, u3, u4] g (m - (ndExs (ks.take j) : Int)) (d + 1) false hvs hb hg hLj.out (by have := hnj.out; omega) (by omega) hd3 hd2 hsx
    simp only [agg] at HC
    have HJ : Hid (ks[j]? = some x) := hx
    have HNX : Hid (ndExs (ks.take (j + 1)) = ndExs (ks.take j) + ndEx x) := ndExs_next hx
    clear hcl hx hxj hsx hvs
    generalize hsp : spEx x (d + 1) false (m - (ndExs (ks.take j) : Int)) = rr at *
    have HSP : Hid (spEx x (d + 1) false (m - (ndExs (ks.take j) : Int)) = rr) := hsp
    clear hsp
    go_wp2_with fail
    refine HC.mono ?_
    rintro e w4 ⟨rfl, hg4, hL4⟩
    have HG4 : Hid (w2.grownBy w4 (some g)) := grown_trans hgr.out hg4
    have HL4 : Hid (rr = true → Lft w4 g (m - (ndExs (ks.take j) : Int) - (ndEx x : Int))) := hL4
    clear HC t0 t1 t2 t3 t4 q3 x0 hb hg4 hL4
    cases rr
    ·
     have he : Hid (fitSt (.mk 2 n name ks bs es) d left = false) := by show _ = _; rw [HE.out]; unfold spIn; rw [spExs_no HJ.out HSP.out]; rfl
     have hyy := grown_trans HY.out HG4.out
     go_wp2_with fail
     go_ret
     rw [he.out]
     exact ⟨rfl, hyy, by simp⟩
    ·
     have hle := spEx_le HSP.out
     have HL5 : Hid (Lft w4 g (m - (ndExs (ks.take (j + 1)) : Int))) := by
      have := HL4.out rfl
      rw [show m - (ndExs (ks.take j) : Int) - (ndEx x : Int) = m - (ndExs (ks.take (j + 1)) : Int) by rw [HNX.out]; omega] at this
      exact this
     go_wp2_with fail
     go_roundw
     case rel => exact ⟨j + 1, by omega, by go_num, HG4, HL5, (by show (_ : Int) ≤ _; rw [HNX.out]; omega), (show ∀ i x, i < j + 1 → _ from fun i y hi hy => (Nat.lt_or_ge i j).elim (fun h => hyes.out i y h hy) (fun h => by
      obtain rfl : i = j := by omega
      rw [HJ.out] at hy
      cases hy
      exact HSP.out))⟩
     case measure => simp [intOf]; omega
   ·
    have : j = nk := by omega
    subst this
    have HSE : Hid (spExs ks (d + 1) false m = true) := spExs_yes (fun i y hy => hyes.out i y (by have := (List.getElem?_eq_some_iff.1 hy).1; rw [HNK.out] at this; exact this) hy) hm0
    have hle3 := spExs_le HSE.out
    have hLf := hLj.out
    rw [List.take_of_length_le (by rw [HNK.out]; exact Nat.le_refl _)] at hLf
    have hyy := grown_trans HY.out hgr.out
    have q4 := x0.cell (i := 4) rfl
    have q5 := x0.cell (i := 5) rfl
    have HC := S4 w0 wr a4 c4 g (m - (ndExs ks : Int)) (d + 1) HRB.out hb hg hLf (by omega) (by omega) hd3 hd2 hs3
    rw [HNB_.out] at HC
    generalize hsp : fitSts bs (d + 1) (m - (ndExs ks : Int)) = r4 at *
    have HS4 : Hid (fitSts bs (d + 1) (m - (ndExs ks : Int)) = r4) := hsp
    clear hsp hgr hLj hnj hyes
    go_wp2_with fail
    refine HC.mono ?_
    rintro e w4 ⟨rfl, hg4, hL4⟩
    replace x0 := x0.grown hg4 hgx
    replace hb := below_at hb hg4 hg
    replace hyy := grown_trans hyy hg4
    clear HC q3 q4 q5 hLf hg4
    cases r4
    ·
     have he : Hid (fitSt (.mk 2 n name ks bs es) d left = false) := by show _ = _; rw [HE.out]; unfold spIn; rw [HS4.out]; simp
     clear hL4
     go_wp2_with fail
     go_ret
     rw [he.out]
     exact ⟨rfl, hyy, by simp⟩
    ·
     have hle4 := fitSts_le HS4.out
     have hL5 := hL4 rfl
     have q5 := x0.cell (i := 5) rfl
     have HC := S5 w0 w4 a5 c5 g (m - (ndExs ks : Int) - (ndSts bs : Int)) (d + 1) HRE.out hb hg hL5 (by omega) (by omega) hd3 hd2 hs4
     rw [HNE_.out] at HC
     generalize hsp : fitSts es (d + 1) (m - (ndExs ks : Int) - (ndSts bs : Int)) = r5 at *
     have HS5 : Hid (fitSts es (d + 1) (m - (ndExs ks : Int) - (ndSts bs : Int)) = r5) := hsp
     clear hsp hL4
     go_wp2_with fail
     refine HC.mono ?_
     rintro e w5 ⟨rfl, hg5, hL6⟩
     have he : Hid (fitSt (.mk 2 n name ks bs es) d left = r5) := by show _ = _; rw [HE.out]; unfold spIn; rw [HSE.out, HS4.out, HS5.out]; rfl
     clear HC q5
     go_wp2_with fail
     go_ret
     rw [he.out]
     exact ⟨rfl, grown_trans hyy hg5, fun h => by
      have := hL6 h
      rw [HD.out, show left - ((1 + (ndExs ks + ndSts bs + ndSts es) : Nat) : Int) = m - (ndExs ks : Int) - (ndSts bs : Int) - (ndSts es : Int) by have := HMM.out; omega]
      exact this⟩
 ·
  by_cases c1 : (nk : Int) = 1
  rotate_left
  ·
   have c1' : ((1 : Int) != (nk : Int)) = true := by simp; omega
   have he : Hid (fitSt (.mk 3 n name ks bs es) d left = false) := loc_fail HNK.out HNB_.out HNE_.out (loc0_no (.inr (.inl c1)))
   go_wp2_with fail
   go_ret
   rw [he.out]
   exact ⟨rfl, yy, by simp⟩
  have c1' : ((1 : Int) != (nk : Int)) = false := by simp; omega
  have HC1 : Hid ((nk : Int) = stLeast 3) := c1
  have hkn : nk = 1 := by omega
  clear c1
  have HB1 : Hid ((decide (nb = 0) || stBody 3) = true) := by show _ = _; rw [show stBody 3 = true from by decide]; simp
  by_cases b2 : ne = 0
  rotate_left
  ·
   have b2' : (0 : Int) < (ne : Int) := by omega
   clear hkn
   have he : Hid (fitSt (.mk 3 n name ks bs es) d left = false) := loc_fail HNK.out HNB_.out HNE_.out (loc0_no (.inr (.inr (.inr (.inr (.inr (.inr ⟨b2, by decide⟩)))))))
   go_wp2_with fail
   go_ret
   rw [he.out]
   exact ⟨rfl, yy, by simp⟩
  have b2' : ¬ (0 : Int) < (ne : Int) := by omega
  have HB2 : Hid ((decide (ne = 0) || decide ((3 : Int) = 2)) = true) := by show _ = _; rw [decide_eq_true b2]; rfl
  clear b2
  have hn3 := specNameOk a2 nn c2 name false w2 (h2.below hb) (by omega)
  by_cases e0 : nn = 0
  rotate_left
  ·
   have e0' : (0 : Int) < (nn : Int) := by omega
   clear hkn
   have he : Hid (fitSt (.mk 3 n name ks bs es) d left = false) := loc_fail HNK.out HNB_.out HNE_.out (loc0_no (.inr (.inr (.inr (.inr (.inl ⟨by decide, by rw [HNA.out]; exact e0⟩))))))
   go_wp2_with fail
   go_ret
   rw [he.out]
   exact ⟨rfl, yy, by simp⟩
  have e0' : ¬ (0 : Int) < (nn : Int) := by omega
  have HE0 : Hid (name.length = 0) := HNA.out.trans e0
  clear e0
  have HKN : Hid _ := hkn
  clear hkn
  by_cases n0 : n = 0
  rotate_left
  ·
   have n0' : (n != 0) = true := by simpa using n0
   have he : Hid (fitSt (.mk 3 n name ks bs es) d left = false) := loc_fail HNK.out HNB_.out HNE_.out (loc0_no (.inr (.inr (.inl (by simp [inB, stHigh]; omega)))))
   go_wp2_with fail
   go_ret
   rw [he.out]
   exact ⟨rfl, yy, by simp⟩
  have n0' : (n != 0) = false := by simpa using n0
  have HNN : Hid (inB n 0 (stHigh 3) = true) := by show _ = _; rw [n0]; decide
  clear n0
  have HLC : Hid (stLoc0 3 n name ks.length bs.length es.length = true) := by show _ = _; rw [HNK.out, HNB_.out, HNE_.out]; exact loc0_yes HI1.out HC1.out HNN.out (by rw [show stNamed 3 = false from by decide]; exact decide_eq_true HE0.out) HB1.out HB2.out
  have HCC : Hid ((!decide ((3 : Int) = 7) || ks.any isCall) = true) := by show _ = _; simp
  have HE : Hid (fitSt (.mk 3 n name ks bs es) d left = spIn ks bs es (d + 1) m) := by
   show _ = _
   rw [fitSt_sp HLC.out HCC.out (by have := HMM.out; omega) (by omega), HMM.out]
  have HD : Hid (ndSt (.mk 3 n name ks bs es) = 1 + (ndExs ks + ndSts bs + ndSts es)) := by show _ = _; simp [ndSt]
  have HX0 : Hid _ := x0
  have HY : Hid (w.grownBy w2 (some g)) := yy
  have HB3 : Hid (Below w0.heap.size w0 w2) := hb
  have HLF : Hid (Lft w2 g (m - (ndExs (ks.take 0) : Int))) := by show Lft _ _ _; simpa [ndExs] using hL2
  have HRW : Hid (LRow w0 a3 c3 5 (exs ks)) := h3
  have HRB : Hid (LRow w0 a4 c4 6 (sts bs)) := h4
  have HRE : Hid (LRow w0 a5 c5 6 (sts es)) := h5
  have hm0 : 0 ≤ m := by omega
  have hm1 : m ≤ 250 := by have := HMM.out; omega
  have hd2 : d + 1 ≤ 17 := by omega
  have hd3 : 0 ≤ d + 1 := by omega
  go_wp2_with fail
  clear q0 q1 q2 q3 q4 q5 x0 yy hb hL2 h3 h4 h5 z0 e0' b2'
  go_loopw [11] (fun i wr => ∃ j : Nat, j ≤ nk ∧ i = .int .i64 j ∧ Hid (w2.grownBy wr (some g)) ∧ Hid (Lft wr g (m - (ndExs (ks.take j) : Int))) ∧ Hid ((ndExs (ks.take j) : Int) ≤ m) ∧ Hid (∀ i x, i < j → ks[i]? = some x → spEx x (d + 1) false (m - (ndExs (ks.take i) : Int)) = true)) (fun i _ => nk - (intOf i).toNat)
  case atStart => exact ⟨0, Nat.zero_le _, rfl, grown_refl _ _, HLF, by show (_ : Int) ≤ _; simp [ndExs]; omega, by show ∀ _ _, _; omega⟩
  case round =>
   obtain ⟨j, hj, rfl, hgr, hLj, hnj, hyes⟩ := hrel
   clear HLF
   have x0 := Blk.grown HX0.out hgr.out hgx
   have q3 := x0.cell (i := 3) rfl
   have hb := below_at HB3.out hgr.out hg
   by_cases hlt : j < nk
   ·
    obtain ⟨b3, o3, rfl⟩ := LRow.addr HRW.out (by rw [hkl]; omega)
    obtain ⟨x, hx⟩ : ∃ x, ks[j]? = some x := ⟨ks[j]'(by rw [HNK.out]; exact hlt), List.getElem?_eq_getElem _⟩
    have hxj : (exs ks)[j]? = some x.fl := by rw [exs_map, List.getElem?_map, hx]; rfl
    obtain ⟨us, hvs, hcl⟩ := (LRow.el HRW.out hxj).vals
    obtain ⟨u0, u1, u2, u3, u4, rfl⟩ := five_of (hvs.len.trans (exs_len x))
    replace hcl : ∀ i v, _ → _ := fun i v hv => cell_on (hcl i v hv) hb
    have t0 : wr.cell? ⟨b3, o3 + j * 5, none⟩ = some u0 := hcl 0 _ rfl
    have t1 : wr.cell? ⟨b3, o3 + j * 5 + 1, none⟩ = some u1 := hcl 1 _ rfl
    have t2 : wr.cell? ⟨b3, o3 + j * 5 + 2, none⟩ = some u2 := hcl 2 _ rfl
    have t3 : wr.cell? ⟨b3, o3 + j * 5 + 3, none⟩ = some u3 := hcl 3 _ rfl
    have t4 : wr.cell? ⟨b3, o3 + j * 5 + 4, none⟩ = some u4 := hcl 4 _ rfl
    have hsx : recLen x.fl ≤ 1048576 := Nat.le_trans (recLen_le (List.mem_of_getElem? hxj)) hs2
    have HC := S3 x (List.mem_of_getElem? hx) w0 wr [u0, u1, u2, u3, u4] g (m - (ndExs (ks.take j) : Int)) (d + 1) false hvs hb hg hLj.out (by have := hnj.out; omega) (by omega) hd3 hd2 hsx
    simp only [agg] at HC
    have HJ : Hid (ks[j]? = some x) := hx
    have HNX : Hid (ndExs (ks.take (j + 1)) = ndExs (ks.take j) + ndEx x) := ndExs_next hx
    clear hcl hx hxj hsx hvs
    generalize hsp : spEx x (d + 1) false (m - (ndExs (ks.take j) : Int)) = rr at *
    have HSP : Hid (spEx x (d + 1) false (m - (ndExs (ks.take j) : Int)) = rr) := hsp
    clear hsp
    go_wp2_with fail
    refine HC.mono ?_
    rintro e w4 ⟨rfl, hg4, hL4⟩
    have HG4 : Hid (w2.grownBy w4 (some g)) := grown_trans hgr.out hg4
    have HL4 : Hid (rr = true → Lft w4 g (m - (ndExs (ks.take j) : Int) - (ndEx x : Int))) := hL4
    clear HC t0 t1 t2 t3 t4 q3 x0 hb hg4 hL4
    cases rr
    ·
     have he : Hid (fitSt (.mk 3 n name ks bs es) d left = false) := by show _ = _; rw [HE.out]; unfold spIn; rw [spExs_no HJ.out HSP.out]; rfl
     have hyy := grown_trans HY.out HG4.out
     go_wp2_with fail
     go_ret
     rw [he.out]
     exact ⟨rfl, hyy, by simp⟩
    ·
     have hle := spEx_le HSP.out
     have HL5 : Hid (Lft w4 g (m - (ndExs (ks.take (j + 1)) : Int))) := by
      have := HL4.out rfl
      rw [show m - (ndExs (ks.take j) : Int) - (ndEx x : Int) = m - (ndExs (ks.take (j + 1)) : Int) by rw [HNX.out]; omega] at this
      exact this
     go_wp2_with fail
     go_roundw
     case rel => exact ⟨j + 1, by omega, by go_num, HG4, HL5, (by show (_ : Int) ≤ _; rw [HNX.out]; omega), (show ∀ i x, i < j + 1 → _ from fun i y hi hy => (Nat.lt_or_ge i j).elim (fun h => hyes.out i y h hy) (fun h => by
      obtain rfl : i = j := by omega
      rw [HJ.out] at hy
      cases hy
      exact HSP.out))⟩
     case measure => simp [intOf]; omega
   ·
    have : j = nk := by omega
    subst this
    have HSE : Hid (spExs ks (d + 1) false m = true) := spExs_yes (fun i y hy => hyes.out i y (by have := (List.getElem?_eq_some_iff.1 hy).1; rw [HNK.out] at this; exact this) hy) hm0
    have hle3 := spExs_le HSE.out
    have hLf := hLj.out
    rw [List.take_of_length_le (by rw [HNK.out]; exact Nat.le_refl _)] at hLf
    have hyy := grown_trans HY.out hgr.out
    have q4 := x0.cell (i := 4) rfl
    have q5 := x0.cell (i := 5) rfl
    have HC := S4 w0 wr a4 c4 g (m - (ndExs ks : Int)) (d + 1) HRB.out hb hg hLf (by omega) (by omega) hd3 hd2 hs3
    rw [HNB_.out] at HC
    generalize hsp : fitSts bs (d + 1) (m - (ndExs ks : Int)) = r4 at *
    have HS4 : Hid (fitSts bs (d + 1) (m - (ndExs ks : Int)) = r4) := hsp
    clear hsp hgr hLj hnj hyes
    go_wp2_with fail
    refine HC.mono ?_
    rintro e w4 ⟨rfl, hg4, hL4⟩
    replace x0 := x0.grown hg4 hgx
    replace hb := below_at hb hg4 hg
    replace hyy := grown_trans hyy hg4
    clear HC q3 q4 q5 hLf hg4
    cases r4
    ·
     have he : Hid (fitSt (.mk 3 n name ks bs es) d left = false) := by show _ = _; rw [HE.out]; unfold spIn; rw [HS4.out]; simp
     clear hL4
     go_wp2_with fail
     go_ret
     rw [he.out]
     exact ⟨rfl, hyy, by simp⟩
    ·
     have hle4 := fitSts_le HS4.out
     have hL5 := hL4 rfl
     have q5 := x0.cell (i := 5) rfl
     have HC := S5 w0 w4 a5 c5 g (m - (ndExs ks : Int) - (ndSts bs : Int)) (d + 1) HRE.out hb hg hL5 (by omega) (by omega) hd3 hd2 hs4
     rw [HNE_.out, show ne = 0 by omega] at HC
     generalize hsp : fitSts es (d + 1) (m - (ndExs ks : Int) - (ndSts bs : Int)) = r5 at *
     have HS5 : Hid (fitSts es (d + 1) (m - (ndExs ks : Int) - (ndSts bs : Int)) = r5) := hsp
     clear hsp hL4
     go_wp2_with fail
     refine HC.mono ?_
     rintro e w5 ⟨rfl, hg5, hL6⟩
     have he : Hid (fitSt (.mk 3 n name ks bs es) d left = r5) := by show _ = _; rw [HE.out]; unfold spIn; rw [HSE.out, HS4.out, HS5.out]; rfl
     clear HC q5
     go_wp2_with fail
     go_ret
     rw [he.out]
     exact ⟨rfl, grown_trans hyy hg5, fun h => by
      have := hL6 h
      rw [HD.out, show left - ((1 + (ndExs ks + ndSts bs + ndSts es) : Nat) : Int) = m - (ndExs ks : Int) - (ndSts bs : Int) - (ndSts es : Int) by have := HMM.out; omega]
      exact this⟩
 ·
  by_cases c1 : (nk : Int) = 1
  rotate_left
  ·
   have c1' : ((1 : Int) != (nk : Int)) = true := by simp; omega
   have he : Hid (fitSt (.mk 4 n name ks bs es) d left = false) := loc_fail HNK.out HNB_.out HNE_.out (loc0_no (.inr (.inl c1)))
   go_wp2_with fail
   go_ret
   rw [he.out]
   exact ⟨rfl, yy, by simp⟩
  have c1' : ((1 : Int) != (nk : Int)) = false := by simp; omega
  have HC1 : Hid ((nk : Int) = stLeast 4) := c1
  have hkn : nk = 1 := by omega
  clear c1
  by_cases b1 : nb = 0
  rotate_left
  ·
   have b1' : (0 : Int) < (nb : Int) := by omega
   clear hkn
   have he : Hid (fitSt (.mk 4 n name ks bs es) d left = false) := loc_fail HNK.out HNB_.out HNE_.out (loc0_no (.inr (.inr (.inr (.inr (.inr (.inl ⟨b1, by decide⟩)))))))
   go_wp2_with fail
   go_ret
   rw [he.out]
   exact ⟨rfl, yy, by simp⟩
  have b1' : ¬ (0 : Int) < (nb : Int) := by omega
  have HB1 : Hid ((decide (nb = 0) || stBody 4) = true) := by show _ = _; rw [decide_eq_true b1]; rfl
  clear b1
  by_cases b2 : ne = 0
  rotate_left
  ·
   have b2' : (0 : Int) < (ne : Int) := by omega
   clear hkn
   have he : Hid (fitSt (.mk 4 n name ks bs es) d left = false) := loc_fail HNK.out HNB_.out HNE_.out (loc0_no (.inr (.inr (.inr (.inr (.inr (.inr ⟨b2, by decide⟩)))))))
   go_wp2_with fail
   go_ret
   rw [he.out]
   exact ⟨rfl, yy, by simp⟩
  have b2' : ¬ (0 : Int) < (ne : Int) := by omega
  have HB2 : Hid ((decide (ne = 0) || decide ((4 : Int) = 2)) = true) := by show _ = _; rw [decide_eq_true b2]; rfl
  clear b2
  have hn3 := specNameOk a2 nn c2 name false w2 (h2.below hb) (by omega)
  by_cases e0 : nn = 0
  rotate_left
  ·
   have e0' : (0 : Int) < (nn : Int) := by omega
   clear hkn
   have he : Hid (fitSt (.mk 4 n name ks bs es) d left = false) := loc_fail HNK.out HNB_.out HNE_.out (loc0_no (.inr (.inr (.inr (.inr (.inl ⟨by decide, by rw [HNA.out]; exact e0⟩))))))
   go_wp2_with fail
   go_ret
   rw [he.out]
   exact ⟨rfl, yy, by simp⟩
  have e0' : ¬ (0 : Int) < (nn : Int) := by omega
  have HE0 : Hid (name.length = 0) := HNA.out.trans e0
  clear e0
  have HKN : Hid _ := hkn
  clear hkn
  by_cases n0 : n = 0
  rotate_left
  ·
   have n0' : (n != 0) = true := by simpa using n0
   have he : Hid (fitSt (.mk 4 n name ks bs es) d left = false) := loc_fail HNK.out HNB_.out HNE_.out (loc0_no (.inr (.inr (.inl (by simp [inB, stHigh]; omega)))))
   go_wp2_with fail
   go_ret
   rw [he.out]
   exact ⟨rfl, yy, by simp⟩
  have n0' : (n != 0) = false := by simpa using n0
  have HNN : Hid (inB n 0 (stHigh 4) = true) := by show _ = _; rw [n0]; decide
  clear n0
  have HLC : Hid (stLoc0 4 n name ks.length bs.length es.length = true) := by show _ = _; rw [HNK.out, HNB_.out, HNE_.out]; exact loc0_yes HI1.out HC1.out HNN.out (by rw [show stNamed 4 = false from by decide]; exact decide_eq_true HE0.out) HB1.out HB2.out
  have HCC : Hid ((!decide ((4 : Int) = 7) || ks.any isCall) = true) := by show _ = _; simp
  have HE : Hid (fitSt (.mk 4 n name ks bs es) d left = spIn ks bs es (d + 1) m) := by
   show _ = _
   rw [fitSt_sp HLC.out HCC.out (by have := HMM.out; omega) (by omega), HMM.out]
  have HD : Hid (ndSt (.mk 4 n name ks bs es) = 1 + (ndExs ks + ndSts bs + ndSts es)) := by show _ = _; simp [ndSt]
  have HX0 : Hid _ := x0
  have HY : Hid (w.grownBy w2 (some g)) := yy
  have HB3 : Hid (Below w0.heap.size w0 w2) := hb
  have HLF : Hid (Lft w2 g (m - (ndExs (ks.take 0) : Int))) := by show Lft _ _ _; simpa [ndExs] using hL2
  have HRW : Hid (LRow w0 a3 c3 5 (exs ks)) := h3
  have HRB : Hid (LRow w0 a4 c4 6 (sts bs)) := h4
  have HRE : Hid (LRow w0 a5 c5 6 (sts es)) := h5
  have hm0 : 0 ≤ m := by omega
  have hm1 : m ≤ 250 := by have := HMM.out; omega
  have hd2 : d + 1 ≤ 17 := by omega
  have hd3 : 0 ≤ d + 1 := by omega
  go_wp2_with fail
  clear q0 q1 q2 q3 q4 q5 x0 yy hb hL2 h3 h4 h5 z0 e0' b1' b2'
  go_loopw [11] (fun i wr => ∃ j : Nat, j ≤ nk ∧ i = .int .i64 j ∧ Hid (w2.grownBy wr (some g)) ∧ Hid (Lft wr g (m - (ndExs (ks.take j) : Int))) ∧ Hid ((ndExs (ks.take j) : Int) ≤ m) ∧ Hid (∀ i x, i < j → ks[i]? = some x → spEx x (d + 1) false (m - (ndExs (ks.take i) : Int)) = true)) (fun i _ => nk - (intOf i).toNat)
  case atStart => exact ⟨0, Nat.zero_le _, rfl, grown_refl _ _, HLF, by show (_ : Int) ≤ _; simp [ndExs]; omega, by show ∀ _ _, _; omega⟩
  case round =>
   obtain ⟨j, hj, rfl, hgr, hLj, hnj, hyes⟩ := hrel
   clear HLF
   have x0 := Blk.grown HX0.out hgr.out hgx
   have q3 := x0.cell (i := 3) rfl
   have hb := below_at HB3.out hgr.out hg
   by_cases hlt : j < nk
   ·
    obtain ⟨b3, o3, rfl⟩ := LRow.addr HRW.out (by rw [hkl]; omega)
    obtain ⟨x, hx⟩ : ∃ x, ks[j]? = some x := ⟨ks[j]'(by rw [HNK.out]; exact hlt), List.getElem?_eq_getElem _⟩
    have hxj : (exs ks)[j]? = some x.fl := by rw [exs_map, List.getElem?_map, hx]; rfl
    obtain ⟨us, hvs, hcl⟩ := (LRow.el HRW.out hxj).vals
    obtain ⟨u0, u1, u2, u3, u4, rfl⟩ := five_of (hvs.len.trans (exs_len x))
    replace hcl : ∀ i v, _ → _ := fun i v hv => cell_on (hcl i v hv) hb
    have t0 : wr.cell? ⟨b3, o3 + j * 5, none⟩ = some u0 := hcl 0 _ rfl
    have t1 : wr.cell? ⟨b3, o3 + j * 5 + 1, none⟩ = some u1 := hcl 1 _ rfl
    have t2 : wr.cell? ⟨b3, o3 + j * 5 + 2, none⟩ = some u2 := hcl 2 _ rfl
    have t3 : wr.cell? ⟨b3, o3 + j * 5 + 3, none⟩ = some u3 := hcl 3 _ rfl
    have t4 : wr.cell? ⟨b3, o3 + j * 5 + 4, none⟩ = some u4 := hcl 4 _ rfl
    have hsx : recLen x.fl ≤ 1048576 := Nat.le_trans (recLen_le (List.mem_of_getElem? hxj)) hs2
    have HC := S3 x (List.mem_of_getElem? hx) w0 wr [u0, u1, u2, u3, u4] g (m - (ndExs (ks.take j) : Int)) (d + 1) false hvs hb hg hLj.out (by have := hnj.out; omega) (by omega) hd3 hd2 hsx
    simp only [agg] at HC
    have HJ : Hid (ks[j]? = some x) := hx
    have HNX : Hid (ndExs (ks.take (j + 1)) = ndExs (ks.take j) + ndEx x) := ndExs_next hx
    clear hcl hx hxj hsx hvs
    generalize hsp : spEx x (d + 1) false (m - (ndExs (ks.take j) : Int)) = rr at *
    have HSP : Hid (spEx x (d + 1) false (m - (ndExs (ks.take j) : Int)) = rr) := hsp
    clear hsp
    go_wp2_with fail
    refine HC.mono ?_
    rintro e w4 ⟨rfl, hg4, hL4⟩
    have HG4 : Hid (w2.grownBy w4 (some g)) := grown_trans hgr.out hg4
    have HL4 : Hid (rr = true → Lft w4 g (m - (ndExs (ks.take j) : Int) - (ndEx x : Int))) := hL4
    clear HC t0 t1 t2 t3 t4 q3 x0 hb hg4 hL4
    cases rr
    ·
     have he : Hid (fitSt (.mk 4 n name ks bs es) d left = false) := by show _ = _; rw [HE.out]; unfold spIn; rw [spExs_no HJ.out HSP.out]; rfl
     have hyy := grown_trans HY.out HG4.out
     go_wp2_with fail
     go_ret
     rw [he.out]
     exact ⟨rfl, hyy, by simp⟩
    ·
     have hle := spEx_le HSP.out
     have HL5 : Hid (Lft w4 g (m - (ndExs (ks.take (j + 1)) : Int))) := by
      have := HL4.out rfl
      rw [show m - (ndExs (ks.take j) : Int) - (ndEx x : Int) = m - (ndExs (ks.take (j + 1)) : Int) by rw [HNX.out]; omega] at this
      exact this
     go_wp2_with fail
     go_roundw
     case rel => exact ⟨j + 1, by omega, by go_num, HG4, HL5, (by show (_ : Int) ≤ _; rw [HNX.out]; omega), (show ∀ i x, i < j + 1 → _ from fun i y hi hy => (Nat.lt_or_ge i j).elim (fun h => hyes.out i y h hy) (fun h => by
      obtain rfl : i = j := by omega
      rw [HJ.out] at hy
      cases hy
      exact HSP.out))⟩
     case measure => simp [intOf]; omega
   ·
    have : j = nk := by omega
    subst this
    have HSE : Hid (spExs ks (d + 1) false m = true) := spExs_yes (fun i y hy => hyes.out i y (by have := (List.getElem?_eq_some_iff.1 hy).1; rw [HNK.out] at this; exact this) hy) hm0
    have hle3 := spExs_le HSE.out
    have hLf := hLj.out
    rw [List.take_of_length_le (by rw [HNK.out]; exact Nat.le_refl _)] at hLf
    have hyy := grown_trans HY.out hgr.out
    have q4 := x0.cell (i := 4) rfl
    have q5 := x0.cell (i := 5) rfl
    have HC := S4 w0 wr a4 c4 g (m - (ndExs ks : Int)) (d + 1) HRB.out hb hg hLf (by omega) (by omega) hd3 hd2 hs3
    rw [HNB_.out, show nb = 0 by omega] at HC
    generalize hsp : fitSts bs (d + 1) (m - (ndExs ks : Int)) = r4 at *
    have HS4 : Hid (fitSts bs (d + 1) (m - (ndExs ks : Int)) = r4) := hsp
    clear hsp hgr hLj hnj hyes
    go_wp2_with fail
    refine HC.mono ?_
    rintro e w4 ⟨rfl, hg4, hL4⟩
    replace x0 := x0.grown hg4 hgx
    replace hb := below_at hb hg4 hg
    replace hyy := grown_trans hyy hg4
    clear HC q3 q4 q5 hLf hg4
    cases r4
    ·
     have he : Hid (fitSt (.mk 4 n name ks bs es) d left = false) := by show _ = _; rw [HE.out]; unfold spIn; rw [HS4.out]; simp
     clear hL4
     go_wp2_with fail
     go_ret
     rw [he.out]
     exact ⟨rfl, hyy, by simp⟩
    ·
     have hle4 := fitSts_le HS4.out
     have hL5 := hL4 rfl
     have q5 := x0.cell (i := 5) rfl
     have HC := S5 w0 w4 a5 c5 g (m - (ndExs ks : Int) - (ndSts bs : Int)) (d + 1) HRE.out hb hg hL5 (by omega) (by omega) hd3 hd2 hs4
     rw [HNE_.out, show ne = 0 by omega] at HC
     generalize hsp : fitSts es (d + 1) (m - (ndExs ks : Int) - (ndSts bs : Int)) = r5 at *
     have HS5 : Hid (fitSts es (d + 1) (m - (ndExs ks : Int) - (ndSts bs : Int)) = r5) := hsp
     clear hsp hL4
     go_wp2_with fail
     refine HC.mono ?_
     rintro e w5 ⟨rfl, hg5, hL6⟩
     have he : Hid (fitSt (.mk 4 n name ks bs es) d left = r5) := by show _ = _; rw [HE.out]; unfold spIn; rw [HSE.out, HS4.out, HS5.out]; rfl
     clear HC q5
     go_wp2_with fail
     go_ret
     rw [he.out]
     exact ⟨rfl, grown_trans hyy hg5, fun h => by
      have := hL6 h
      rw [HD.out, show left - ((1 + (ndExs ks + ndSts bs + ndSts es) : Nat) : Int) = m - (ndExs ks : Int) - (ndSts bs : Int) - (ndSts es : Int) by have := HMM.out; omega]
      exact this⟩
 ·
  by_cases c1 : (nk : Int) = 1
  rotate_left
  ·
   have c1' : ((1 : Int) != (nk : Int)) = true := by simp; omega
   have he : Hid (fitSt (.mk 5 n name ks bs es) d left = false) := loc_fail HNK.out HNB_.out HNE_.out (loc0_no (.inr (.inl c1)))
   go_wp2_with fail
   go_ret
   rw [he.out]
   exact ⟨rfl, yy, by simp⟩
  have c1' : ((1 : Int) != (nk : Int)) = false := by simp; omega
  have HC1 : Hid ((nk : Int) = stLeast 5) := c1
  have hkn : nk = 1 := by omega
  clear c1
  by_cases b1 : nb = 0
  rotate_left
  ·
   have b1' : (0 : Int) < (nb : Int) := by omega
   clear hkn
   have he : Hid (fitSt (.mk 5 n name ks bs es) d left = false) := loc_fail HNK.out HNB_.out HNE_.out (loc0_no (.inr (.inr (.inr (.inr (.inr (.inl ⟨b1, by decide⟩)))))))
   go_wp2_with fail
   go_ret
   rw [he.out]
   exact ⟨rfl, yy, by simp⟩
  have b1' : ¬ (0 : Int) < (nb : Int) := by omega
  have HB1 : Hid ((decide (nb = 0) || stBody 5) = true) := by show _ = _; rw [decide_eq_true b1]; rfl
  clear b1
  by_cases b2 : ne = 0
  rotate_left
  ·
   have b2' : (0 : Int) < (ne : Int) := by omega
   clear hkn
   have he : Hid (fitSt (.mk 5 n name ks bs es) d left = false) := loc_fail HNK.out HNB_.out HNE_.out (loc0_no (.inr (.inr (.inr (.inr (.inr (.inr ⟨b2, by decide⟩)))))))
   go_wp2_with fail
   go_ret
   rw [he.out]
   exact ⟨rfl, yy, by simp⟩
  have b2' : ¬ (0 : Int) < (ne : Int) := by omega
  have HB2 : Hid ((decide (ne = 0) || decide ((5 : Int) = 2)) = true) := by show _ = _; rw [decide_eq_true b2]; rfl
  clear b2
  have hn3 := specNameOk a2 nn c2 name false w2 (h2.below hb) (by omega)
  by_cases e0 : nn = 0
  rotate_left
  ·
   have e0' : (0 : Int) < (nn : Int) := by omega
   clear hkn
   have he : Hid (fitSt (.mk 5 n name ks bs es) d left = false) := loc_fail HNK.out HNB_.out HNE_.out (loc0_no (.inr (.inr (.inr (.inr (.inl ⟨by decide, by rw [HNA.out]; exact e0⟩))))))
   go_wp2_with fail
   go_ret
   rw [he.out]
   exact ⟨rfl, yy, by simp⟩
  have e0' : ¬ (0 : Int) < (nn : Int) := by omega
  have HE0 : Hid (name.length = 0) := HNA.out.trans e0
  clear e0
  have HKN : Hid _ := hkn
  clear hkn
  by_cases n0 : n = 0
  rotate_left
  ·
   have n0' : (n != 0) = true := by simpa using n0
   have he : Hid (fitSt (.mk 5 n name ks bs es) d left = false) := loc_fail HNK.out HNB_.out HNE_.out (loc0_no (.inr (.inr (.inl (by simp [inB, stHigh]; omega)))))
   go_wp2_with fail
   go_ret
   rw [he.out]
   exact ⟨rfl, yy, by simp⟩
  have n0' : (n != 0) = false := by simpa using n0
  have HNN : Hid (inB n 0 (stHigh 5) = true) := by show _ = _; rw [n0]; decide
  clear n0
  have HLC : Hid (stLoc0 5 n name ks.length bs.length es.length = true) := by show _ = _; rw [HNK.out, HNB_.out, HNE_.out]; exact loc0_yes HI1.out HC1.out HNN.out (by rw [show stNamed 5 = false from by decide]; exact decide_eq_true HE0.out) HB1.out HB2.out
  have HCC : Hid ((!decide ((5 : Int) = 7) || ks.any isCall) = true) := by show _ = _; simp
  have HE : Hid (fitSt (.mk 5 n name ks bs es) d left = spIn ks bs es (d + 1) m) := by
   show _ = _
   rw [fitSt_sp HLC.out HCC.out (by have := HMM.out; omega) (by omega), HMM.out]
  have HD : Hid (ndSt (.mk 5 n name ks bs es) = 1 + (ndExs ks + ndSts bs + ndSts es)) := by show _ = _; simp [ndSt]
  have HX0 : Hid _ := x0
  have HY : Hid (w.grownBy w2 (some g)) := yy
  have HB3 : Hid (Below w0.heap.size w0 w2) := hb
  have HLF : Hid (Lft w2 g (m - (ndExs (ks.take 0) : Int))) := by show Lft _ _ _; simpa [ndExs] using hL2
  have HRW : Hid (LRow w0 a3 c3 5 (exs ks)) := h3
  have HRB : Hid (LRow w0 a4 c4 6 (sts bs)) := h4
  have HRE : Hid (LRow w0 a5 c5 6 (sts es)) := h5
  have hm0 : 0 ≤ m := by omega
  have hm1 : m ≤ 250 := by have := HMM.out; omega
  have hd2 : d + 1 ≤ 17 := by omega
  have hd3 : 0 ≤ d + 1 := by omega
  go_wp2_with fail
  clear q0 q1 q2 q3 q4 q5 x0 yy hb hL2 h3 h4 h5 z0 e0' b1' b2'
  go_loopw [11] (fun i wr => ∃ j : Nat, j ≤ nk ∧ i = .int .i64 j ∧ Hid (w2.grownBy wr (some g)) ∧ Hid (Lft wr g (m - (ndExs (ks.take j) : Int))) ∧ Hid ((ndExs (ks.take j) : Int) ≤ m) ∧ Hid (∀ i x, i < j → ks[i]? = some x → spEx x (d + 1) false (m - (ndExs (ks.take i) : Int)) = true)) (fun i _ => nk - (intOf i).toNat)
  case atStart => exact ⟨0, Nat.zero_le _, rfl, grown_refl _ _, HLF, by show (_ : Int) ≤ _; simp [ndExs]; omega, by show ∀ _ _, _; omega⟩
  case round =>
   obtain ⟨j, hj, rfl, hgr, hLj, hnj, hyes⟩ := hrel
   clear HLF
   have x0 := Blk.grown HX0.out hgr.out hgx
   have q3 := x0.cell (i := 3) rfl
   have hb := below_at HB3.out hgr.out hg
   by_cases hlt : j < nk
   ·
    obtain ⟨b3, o3, rfl⟩ := LRow.addr HRW.out (by rw [hkl]; omega)
    obtain ⟨x, hx⟩ : ∃ x, ks[j]? = some x := ⟨ks[j]'(by rw [HNK.out]; exact hlt), List.getElem?_eq_getElem _⟩
    have hxj : (exs ks)[j]? = some x.fl := by rw [exs_map, List.getElem?_map, hx]; rfl
    obtain ⟨us, hvs, hcl⟩ := (LRow.el HRW.out hxj).vals
    obtain ⟨u0, u1, u2, u3, u4, rfl⟩ := five_of (hvs.len.trans (exs_len x))
    replace hcl : ∀ i v, _ → _ := fun i v hv => cell_on (hcl i v hv) hb
    have t0 : wr.cell? ⟨b3, o3 + j * 5, none⟩ = some u0 := hcl 0 _ rfl
    have t1 : wr.cell? ⟨b3, o3 + j * 5 + 1, none⟩ = some u1 := hcl 1 _ rfl
    have t2 : wr.cell? ⟨b3, o3 + j * 5 + 2, none⟩ = some u2 := hcl 2 _ rfl
    have t3 : wr.cell? ⟨b3, o3 + j * 5 + 3, none⟩ = some u3 := hcl 3 _ rfl
    have t4 : wr.cell? ⟨b3, o3 + j * 5 + 4, none⟩ = some u4 := hcl 4 _ rfl
    have hsx : recLen x.fl ≤ 1048576 := Nat.le_trans (recLen_le (List.mem_of_getElem? hxj)) hs2
    have HC := S3 x (List.mem_of_getElem? hx) w0 wr [u0, u1, u2, u3, u4] g (m - (ndExs (ks.take j) : Int)) (d + 1) false hvs hb hg hLj.out (by have := hnj.out; omega) (by omega) hd3 hd2 hsx
    simp only [agg] at HC
    have HJ : Hid (ks[j]? = some x) := hx
    have HNX : Hid (ndExs (ks.take (j + 1)) = ndExs (ks.take j) + ndEx x) := ndExs_next hx
    clear hcl hx hxj hsx hvs
    generalize hsp : spEx x (d + 1) false (m - (ndExs (ks.take j) : Int)) = rr at *
    have HSP : Hid (spEx x (d + 1) false (m - (ndExs (ks.take j) : Int)) = rr) := hsp
    clear hsp
    go_wp2_with fail
    refine HC.mono ?_
    rintro e w4 ⟨rfl, hg4, hL4⟩
    have HG4 : Hid (w2.grownBy w4 (some g)) := grown_trans hgr.out hg4
    have HL4 : Hid (rr = true → Lft w4 g (m - (ndExs (ks.take j) : Int) - (ndEx x : Int))) := hL4
    clear HC t0 t1 t2 t3 t4 q3 x0 hb hg4 hL4
    cases rr
    ·
     have he : Hid (fitSt (.mk 5 n name ks bs es) d left = false) := by show _ = _; rw [HE.out]; unfold spIn; rw [spExs_no HJ.out HSP.out]; rfl
     have hyy := grown_trans HY.out HG4.out
     go_wp2_with fail
     go_ret
     rw [he.out]
     exact ⟨rfl, hyy, by simp⟩
    ·
     have hle := spEx_le HSP.out
     have HL5 : Hid (Lft w4 g (m - (ndExs (ks.take (j + 1)) : Int))) := by
      have := HL4.out rfl
      rw [show m - (ndExs (ks.take j) : Int) - (ndEx x : Int) = m - (ndExs (ks.take (j + 1)) : Int) by rw [HNX.out]; omega] at this
      exact this
     go_wp2_with fail
     go_roundw
     case rel => exact ⟨j + 1, by omega, by go_num, HG4, HL5, (by show (_ : Int) ≤ _; rw [HNX.out]; omega), (show ∀ i x, i < j + 1 → _ from fun i y hi hy => (Nat.lt_or_ge i j).elim (fun h => hyes.out i y h hy) (fun h => by
      obtain rfl : i = j := by omega
      rw [HJ.out] at hy
      cases hy
      exact HSP.out))⟩
     case measure => simp [intOf]; omega
   ·
    have : j = nk := by omega
    subst this
    have HSE : Hid (spExs ks (d + 1) false m = true) := spExs_yes (fun i y hy => hyes.out i y (by have := (List.getElem?_eq_some_iff.1 hy).1; rw [HNK.out] at this; exact this) hy) hm0
    have hle3 := spExs_le HSE.out
    have hLf := hLj.out
    rw [List.take_of_length_le (by rw [HNK.out]; exact Nat.le_refl _)] at hLf
    have hyy := grown_trans HY.out hgr.out
    have q4 := x0.cell (i := 4) rfl
    have q5 := x0.cell (i := 5) rfl
    have HC := S4 w0 wr a4 c4 g (m - (ndExs ks : Int)) (d + 1) HRB.out hb hg hLf (by omega) (by omega) hd3 hd2 hs3
    rw [HNB_.out, show nb = 0 by omega] at HC
    generalize hsp : fitSts bs (d + 1) (m - (ndExs ks : Int)) = r4 at *
    have HS4 : Hid (fitSts bs (d + 1) (m - (ndExs ks : Int)) = r4) := hsp
    clear hsp hgr hLj hnj hyes
    go_wp2_with fail
    refine HC.mono ?_
    rintro e w4 ⟨rfl, hg4, hL4⟩
    replace x0 := x0.grown hg4 hgx
    replace hb := below_at hb hg4 hg
    replace hyy := grown_trans hyy hg4
    clear HC q3 q4 q5 hLf hg4
    cases r4
    ·
     have he : Hid (fitSt (.mk 5 n name ks bs es) d left = false) := by show _ = _; rw [HE.out]; unfold spIn; rw [HS4.out]; simp
     clear hL4
     go_wp2_with fail
     go_ret
     rw [he.out]
     exact ⟨rfl, hyy, by simp⟩
    ·
     have hle4 := fitSts_le HS4.out
     have hL5 := hL4 rfl
     have q5 := x0.cell (i := 5) rfl
     have HC := S5 w0 w4 a5 c5 g (m - (ndExs ks : Int) - (ndSts bs : Int)) (d + 1) HRE.out hb hg hL5 (by omega) (by omega) hd3 hd2 hs4
     rw [HNE_.out, show ne = 0 by omega] at HC
     generalize hsp : fitSts es (d + 1) (m - (ndExs ks : Int) - (ndSts bs : Int)) = r5 at *
     have HS5 : Hid (fitSts es (d + 1) (m - (ndExs ks : Int) - (ndSts bs : Int)) = r5) := hsp
     clear hsp hL4
     go_wp2_with fail
     refine HC.mono ?_
     rintro e w5 ⟨rfl, hg5, hL6⟩
     have he : Hid (fitSt (.mk 5 n name ks bs es) d left = r5) := by show _ = _; rw [HE.out]; unfold spIn; rw [HSE.out, HS4.out, HS5.out]; rfl
     clear HC q5
     go_wp2_with fail
     go_ret
     rw [he.out]
     exact ⟨rfl, grown_trans hyy hg5, fun h => by
      have := hL6 h
      rw [HD.out, show left - ((1 + (ndExs ks + ndSts bs + ndSts es) : Nat) : Int) = m - (ndExs ks : Int) - (ndSts bs : Int) - (ndSts es : Int) by have := HMM.out; omega]
      exact this⟩
 ·
  by_cases c1 : (nk : Int) = 0
  rotate_left
  ·
   have c1' : ((0 : Int) != (nk : Int)) = true := by simp; omega
   have he : Hid (fitSt (.mk 6 n name ks bs es) d left = false) := loc_fail HNK.out HNB_.out HNE_.out (loc0_no (.inr (.inl c1)))
   go_wp2_with fail
   go_ret
   rw [he.out]
   exact ⟨rfl, yy, by simp⟩
  have c1' : ((0 : Int) != (nk : Int)) = false := by simp; omega
  have HC1 : Hid ((nk : Int) = stLeast 6) := c1
  have hkn : nk = 0 := by omega
  clear c1
  by_cases b1 : nb = 0
  rotate_left
  ·
   have b1' : (0 : Int) < (nb : Int) := by omega
   clear hkn
   have he : Hid (fitSt (.mk 6 n name ks bs es) d left = false) := loc_fail HNK.out HNB_.out HNE_.out (loc0_no (.inr (.inr (.inr (.inr (.inr (.inl ⟨b1, by decide⟩)))))))
   go_wp2_with fail
   go_ret
   rw [he.out]
   exact ⟨rfl, yy, by simp⟩
  have b1' : ¬ (0 : Int) < (nb : Int) := by omega
  have HB1 : Hid ((decide (nb = 0) || stBody 6) = true) := by show _ = _; rw [decide_eq_true b1]; rfl
  clear b1
  by_cases b2 : ne = 0
  rotate_left
  ·
   have b2' : (0 : Int) < (ne : Int) := by omega
   clear hkn
   have he : Hid (fitSt (.mk 6 n name ks bs es) d left = false) := loc_fail HNK.out HNB_.out HNE_.out (loc0_no (.inr (.inr (.inr (.inr (.inr (.inr ⟨b2, by decide⟩)))))))
   go_wp2_with fail
   go_ret
   rw [he.out]
   exact ⟨rfl, yy, by simp⟩
  have b2' : ¬ (0 : Int) < (ne : Int) := by omega
  have HB2 : Hid ((decide (ne = 0) || decide ((6 : Int) = 2)) = true) := by show _ = _; rw [decide_eq_true b2]; rfl
  clear b2
  have hn3 := specNameOk a2 nn c2 name false w2 (h2.below hb) (by omega)
  by_cases e0 : nn = 0
  rotate_left
  ·
   have e0' : (0 : Int) < (nn : Int) := by omega
   clear hkn
   have he : Hid (fitSt (.mk 6 n name ks bs es) d left = false) := loc_fail HNK.out HNB_.out HNE_.out (loc0_no (.inr (.inr (.inr (.inr (.inl ⟨by decide, by rw [HNA.out]; exact e0⟩))))))
   go_wp2_with fail
   go_ret
   rw [he.out]
   exact ⟨rfl, yy, by simp⟩
  have e0' : ¬ (0 : Int) < (nn : Int) := by omega
  have HE0 : Hid (name.length = 0) := HNA.out.trans e0
  clear e0
  have HKN : Hid _ := hkn
  clear hkn
  by_cases n0 : n < 0
  ·
   skip
   have he : Hid (fitSt (.mk 6 n name ks bs es) d left = false) := loc_fail HNK.out HNB_.out HNE_.out (loc0_no (.inr (.inr (.inl (by simp [inB, stHigh]; omega)))))
   go_wp2_with fail
   go_ret
   rw [he.out]
   exact ⟨rfl, yy, by simp⟩
  by_cases n5 : 99 < n
  ·
   skip
   have he : Hid (fitSt (.mk 6 n name ks bs es) d left = false) := loc_fail HNK.out HNB_.out HNE_.out (loc0_no (.inr (.inr (.inl (by simp [inB, stHigh]; omega)))))
   go_wp2_with fail
   go_ret
   rw [he.out]
   exact ⟨rfl, yy, by simp⟩
  have HNN : Hid (inB n 0 (stHigh 6) = true) := by show _ = _; simp [inB, stHigh]; omega
  have HLC : Hid (stLoc0 6 n name ks.length bs.length es.length = true) := by show _ = _; rw [HNK.out, HNB_.out, HNE_.out]; exact loc0_yes HI1.out HC1.out HNN.out (by rw [show stNamed 6 = false from by decide]; exact decide_eq_true HE0.out) HB1.out HB2.out
  have HCC : Hid ((!decide ((6 : Int) = 7) || ks.any isCall) = true) := by show _ = _; simp
  have HE : Hid (fitSt (.mk 6 n name ks bs es) d left = spIn ks bs es (d + 1) m) := by
   show _ = _
   rw [fitSt_sp HLC.out HCC.out (by have := HMM.out; omega) (by omega), HMM.out]
  have HD : Hid (ndSt (.mk 6 n name ks bs es) = 1 + (ndExs ks + ndSts bs + ndSts es)) := by show _ = _; simp [ndSt]
  have HX0 : Hid _ := x0
  have HY : Hid (w.grownBy w2 (some g)) := yy
  have HB3 : Hid (Below w0.heap.size w0 w2) := hb
  have HLF : Hid (Lft w2 g (m - (ndExs (ks.take 0) : Int))) := by show Lft _ _ _; simpa [ndExs] using hL2
  have HRW : Hid (LRow w0 a3 c3 5 (exs ks)) := h3
  have HRB : Hid (LRow w0 a4 c4 6 (sts bs)) := h4
  have HRE : Hid (LRow w0 a5 c5 6 (sts es)) := h5
  have hm0 : 0 ≤ m := by omega
  have hm1 : m ≤ 250 := by have := HMM.out; omega
  have hd2 : d + 1 ≤ 17 := by omega
  have hd3 : 0 ≤ d + 1 := by omega
  go_wp2_with fail
  clear q0 q1 q2 q3 q4 q5 x0 yy hb hL2 h3 h4 h5 z0 e0' b1' b2'
  go_loopw [11] (fun i wr => ∃ j : Nat, j ≤ nk ∧ i = .int .i64 j ∧ Hid (w2.grownBy wr (some g)) ∧ Hid (Lft wr g (m - (ndExs (ks.take j) : Int))) ∧ Hid ((ndExs (ks.take j) : Int) ≤ m) ∧ Hid (∀ i x, i < j → ks[i]? = some x → spEx x (d + 1) false (m - (ndExs (ks.take i) : Int)) = true)) (fun i _ => nk - (intOf i).toNat)
  case atStart => exact ⟨0, Nat.zero_le _, rfl, grown_refl _ _, HLF, by show (_ : Int) ≤ _; simp [ndExs]; omega, by show ∀ _ _, _; omega⟩
  case round =>
   obtain ⟨j, hj, rfl, hgr, hLj, hnj, hyes⟩ := hrel
   clear HLF
   have x0 := Blk.grown HX0.out hgr.out hgx
   have q3 := x0.cell (i := 3) rfl
   have hb := below_at HB3.out hgr.out hg
   by_cases hlt : j < nk
   ·
    obtain ⟨b3, o3, rfl⟩ := LRow.addr HRW.out (by rw [hkl]; omega)
    obtain ⟨x, hx⟩ : ∃ x, ks[j]? = some x := ⟨ks[j]'(by rw [HNK.out]; exact hlt), List.getElem?_eq_getElem _⟩
    have hxj : (exs ks)[j]? = some x.fl := by rw [exs_map, List.getElem?_map, hx]; rfl
    obtain ⟨us, hvs, hcl⟩ := (LRow.el HRW.out hxj).vals
    obtain ⟨u0, u1, u2, u3, u4, rfl⟩ := five_of (hvs.len.trans (exs_len x))
    replace hcl : ∀ i v, _ → _ := fun i v hv => cell_on (hcl i v hv) hb
    have t0 : wr.cell? ⟨b3, o3 + j * 5, none⟩ = some u0 := hcl 0 _ rfl
    have t1 : wr.cell? ⟨b3, o3 + j * 5 + 1, none⟩ = some u1 := hcl 1 _ rfl
    have t2 : wr.cell? ⟨b3, o3 + j * 5 + 2, none⟩ = some u2 := hcl 2 _ rfl
    have t3 : wr.cell? ⟨b3, o3 + j * 5 + 3, none⟩ = some u3 := hcl 3 _ rfl
    have t4 : wr.cell? ⟨b3, o3 + j * 5 + 4, none⟩ = some u4 := hcl 4 _ rfl
    have hsx : recLen x.fl ≤ 1048576 := Nat.le_trans (recLen_le (List.mem_of_getElem? hxj)) hs2
    have HC := S3 x (List.mem_of_getElem? hx) w0 wr [u0, u1, u2, u3, u4] g (m - (ndExs (ks.take j) : Int)) (d + 1) false hvs hb hg hLj.out (by have := hnj.out; omega) (by omega) hd3 hd2 hsx
    simp only [agg] at HC
    have HJ : Hid (ks[j]? = some x) := hx
    have HNX : Hid (ndExs (ks.take (j + 1)) = ndExs (ks.take j) + ndEx x) := ndExs_next hx
    clear hcl hx hxj hsx hvs
    generalize hsp : spEx x (d + 1) false (m - (ndExs (ks.take j) : Int)) = rr at *
    have HSP : Hid (spEx x (d + 1) false (m - (ndExs (ks.take j) : Int)) = rr) := hsp
    clear hsp
    go_wp2_with fail
    refine HC.mono ?_
    rintro e w4 ⟨rfl, hg4, hL4⟩
    have HG4 : Hid (w2.grownBy w4 (some g)) := grown_trans hgr.out hg4
    have HL4 : Hid (rr = true → Lft w4 g (m - (ndExs (ks.take j) : Int) - (ndEx x : Int))) := hL4
    clear HC t0 t1 t2 t3 t4 q3 x0 hb hg4 hL4
    cases rr
    ·
     have he : Hid (fitSt (.mk 6 n name ks bs es) d left = false) := by show _ = _; rw [HE.out]; unfold spIn; rw [spExs_no HJ.out HSP.out]; rfl
     have hyy := grown_trans HY.out HG4.out
     go_wp2_with fail
     go_ret
     rw [he.out]
     exact ⟨rfl, hyy, by simp⟩
    ·
     have hle := spEx_le HSP.out
     have HL5 : Hid (Lft w4 g (m - (ndExs (ks.take (j + 1)) : Int))) := by
      have := HL4.out rfl
      rw [show m - (ndExs (ks.take j) : Int) - (ndEx x : Int) = m - (ndExs (ks.take (j + 1)) : Int) by rw [HNX.out]; omega] at this
      exact this
     go_wp2_with fail
     go_roundw
     case rel => exact ⟨j + 1, by omega, by go_num, HG4, HL5, (by show (_ : Int) ≤ _; rw [HNX.out]; omega), (show ∀ i x, i < j + 1 → _ from fun i y hi hy => (Nat.lt_or_ge i j).elim (fun h => hyes.out i y h hy) (fun h => by
      obtain rfl : i = j := by omega
      rw [HJ.out] at hy
      cases hy
      exact HSP.out))⟩
     case measure => simp [intOf]; omega
   ·
    have : j = nk := by omega
    subst this
    have HSE : Hid (spExs ks (d + 1) false m = true) := spExs_yes (fun i y hy => hyes.out i y (by have := (List.getElem?_eq_some_iff.1 hy).1; rw [HNK.out] at this; exact this) hy) hm0
    have hle3 := spExs_le HSE.out
    have hLf := hLj.out
    rw [List.take_of_length_le (by rw [HNK.out]; exact Nat.le_refl _)] at hLf
    have hyy := grown_trans HY.out hgr.out
    have q4 := x0.cell (i := 4) rfl
    have q5 := x0.cell (i := 5) rfl
    have HC := S4 w0 wr a4 c4 g (m - (ndExs ks : Int)) (d + 1) HRB.out hb hg hLf (by omega) (by omega) hd3 hd2 hs3
    rw [HNB_.out, show nb = 0 by omega] at HC
    generalize hsp : fitSts bs (d + 1) (m - (ndExs ks : Int)) = r4 at *
    have HS4 : Hid (fitSts bs (d + 1) (m - (ndExs ks : Int)) = r4) := hsp
    clear hsp hgr hLj hnj hyes
    go_wp2_with fail
    refine HC.mono ?_
    rintro e w4 ⟨rfl, hg4, hL4⟩
    replace x0 := x0.grown hg4 hgx
    replace hb := below_at hb hg4 hg
    replace hyy := grown_trans hyy hg4
    clear HC q3 q4 q5 hLf hg4
    cases r4
    ·
     have he : Hid (fitSt (.mk 6 n name ks bs es) d left = false) := by show _ = _; rw [HE.out]; unfold spIn; rw [HS4.out]; simp
     clear hL4
     go_wp2_with fail
     go_ret
     rw [he.out]
     exact ⟨rfl, hyy, by simp⟩
    ·
     have hle4 := fitSts_le HS4.out
     have hL5 := hL4 rfl
     have q5 := x0.cell (i := 5) rfl
     have HC := S5 w0 w4 a5 c5 g (m - (ndExs ks : Int) - (ndSts bs : Int)) (d + 1) HRE.out hb hg hL5 (by omega) (by omega) hd3 hd2 hs4
     rw [HNE_.out, show ne = 0 by omega] at HC
     generalize hsp : fitSts es (d + 1) (m - (ndExs ks : Int) - (ndSts bs : Int)) = r5 at *
     have HS5 : Hid (fitSts es (d + 1) (m - (ndExs ks : Int) - (ndSts bs : Int)) = r5) := hsp
     clear hsp hL4
     go_wp2_with fail
     refine HC.mono ?_
     rintro e w5 ⟨rfl, hg5, hL6⟩
     have he : Hid (fitSt (.mk 6 n name ks bs es) d left = r5) := by show _ = _; rw [HE.out]; unfold spIn; rw [HSE.out, HS4.out, HS5.out]; rfl
     clear HC q5
     go_wp2_with fail
     go_ret
     rw [he.out]
     exact ⟨rfl, grown_trans hyy hg5, fun h => by
      have := hL6 h
      rw [HD.out, show left - ((1 + (ndExs ks + ndSts bs + ndSts es) : Nat) : Int) = m - (ndExs ks : Int) - (ndSts bs : Int) - (ndSts es : Int) by have := HMM.out; omega]
      exact this⟩
 ·
  by_cases c1 : (nk : Int) = 1
  rotate_left
  ·
   have c1' : ((1 : Int) != (nk : Int)) = true := by simp; omega
   have he : Hid (fitSt (.mk 7 n name ks bs es) d left = false) := loc_fail HNK.out HNB_.out HNE_.out (loc0_no (.inr (.inl c1)))
   go_wp2_with fail
   go_ret
   rw [he.out]
   exact ⟨rfl, yy, by simp⟩
  have c1' : ((1 : Int) != (nk : Int)) = false := by simp; omega
  have HC1 : Hid ((nk : Int) = stLeast 7) := c1
  have hkn : nk = 1 := by omega
  clear c1
  by_cases b1 : nb = 0
  rotate_left
  ·
   have b1' : (0 : Int) < (nb : Int) := by omega
   clear hkn
   have he : Hid (fitSt (.mk 7 n name ks bs es) d left = false) := loc_fail HNK.out HNB_.out HNE_.out (loc0_no (.inr (.inr (.inr (.inr (.inr (.inl ⟨b1, by decide⟩)))))))
   go_wp2_with fail
   go_ret
   rw [he.out]
   exact ⟨rfl, yy, by simp⟩
  have b1' : ¬ (0 : Int) < (nb : Int) := by omega
  have HB1 : Hid ((decide (nb = 0) || stBody 7) = true) := by show _ = _; rw [decide_eq_true b1]; rfl
  clear b1
  by_cases b2 : ne = 0
  rotate_left
  ·
   have b2' : (0 : Int) < (ne : Int) := by omega
   clear hkn
   have he : Hid (fitSt (.mk 7 n name ks bs es) d left = false) := loc_fail HNK.out HNB_.out HNE_.out (loc0_no (.inr (.inr (.inr (.inr (.inr (.inr ⟨b2, by decide⟩)))))))
   go_wp2_with fail
   go_ret
   rw [he.out]
   exact ⟨rfl, yy, by simp⟩
  have b2' : ¬ (0 : Int) < (ne : Int) := by omega
  have HB2 : Hid ((decide (ne = 0) || decide ((7 : Int) = 2)) = true) := by show _ = _; rw [decide_eq_true b2]; rfl
  clear b2
  have hn3 := specNameOk a2 nn c2 name false w2 (h2.below hb) (by omega)
  by_cases e0 : nn = 0
  rotate_left
  ·
   have e0' : (0 : Int) < (nn : Int) := by omega
   clear hkn
   have he : Hid (fitSt (.mk 7 n name ks bs es) d left = false) := loc_fail HNK.out HNB_.out HNE_.out (loc0_no (.inr (.inr (.inr (.inr (.inl ⟨by decide, by rw [HNA.out]; exact e0⟩))))))
   go_wp2_with fail
   go_ret
   rw [he.out]
   exact ⟨rfl, yy, by simp⟩
  have e0' : ¬ (0 : Int) < (nn : Int) := by omega
  have HE0 : Hid (name.length = 0) := HNA.out.trans e0
  clear e0
  have HKN : Hid _ := hkn
  clear hkn
  by_cases n0 : n = 0
  rotate_left
  ·
   have n0' : (n != 0) = true := by simpa using n0
   have he : Hid (fitSt (.mk 7 n name ks bs es) d left = false) := loc_fail HNK.out HNB_.out HNE_.out (loc0_no (.inr (.inr (.inl (by simp [inB, stHigh]; omega)))))
   go_wp2_with fail
   go_ret
   rw [he.out]
   exact ⟨rfl, yy, by simp⟩
  have n0' : (n != 0) = false := by simpa using n0
  have HNN : Hid (inB n 0 (stHigh 7) = true) := by show _ = _; rw [n0]; decide
  clear n0
  have HLC : Hid (stLoc0 7 n name ks.length bs.length es.length = true) := by show _ = _; rw [HNK.out, HNB_.out, HNE_.out]; exact loc0_yes HI1.out HC1.out HNN.out (by rw [show stNamed 7 = false from by decide]; exact decide_eq_true HE0.out) HB1.out HB2.out
  obtain ⟨b3, o3, rfl⟩ := h3.addr (by rw [hkl, HKN.out]; omega)
  obtain ⟨xk, hxk⟩ : ∃ x, ks = [x] := one_of (HNK.out.trans HKN.out)
  have hx0 : (exs ks)[0]? = some xk.fl := by rw [hxk]; simp [exs]
  obtain ⟨uk, hvk, hck⟩ := (h3.el hx0).vals
  obtain ⟨v0, v1, v2, v3, v4, rfl⟩ := five_of (hvk.len.trans (exs_len xk))
  have hv0 : v0 = .int .i64 xk.kind := by
   obtain ⟨e0, e1, e2, e3, e4⟩ := xk
   unfold Ex.fl at hvk
   obtain ⟨y0, _, ey, ry, _⟩ := hvk
   simp only [List.cons.injEq] at ey
   rw [ey.1]; exact ry
  have tk : w2.cell? ⟨b3, o3, none⟩ = some (.int .i64 xk.kind) := by
   have := cell_on (hck 0 _ rfl) hb
   rw [hv0] at this
   simpa using this
  have hkp : (0 : Int) < (nk : Int) := by rw [HKN.out]; omega
  have HXK : Hid (ks = [xk]) := hxk
  clear hck hvk hx0 hv0 hxk
  by_cases k6 : xk.kind = 6
  rotate_left
  ·
   have k6' : (xk.kind != 6) = true := by simpa using k6
   have he : Hid (fitSt (.mk 7 n name ks bs es) d left = false) := by show _ = _; rw [HXK.out]; exact fitSt_call k6
   clear k6
   generalize xk.kind = kk at *
   go_wp2_with fail
   go_ret
   rw [he.out]
   exact ⟨rfl, yy, by simp⟩
  have k6' : (xk.kind != 6) = false := by simpa using k6
  have HCC : Hid ((!decide ((7 : Int) = 7) || ks.any isCall) = true) := by show _ = _; rw [HXK.out]; simp [isCall, k6]
  clear k6
  generalize xk.kind = kk at *
  have HE : Hid (fitSt (.mk 7 n name ks bs es) d left = spIn ks bs es (d + 1) m) := by
   show _ = _
   rw [fitSt_sp HLC.out HCC.out (by have := HMM.out; omega) (by omega), HMM.out]
  have HD : Hid (ndSt (.mk 7 n name ks bs es) = 1 + (ndExs ks + ndSts bs + ndSts es)) := by show _ = _; simp [ndSt]
  have HX0 : Hid _ := x0
  have HY : Hid (w.grownBy w2 (some g)) := yy
  have HB3 : Hid (Below w0.heap.size w0 w2) := hb
  have HLF : Hid (Lft w2 g (m - (ndExs (ks.take 0) : Int))) := by show Lft _ _ _; simpa [ndExs] using hL2
  have HRW : Hid (LRow w0 (some ⟨b3, o3, none⟩) c3 5 (exs ks)) := h3
  have HRB : Hid (LRow w0 a4 c4 6 (sts bs)) := h4
  have HRE : Hid (LRow w0 a5 c5 6 (sts es)) := h5
  have hm0 : 0 ≤ m := by omega
  have hm1 : m ≤ 250 := by have := HMM.out; omega
  have hd2 : d + 1 ≤ 17 := by omega
  have hd3 : 0 ≤ d + 1 := by omega
  go_wp2_with fail
  clear q0 q1 q2 q3 q4 q5 x0 yy hb hL2 h3 h4 h5 z0 e0' tk b1' b2'
  go_loopw [11] (fun i wr => ∃ j : Nat, j ≤ nk ∧ i = .int .i64 j ∧ Hid (w2.grownBy wr (some g)) ∧ Hid (Lft wr g (m - (ndExs (ks.take j) : Int))) ∧ Hid ((ndExs (ks.take j) : Int) ≤ m) ∧ Hid (∀ i x, i < j → ks[i]? = some x → spEx x (d + 1) false (m - (ndExs (ks.take i) : Int)) = true)) (fun i _ => nk - (intOf i).toNat)
  case atStart => exact ⟨0, Nat.zero_le _, rfl, grown_refl _ _, HLF, by show (_ : Int) ≤ _; simp [ndExs]; omega, by show ∀ _ _, _; omega⟩
  case round =>
   obtain ⟨j, hj, rfl, hgr, hLj, hnj, hyes⟩ := hrel
   clear HLF
   have x0 := Blk.grown HX0.out hgr.out hgx
   have q3 := x0.cell (i := 3) rfl
   have hb := below_at HB3.out hgr.out hg
   by_cases hlt : j < nk
   ·
    have HRX := HRW
    obtain ⟨x, hx⟩ : ∃ x, ks[j]? = some x := ⟨ks[j]'(by rw [HNK.out]; exact hlt), List.getElem?_eq_getElem _⟩
    have hxj : (exs ks)[j]? = some x.fl := by rw [exs_map, List.getElem?_map, hx]; rfl
    obtain ⟨us, hvs, hcl⟩ := (LRow.el HRW.out hxj).vals
    obtain ⟨u0, u1, u2, u3, u4, rfl⟩ := five_of (hvs.len.trans (exs_len x))
    replace hcl : ∀ i v, _ → _ := fun i v hv => cell_on (hcl i v hv) hb
    have t0 : wr.cell? ⟨b3, o3 + j * 5, none⟩ = some u0 := hcl 0 _ rfl
    have t1 : wr.cell? ⟨b3, o3 + j * 5 + 1, none⟩ = some u1 := hcl 1 _ rfl
    have t2 : wr.cell? ⟨b3, o3 + j * 5 + 2, none⟩ = some u2 := hcl 2 _ rfl
    have t3 : wr.cell? ⟨b3, o3 + j * 5 + 3, none⟩ = some u3 := hcl 3 _ rfl
    have t4 : wr.cell? ⟨b3, o3 + j * 5 + 4, none⟩ = some u4 := hcl 4 _ rfl
    have hsx : recLen x.fl ≤ 1048576 := Nat.le_trans (recLen_le (List.mem_of_getElem? hxj)) hs2
    have HC := S3 x (List.mem_of_getElem? hx) w0 wr [u0, u1, u2, u3, u4] g (m - (ndExs (ks.take j) : Int)) (d + 1) false hvs hb hg hLj.out (by have := hnj.out; omega) (by omega) hd3 hd2 hsx
    simp only [agg] at HC
    have HJ : Hid (ks[j]? = some x) := hx
    have HNX : Hid (ndExs (ks.take (j + 1)) = ndExs (ks.take j) + ndEx x) := ndExs_next hx
    clear hcl hx hxj hsx hvs
    generalize hsp : spEx x (d + 1) false (m - (ndExs (ks.take j) : Int)) = rr at *
    have HSP : Hid (spEx x (d + 1) false (m - (ndExs (ks.take j) : Int)) = rr) := hsp
    clear hsp
    go_wp2_with fail
    refine HC.mono ?_
    rintro e w4 ⟨rfl, hg4, hL4⟩
    have HG4 : Hid (w2.grownBy w4 (some g)) := grown_trans hgr.out hg4
    have HL4 : Hid (rr = true → Lft w4 g (m - (ndExs (ks.take j) : Int) - (ndEx x : Int))) := hL4
    clear HC t0 t1 t2 t3 t4 q3 x0 hb hg4 hL4
    cases rr
    ·
     have he : Hid (fitSt (.mk 7 n name ks bs es) d left = false) := by show _ = _; rw [HE.out]; unfold spIn; rw [spExs_no HJ.out HSP.out]; rfl
     have hyy := grown_trans HY.out HG4.out
     go_wp2_with fail
     go_ret
     rw [he.out]
     exact ⟨rfl, hyy, by simp⟩
    ·
     have hle := spEx_le HSP.out
     have HL5 : Hid (Lft w4 g (m - (ndExs (ks.take (j + 1)) : Int))) := by
      have := HL4.out rfl
      rw [show m - (ndExs (ks.take j) : Int) - (ndEx x : Int) = m - (ndExs (ks.take (j + 1)) : Int) by rw [HNX.out]; omega] at this
      exact this
     go_wp2_with fail
     go_roundw
     case rel => exact ⟨j + 1, by omega, by go_num, HG4, HL5, (by show (_ : Int) ≤ _; rw [HNX.out]; omega), (show ∀ i x, i < j + 1 → _ from fun i y hi hy => (Nat.lt_or_ge i j).elim (fun h => hyes.out i y h hy) (fun h => by
      obtain rfl : i = j := by omega
      rw [HJ.out] at hy
      cases hy
      exact HSP.out))⟩
     case measure => simp [intOf]; omega
   ·
    have : j = nk := by omega
    subst this
    have HSE : Hid (spExs ks (d + 1) false m = true) := spExs_yes (fun i y hy => hyes.out i y (by have := (List.getElem?_eq_some_iff.1 hy).1; rw [HNK.out] at this; exact this) hy) hm0
    have hle3 := spExs_le HSE.out
    have hLf := hLj.out
    rw [List.take_of_length_le (by rw [HNK.out]; exact Nat.le_refl _)] at hLf
    have hyy := grown_trans HY.out hgr.out
    have q4 := x0.cell (i := 4) rfl
    have q5 := x0.cell (i := 5) rfl
    have HC := S4 w0 wr a4 c4 g (m - (ndExs ks : Int)) (d + 1) HRB.out hb hg hLf (by omega) (by omega) hd3 hd2 hs3
    rw [HNB_.out, show nb = 0 by omega] at HC
    generalize hsp : fitSts bs (d + 1) (m - (ndExs ks : Int)) = r4 at *
    have HS4 : Hid (fitSts bs (d + 1) (m - (ndExs ks : Int)) = r4) := hsp
    clear hsp hgr hLj hnj hyes
    go_wp2_with fail
    refine HC.mono ?_
    rintro e w4 ⟨rfl, hg4, hL4⟩
    replace x0 := x0.grown hg4 hgx
    replace hb := below_at hb hg4 hg
    replace hyy := grown_trans hyy hg4
    clear HC q3 q4 q5 hLf hg4
    cases r4
    ·
     have he : Hid (fitSt (.mk 7 n name ks bs es) d left = false) := by show _ = _; rw [HE.out]; unfold spIn; rw [HS4.out]; simp
     clear hL4
     go_wp2_with fail
     go_ret
     rw [he.out]
     exact ⟨rfl, hyy, by simp⟩
    ·
     have hle4 := fitSts_le HS4.out
     have hL5 := hL4 rfl
     have q5 := x0.cell (i := 5) rfl
     have HC := S5 w0 w4 a5 c5 g (m - (ndExs ks : Int) - (ndSts bs : Int)) (d + 1) HRE.out hb hg hL5 (by omega) (by omega) hd3 hd2 hs4
     rw [HNE_.out, show ne = 0 by omega] at HC
     generalize hsp : fitSts es (d + 1) (m - (ndExs ks : Int) - (ndSts bs : Int)) = r5 at *
     have HS5 : Hid (fitSts es (d + 1) (m - (ndExs ks : Int) - (ndSts bs : Int)) = r5) := hsp
     clear hsp hL4
     go_wp2_with fail
     refine HC.mono ?_
     rintro e w5 ⟨rfl, hg5, hL6⟩
     have he : Hid (fitSt (.mk 7 n name ks bs es) d left = r5) := by show _ = _; rw [HE.out]; unfold spIn; rw [HSE.out, HS4.out, HS5.out]; rfl
     clear HC q5
     go_wp2_with fail
     go_ret
     rw [he.out]
     exact ⟨rfl, grown_trans hyy hg5, fun h => by
      have := hL6 h
      rw [HD.out, show left - ((1 + (ndExs ks + ndSts bs + ndSts es) : Nat) : Int) = m - (ndExs ks : Int) - (ndSts bs : Int) - (ndSts es : Int) by have := HMM.out; omega]
      exact this⟩

end Go.Proofs.YtopnodadggohiaaGreatDoor

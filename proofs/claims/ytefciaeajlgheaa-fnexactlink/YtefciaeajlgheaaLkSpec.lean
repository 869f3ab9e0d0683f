/- What the specification tells of objects that are to be linked. By mklkspec.py. -/
import Derived.Test.YtefciaeajlgheaaLkSt
import Derived.Test.YtefciaeajlgheaaOsOkSpec
import Derived.Test.YtefciaeajlgheaaLast
import Derived.Test.YtefciaeajlgheaaTk
namespace Go.Proofs.Ytefciaeajlgheaa
open Go.RowKit
set_option linter.unusedVariables false
set_option linter.unusedSimpArgs false
set_option maxRecDepth 100000

theorem specMain {W : World} {g : Nat} (h : MC W g) : Calls Try.prog 18 #[.slice (some ⟨g, 0, none⟩) 4 4, .slice none 0 0] W fun e w' => e = .returned (.int .i64 fmain) ∧ Below W.heap.size W w' :=
  specFinger (some ⟨g, 0, none⟩) 4 4 mainN none 0 0 [] W h.row (by simp) (nil_row _) (by omega) (by omega)

set_option maxHeartbeats 16000000 in
theorem specLink (l : List Oj) (a : Option Addr) (c : Nat) (w : World) (h : LRow w a c 5 (l.map Oj.fl)) (hsz : ∀ o ∈ l, recLen o.fl ≤ 1048576) :
    Calls Try.prog 5 #[.slice a l.length c] w (LkFin l w) := by
  have hn9 := h.len9
  have hcap := h.cap
  rw [List.length_map] at hn9 hcap
  obtain ⟨n, hN⟩ : ∃ z, z = l.length := ⟨_, rfl⟩
  have HN : Hid (l.length = n) := hN.symm
  rw [← hN] at hn9 hcap ⊢
  have HL : Hid (LRow w a c 5 (l.map Oj.fl)) := h
  have HS : Hid (∀ o ∈ l, recLen o.fl ≤ 1048576) := hsz
  have s0 := S0.start w
  clear h hsz hN
  go_enter Try.func5, Try.ntmps5
  go_upto_region 1 with fail
  generalize w.alloc (.cells #[.slice none 0 0, .slice none 0 0, .int .i64 0] 27 (0, 0)) = w0 at *
  by_cases h1 : n < 1
  · have hI : (n : Int) < 1 := by omega
    have z0 := s0.z.cell (i := 0) rfl
    have z1 := s0.z.cell (i := 1) rfl
    have z2 := s0.z.cell (i := 2) rfl
    have f0 := s0.z.free 0
    have f1 := s0.z.free 1
    have f2 := s0.z.free 2
    have HF : Hid (LkFin l w (.returned (.tuple #[.agg #[.slice none 0 0, .slice none 0 0, .int .i64 0], .int .i64 1])) (((w0.setCell ⟨w.heap.size, 0, none⟩ (.slice none 0 0)).setCell ⟨w.heap.size, 1, none⟩ (.slice none 0 0)).setCell ⟨w.heap.size, 2, none⟩ (.int .i64 0))) := fin_no s0 (Lk.form fun hf => by have := hf.1.1; rw [HN.out] at this; omega)
    have D : Blk (((w0.setCell ⟨w.heap.size, 0, none⟩ (.slice none 0 0)).setCell ⟨w.heap.size, 1, none⟩ (.slice none 0 0)).setCell ⟨w.heap.size, 2, none⟩ (.int .i64 0)) w.heap.size 27 [.slice none 0 0, .slice none 0 0, .int .i64 0] := Blk.put3 s0.z
    have d0 := D.cell (i := 0) rfl
    have d1 := D.cell (i := 1) rfl
    have d2 := D.cell (i := 2) rfl
    clear D 
    go_wp2_with fail
    refine bodyPost_ret (v := .tuple #[.agg #[.slice none 0 0, .slice none 0 0, .int .i64 0], .int .i64 1]) (by simp only [results, Try.results5]; simp [go_sem, d0, d1, d2]) rfl HF.out
  by_cases h8 : 8 < n
  · have hI : ¬ ((n : Int) < 1) := by omega
    have hJ : (8 : Int) < (n : Int) := by omega
    have z0 := s0.z.cell (i := 0) rfl
    have z1 := s0.z.cell (i := 1) rfl
    have z2 := s0.z.cell (i := 2) rfl
    have f0 := s0.z.free 0
    have f1 := s0.z.free 1
    have f2 := s0.z.free 2
    have HF : Hid (LkFin l w (.returned (.tuple #[.agg #[.slice none 0 0, .slice none 0 0, .int .i64 0], .int .i64 1])) (((w0.setCell ⟨w.heap.size, 0, none⟩ (.slice none 0 0)).setCell ⟨w.heap.size, 1, none⟩ (.slice none 0 0)).setCell ⟨w.heap.size, 2, none⟩ (.int .i64 0))) := fin_no s0 (Lk.form fun hf => by have := hf.1.2; rw [HN.out] at this; omega)
    have D : Blk (((w0.setCell ⟨w.heap.size, 0, none⟩ (.slice none 0 0)).setCell ⟨w.heap.size, 1, none⟩ (.slice none 0 0)).setCell ⟨w.heap.size, 2, none⟩ (.int .i64 0)) w.heap.size 27 [.slice none 0 0, .slice none 0 0, .int .i64 0] := Blk.put3 s0.z
    have d0 := D.cell (i := 0) rfl
    have d1 := D.cell (i := 1) rfl
    have d2 := D.cell (i := 2) rfl
    clear D 
    go_wp2_with fail
    refine bodyPost_ret (v := .tuple #[.agg #[.slice none 0 0, .slice none 0 0, .int .i64 0], .int .i64 1]) (by simp only [results, Try.results5]; simp [go_sem, d0, d1, d2]) rfl HF.out
  have hI : ¬ ((n : Int) < 1) := by omega
  have hJ : ¬ ((8 : Int) < (n : Int)) := by omega
  obtain ⟨b, off, rfl⟩ := LRow.addr HL.out (by rw [List.length_map, HN.out]; omega)
  have HC : Hid (∀ j, j < n → ∃ o v0 v1 v2 v3 v4, l[j]? = some o ∧ RdVals w o.fl [v0, v1, v2, v3, v4] ∧ (w.cell? ⟨b, off + j * 5, none⟩ = some v0 ∧ w.cell? ⟨b, off + j * 5 + 1, none⟩ = some v1 ∧ w.cell? ⟨b, off + j * 5 + 2, none⟩ = some v2 ∧ w.cell? ⟨b, off + j * 5 + 3, none⟩ = some v3 ∧ w.cell? ⟨b, off + j * 5 + 4, none⟩ = some v4)) := objCells HL.out HN.out
  go_wp2_with fail
  go_loopw [5] (fun i wr => ∃ j : Nat, j ≤ n ∧ i = .int .i64 j ∧ Hid (∀ (m : Nat) (o : Oj), m < j → l[m]? = some o → objOk o.ob = true) ∧ Hid (S0 w wr)) (fun i _ => n - (intOf i).toNat)
  case atStart => exact ⟨0, Nat.zero_le _, rfl, (by show ∀ _ _, _; omega), s0⟩
  case round =>
    obtain ⟨j, hj, rfl, hno, hst⟩ := hrel
    clear s0
    have s0 := hst.out
    by_cases hlt : j < n
    · obtain ⟨o, v0, v1, v2, v3, v4, ho, hv, c0, c1, c2, c3, c4⟩ := HC.out j hlt
      have b0 := cell_on c0 s0.y
      have b1 := cell_on c1 s0.y
      have b2 := cell_on c2 s0.y
      have b3 := cell_on c3 s0.y
      have b4 := cell_on c4 s0.y
      have H1 := specObjectOkM ⟨v0, v1, v2, v3, v4⟩ o.ob wr (oread_of (hv.below s0.y)) (by rw [osz_of]; exact HS.out o (List.mem_of_getElem? ho))
      have HO : Hid (l[j]? = some o) := ho
      have hj' : (j : Int) < (n : Int) := by omega
      obtain ⟨a0, e0, a1, e1, a2, e2, a4, e4, rfl, rfl, rfl, rfl, rfl, _⟩ := objShape hv
      simp only at H1
      generalize o.name.length = n0 at *
      generalize o.ex.length = n1 at *
      generalize o.im.length = n2 at *
      generalize o.code.length = n4 at *
      clear c0 c1 c2 c3 c4 ho hv hst
      cases hk : objOk o.ob
      · rw [hk] at H1
        have HK : Hid (¬ formOk l) := fun hf => by have := hf.2 o (List.mem_of_getElem? HO.out); rw [hk] at this; cases this
        clear hk
        go_wp2_with fail
        refine H1.mono ?_
        rintro e w2 ⟨rfl, hb⟩
        have s2 := s0.step hb
        clear H1 b0 b1 b2 b3 b4 s0 hb
        have z0 := s2.z.cell (i := 0) rfl
        have z1 := s2.z.cell (i := 1) rfl
        have z2 := s2.z.cell (i := 2) rfl
        have f0 := s2.z.free 0
        have f1 := s2.z.free 1
        have f2 := s2.z.free 2
        have HF : Hid (LkFin l w (.returned (.tuple #[.agg #[.slice none 0 0, .slice none 0 0, .int .i64 0], .int .i64 1])) (((w2.setCell ⟨w.heap.size, 0, none⟩ (.slice none 0 0)).setCell ⟨w.heap.size, 1, none⟩ (.slice none 0 0)).setCell ⟨w.heap.size, 2, none⟩ (.int .i64 0))) := fin_no s2 (Lk.form HK.out)
        have D : Blk (((w2.setCell ⟨w.heap.size, 0, none⟩ (.slice none 0 0)).setCell ⟨w.heap.size, 1, none⟩ (.slice none 0 0)).setCell ⟨w.heap.size, 2, none⟩ (.int .i64 0)) w.heap.size 27 [.slice none 0 0, .slice none 0 0, .int .i64 0] := Blk.put3 s2.z
        have d0 := D.cell (i := 0) rfl
        have d1 := D.cell (i := 1) rfl
        have d2 := D.cell (i := 2) rfl
        clear D 
        go_wp2_with fail
        refine bodyPost_ret (v := .tuple #[.agg #[.slice none 0 0, .slice none 0 0, .int .i64 0], .int .i64 1]) (by simp only [results, Try.results5]; simp [go_sem, d0, d1, d2]) rfl HF.out
      · rw [hk] at H1
        have HK : Hid (∀ (m : Nat) (o : Oj), m < j + 1 → l[m]? = some o → objOk o.ob = true) := fun m o' hm ho' => by
          by_cases e : m = j
          · subst e; have := HO.out; rw [ho'] at this; cases this; exact hk
          · exact hno.out m o' (by omega) ho'
        clear hk hno
        go_wp2_with fail
        refine H1.mono ?_
        rintro e w2 ⟨rfl, hb⟩
        have s2 : Hid (S0 w w2) := s0.step hb
        clear H1 b0 b1 b2 b3 b4 s0 hb
        go_wp2_with fail
        go_roundw
        case rel => exact ⟨j + 1, by omega, by go_num, HK, s2⟩
        case measure => simp [intOf]; omega
    · have : n = j := by omega
      subst this
      have HFo : Hid (formOk l) := ⟨⟨by rw [HN.out]; omega, by rw [HN.out]; omega⟩, fun o ho => by
        obtain ⟨i, hi, rfl⟩ := List.mem_iff_getElem.1 ho
        exact hno.out i _ (by rw [HN.out] at hi; exact hi) (List.getElem?_eq_getElem hi)⟩
      clear hno hst
      generalize wr = w1 at *
      have hlt' : ¬ ((n : Int) < (n : Int)) := by omega
      go_wp2_with fail
      go_loopw [6] (fun i wr => ∃ j : Nat, j ≤ n ∧ i = .int .i64 j ∧ Hid (∀ m, m < j → findO l (ojAt l m).name = some m) ∧ Hid (S0 w wr)) (fun i _ => n - (intOf i).toNat)
      case atStart => exact ⟨0, Nat.zero_le _, rfl, (by show ∀ _, _; omega), s0⟩
      case round =>
        obtain ⟨j, hj, rfl, hno, hst⟩ := hrel
        clear s0
        have s0 := hst.out
        by_cases hlt : j < n
        · obtain ⟨o, v0, v1, v2, v3, v4, ho, hv, c0, c1, c2, c3, c4⟩ := HC.out j hlt
          have b0 := cell_on c0 s0.y
          obtain ⟨a0, e0, a1, e1, a2, e2, a4, e4, rfl, rfl, rfl, rfl, rfl, hB, _⟩ := objShape hv
          have H1 := l10objectC l _ n c wr (LRow.below HL.out s0.y) HN.out a0 o.name.length e0 o.name (hB.below s0.y)
          have HO : Hid (l[j]? = some o) := ho
          have hj' : (j : Int) < (n : Int) := by omega
          generalize o.name.length = n0 at *
          clear c0 c1 c2 c3 c4 ho hv hst hB
          by_cases hk : findO l o.name = some j
          · rw [hk] at H1
            have HK : Hid (∀ m, m < j + 1 → findO l (ojAt l m).name = some m) := fun m hm => by
              by_cases e : m = j
              · subst e; rw [ojAt_some HO.out]; exact hk
              · exact hno.out m (by omega)
            simp only [intO] at H1
            have hjj : ((j : Int) != (j : Int)) = false := by simp
            clear hk hno
            go_wp2_with fail
            refine H1.mono ?_
            rintro e w2 ⟨rfl, hb⟩
            have s2 : Hid (S0 w w2) := s0.step (below_grown hb)
            clear H1 b0 s0 hb
            go_wp2_with fail
            go_roundw
            case rel => exact ⟨j + 1, by omega, by go_num, HK, s2⟩
            case measure => simp [intOf]; omega
          · have HK : Hid (¬ unlO l) := fun hu => by have := hu j (by rw [HN.out]; exact hlt); rw [ojAt_some HO.out] at this; exact hk this
            generalize hi : intO (findO l o.name) = ii at H1
            have hjj : (ii != (j : Int)) = true := by
              simp only [bne_iff_ne, ne_eq]
              intro e
              apply hk
              cases hf : findO l o.name with
              | none => rw [hf] at hi; simp only [intO] at hi; omega
              | some k => rw [hf] at hi; simp only [intO] at hi; congr 1; omega
            clear hk hi hno
            go_wp2_with fail
            refine H1.mono ?_
            rintro e w2 ⟨rfl, hb⟩
            have s2 := s0.step (below_grown hb)
            clear H1 b0 s0 hb
            have z0 := s2.z.cell (i := 0) rfl
            have z1 := s2.z.cell (i := 1) rfl
            have z2 := s2.z.cell (i := 2) rfl
            have f0 := s2.z.free 0
            have f1 := s2.z.free 1
            have f2 := s2.z.free 2
            have HF : Hid (LkFin l w (.returned (.tuple #[.agg #[.slice none 0 0, .slice none 0 0, .int .i64 0], .int .i64 2])) (((w2.setCell ⟨w.heap.size, 0, none⟩ (.slice none 0 0)).setCell ⟨w.heap.size, 1, none⟩ (.slice none 0 0)).setCell ⟨w.heap.size, 2, none⟩ (.int .i64 0))) := fin_no s2 (Lk.name HFo.out HK.out)
            have D : Blk (((w2.setCell ⟨w.heap.size, 0, none⟩ (.slice none 0 0)).setCell ⟨w.heap.size, 1, none⟩ (.slice none 0 0)).setCell ⟨w.heap.size, 2, none⟩ (.int .i64 0)) w.heap.size 27 [.slice none 0 0, .slice none 0 0, .int .i64 0] := Blk.put3 s2.z
            have d0 := D.cell (i := 0) rfl
            have d1 := D.cell (i := 1) rfl
            have d2 := D.cell (i := 2) rfl
            clear D 
            go_wp2_with fail
            refine bodyPost_ret (v := .tuple #[.agg #[.slice none 0 0, .slice none 0 0, .int .i64 0], .int .i64 2]) (by simp only [results, Try.results5]; simp [go_sem, d0, d1, d2]) rfl HF.out
        · have : n = j := by omega
          subst this
          have HUo : Hid (unlO l) := fun m hm => hno.out m (by rw [HN.out] at hm; exact hm)
          clear hno hst
          generalize wr = w2 at *
          obtain ⟨i0, hi0, hz0, hz1, hz2⟩ := info_parts infoWo
          go_wp2_with (at_make; refine wpList_make_full _ rfl _ _ 25 rfl w2.heap.size 55 i0 _ 7 Try.underlying25 hi0 hz0 hz1 _ _ _ _ 600 rfl rfl rfl rfl (by rw [hz2]; omega) (by unfold maxLen; omega) (Nat.le_refl _) ?_)
          intro w3 hown hgrow
          obtain ⟨z3, im3⟩ := S3.start (l := l) s0 hown hgrow (.slice none 0 0)
          have b4 : Below w3.heap.size w3 (w3.alloc (.cells #[.slice none 0 0, .slice (some ⟨w2.heap.size, 0, none⟩) 600 600, .int .i64 0] 27 (0, 0))) := (Below.refl _ _).alloc (Nat.le_refl _) _
          have HS4 : Hid (∃ hi h2 mv wv rs, S3 l w w3.heap.size hi h2 (w3.alloc (.cells #[.slice none 0 0, .slice (some ⟨w2.heap.size, 0, none⟩) 600 600, .int .i64 0] 27 (0, 0))) mv wv rs (modsTo l 0) (wordsTo l 0)) :=
            ⟨_, _, _, _, [], z3.step b4, Blk.new w3 27 [.slice none 0 0, .slice (some ⟨w2.heap.size, 0, none⟩) 600 600, .int .i64 0], im3.below b4, rfl, z3.z.lt, ⟨z3.y.size, b4.size⟩, b4.size⟩
          clear z3 im3 b4 hown hgrow s0 hi0 hz0 hz1 hz2
          go_upto_region 15 with fail
          generalize w3.alloc (.cells #[.slice none 0 0, .slice (some ⟨w2.heap.size, 0, none⟩) 600 600, .int .i64 0] 27 (0, 0)) = w4 at *
          generalize w3.heap.size = g at *
          go_wp2_with fail
          go_loopw [8, 9, 10, 11, 12, 13, 14, 15] (fun i _ _ _ _ _ _ _ wr => ∃ j : Nat, j ≤ n ∧ i = .int .i64 j ∧ Hid (goodTo l j) ∧ Hid (∃ hi h2 mv wv rs, S3 l w g hi h2 wr mv wv rs (modsTo l j) (wordsTo l j))) (fun i _ _ _ _ _ _ _ _ => n - (intOf i).toNat)
          case atStart => exact ⟨0, Nat.zero_le _, rfl, (by intro j hj; omega), HS4⟩
          case round =>
            obtain ⟨j, hj, rfl, hgood, hst⟩ := hrel
            obtain ⟨hi, h2, mv, wv, rs, st⟩ := hst.out
            clear HS4 hst
            obtain ⟨ma, mc, wa, wk, rfl, rfl⟩ := st.cells
            by_cases hlt : j < n
            · obtain ⟨o, v0, v1, v2, v3, v4, ho, hv, c0, c1, c2, c3, c4⟩ := HC.out j hlt
              have b0 := cell_on c0 st.z.y
              have b1 := cell_on c1 st.z.y
              have b2 := cell_on c2 st.z.y
              have b3 := cell_on c3 st.z.y
              have b4 := cell_on c4 st.z.y
              obtain ⟨a0, e0, a1, e1, a2, e2, a4, e4, rfl, rfl, rfl, rfl, rfl, hB0, hL1, hL2, hB4, hz4⟩ := objShape hv
              have HV : Hid (RdVals w o.fl [.slice a0 o.name.length e0, .slice a1 o.ex.length e1, .slice a2 o.im.length e2, .int .i64 o.data, .slice a4 o.code.length e4]) := hv
              have HO : Hid (l[j]? = some o) := ho
              obtain ⟨p1, p2, p3, p4, p5, p6, p7⟩ := objOk_parts (HFo.out.2 o (List.mem_of_getElem? ho))
              have HI2 : Hid (LRow w a2 e2 3 (o.im.map Ip.fl)) := hL2
              have HP6 : Hid (∀ y ∈ o.ex, 0 ≤ y.pos ∧ y.pos ≤ 4000) := p7
              have hj' : (j : Int) < (n : Int) := by omega
              obtain ⟨n0, hn0⟩ : ∃ z, z = o.name.length := ⟨_, rfl⟩
              obtain ⟨n1, hn1⟩ : ∃ z, z = o.ex.length := ⟨_, rfl⟩
              obtain ⟨n2, hn2⟩ : ∃ z, z = o.im.length := ⟨_, rfl⟩
              obtain ⟨n4, hn4⟩ : ∃ z, z = o.code.length := ⟨_, rfl⟩
              have HN0 : Hid (o.name.length = n0) := hn0.symm
              have HN1 : Hid (o.ex.length = n1) := hn1.symm
              have HN2 : Hid (o.im.length = n2) := hn2.symm
              have HN4 : Hid (o.code.length = n4) := hn4.symm
              rw [← hn0] at b0 HV
              rw [← hn1] at b1 HV p1
              rw [← hn2] at b2 HV p2
              rw [← hn4] at b4 HV p5 hB4
              have HB4 : Hid (BRow w a4 n4 o.code) := hB4
              clear c0 c1 c2 c3 c4 ho hv hB0 hL1 hL2 hB4 p6 p7 hn0 hn1 hn2 hn4
              have bO : Below wr.heap.size wr (wr.alloc (.cells #[.slice a0 n0 e0, .slice a1 n1 e1, .slice a2 n2 e2, .int .i64 o.data, .slice a4 n4 e4] 47 (0, 0))) := (Below.refl _ _).alloc (Nat.le_refl _) _
              have oB := Blk.new wr 47 [.slice a0 n0 e0, .slice a1 n1 e1, .slice a2 n2 e2, .int .i64 o.data, .slice a4 n4 e4]
              have st5 := st.step bO
              have hgO : w.heap.size < wr.heap.size := st.z.z.lt
              simp only [List.toArray] at oB
              go_upto_region 19 with fail
              generalize wr.alloc (.cells #[.slice a0 n0 e0, .slice a1 n1 e1, .slice a2 n2 e2, .int .i64 o.data, .slice a4 n4 e4] 47 (0, 0)) = w5 at *
              generalize wr.heap.size = gO at *
              clear st bO b0 b1 b2 b3 b4
              obtain ⟨nw, hnw⟩ : ∃ z, z = (wordsTo l j).length := ⟨_, rfl⟩
              have HNW : Hid ((wordsTo l j).length = nw) := hnw.symm
              have hnwb : nw ≤ 2264 := by rw [hnw]; have := wordsTo_len l (fun o ho => by have := objOk_parts (HFo.out.2 o ho); omega) j (by rw [HN.out]; omega); omega
              rw [← hnw] at st5
              clear hnw
              go_cut [10] from 64 to 75 (fun s10 wz => ∃ gR c0 c1 cv, s10 = .pointer (some ⟨gR, 0, none⟩) ∧ Hid (S4 l w g hi h2 wz (.slice ma rs.length mc) (.slice wa nw wk) rs (modsTo l j) (wordsTo l j) gO gR c0 c1 [.slice a0 n0 e0, .slice a1 n1 e1, .slice a2 n2 e2, .int .i64 o.data, .slice a4 n4 e4] cv nw 0 n2 o.code))
              case first =>
                have HSB : Hid (∀ {wl : World}, Below w5.heap.size w5 wl → (wl.cell? ⟨g, 1, none⟩ = some (.slice wa nw wk) ∧ wl.cell? ⟨gO, 2, none⟩ = some (.slice a2 n2 e2) ∧ wl.cell? ⟨gO, 4, none⟩ = some (.slice a4 n4 e4))) := by
                  intro wl hb
                  exact ⟨cell_on (st5.m.cell (i := 1) rfl) hb, cell_on (oB.cell (i := 2) rfl) hb, cell_on (oB.cell (i := 4) rfl) hb⟩
                have Y5 : Hid (Below w.heap.size w w5) := st5.z.y
                have hB0 : Below w5.heap.size w5 w5.drew := (Below.refl _ _).drew
                refine wp_region_held_drew (S := fun wl => wl.cell? ⟨g, 1, none⟩ = some (.slice wa nw wk) ∧ wl.cell? ⟨gO, 2, none⟩ = some (.slice a2 n2 e2) ∧ wl.cell? ⟨gO, 4, none⟩ = some (.slice a4 n4 e4)) (by kernel_rfl) (HSB.out hB0) (fun hHeld => ?_)
                generalize w5.drew = wS at hB0 hHeld ⊢
                refine tk (i := 0) (v := ?v501) rfl (by kernel_rfl) (.inl ⟨by rfl, ?y501⟩) hHeld (fun _ _ _ h => h) ?_
                case y501 => intro w hSw; (try dsimp only at hSw); go_simp; first | done | rfl
                refine tk (i := 1) (v := ?v502) rfl (by kernel_rfl) (.inl ⟨by rfl, ?y502⟩) hHeld (fun _ _ _ h => h) ?_
                case y502 => intro w hSw; (try dsimp only at hSw); go_simp; first | done | rfl
                refine tk (i := 2) (v := ?v503) rfl (by kernel_rfl) (.inl ⟨by rfl, ?y503⟩) hHeld (fun _ _ _ h => h) ?_
                case y503 => intro w hSw; (try dsimp only at hSw); go_simp; first | done | rfl
                try simp only [nrm]
                refine tk (i := 3) (v := ?v504) rfl (by kernel_rfl) (.inl ⟨by rfl, ?y504⟩) hHeld (fun _ _ _ h => h) ?_
                case y504 => intro w hSw; (try dsimp only at hSw); go_simp; first | done | rfl
                refine tk (i := 4) (v := ?v505) rfl (by kernel_rfl) (.inl ⟨by rfl, ?y505⟩) hHeld (fun _ _ _ h => h) ?_
                case y505 => intro w hSw; (try dsimp only at hSw); go_simp; first | done | rfl
                refine tk (i := 5) (v := ?v506) rfl (by kernel_rfl) (.inl ⟨by rfl, ?y506⟩) hHeld (fun _ _ _ h => h) ?_
                case y506 => intro w hSw; (try dsimp only at hSw); go_simp; first | done | rfl
                try simp only [nrm]
                refine tk (i := 7) (v := ?v507) rfl (by kernel_rfl) (.inl ⟨by rfl, ?y507⟩) hHeld (fun _ _ _ h => h) ?_
                case y507 => intro w hSw; (try dsimp only at hSw); go_simp; first | done | rfl
                refine tk (i := 8) (v := ?v508) rfl (by kernel_rfl) (.inl ⟨by rfl, ?y508⟩) hHeld (fun _ _ _ h => h) ?_
                case y508 => intro w hSw; (try dsimp only at hSw); go_simp; first | done | rfl
                try simp only [nrm]
                refine wpAnyH_ready (rs := [6, 11]) (by kernel_rfl) (by simp) ?_
                refine AllReadyH.cons (i := 6) (o := ?o101) ?i101 ?g101 (AllReadyH.cons (i := 11) (o := ?o102) ?i102 ?g102 AllReadyH.nil)
                case i101 => exact rfl
                case i102 => exact rfl
                case g101 =>
                  intro K hK
                  go_simp
                  have oe := own_empty wS
                  have hb101 := below_empty wS
                  have h6 : w5.heap.size ≤ wS.heap.size := hB0.size
                  have hB101 := hB0.trans (hb101.mono hB0.size)
                  have hS101 := HSB.out hB101
                  refine hK.out _ _ hS101 (fun hHeld => ?_)
                  clear hK K
                  try simp only [nrm]
                  have hle6 : wS.heap.size ≤ (wS.alloc (.cells #[] 5)).heap.size := hb101.size
                  clear hb101
                  generalize wS.alloc (.cells #[] 5) = V101 at *
                  generalize wS.heap.size = g6 at *
                  refine wpAnyH_ready (rs := [9, 11]) (by kernel_rfl) (by simp) ?_
                  refine AllReadyH.cons (i := 9) (o := ?o103) ?i103 ?g103 (AllReadyH.cons (i := 11) (o := ?o104) ?i104 ?g104 AllReadyH.nil)
                  case i103 => exact rfl
                  case i104 => exact rfl
                  case g103 =>
                    intro K hK
                    rw [if_pos (by kernel_rfl)]
                    refine wp_appendBG _ _ rfl g6 _ 0 [] rfl oe _ n4 e4 o.code rfl (BRow.below HB4.out (Y5.out.trans (hB101.mono Y5.out.size))) hz4 (by omega) hle6 ?_
                    intro va V103 oa hga
                    try simp only [Nat.zero_add, List.nil_append] at oa
                    have hB103 : Below w5.heap.size w5 V103 := hB101.grown hga hB101.size (fun k hk => Nat.le_trans h6 (oe.1.lt k hk).1)
                    have pc : Pc V103 5 1 g6 V103.heap.size va n4 (bV o.code) := ⟨oa.1, fun k hk => (oa.1.lt k hk).2⟩
                    obtain ⟨c0, hc00⟩ : ∃ z, z = g6 := ⟨_, rfl⟩
                    obtain ⟨c1, hc10⟩ : ∃ z, z = V103.heap.size := ⟨_, rfl⟩
                    have hc0 : w5.heap.size ≤ c0 := by rw [hc00]; exact h6
                    have hc1 : c0 ≤ c1 := by rw [hc00, hc10]; exact Nat.le_trans hle6 hga.size
                    have hc2 : c1 ≤ V103.heap.size := by rw [hc10]; exact Nat.le_refl _
                    rw [← hc00, ← hc10] at pc
                    obtain ⟨ax, cx, hva, _⟩ := owns_shape oa.1
                    subst hva
                    have hS103 := HSB.out hB103
                    refine hK.out _ _ hS103 (fun hHeld => ?_)
                    clear hK K oa hga oe
                    try simp only [nrm]
                    refine tk (i := 10) (v := ?v103) rfl (by kernel_rfl) (.inl ⟨by rfl, ?y103⟩) hHeld (fun _ _ _ h => h) ?_
                    case y103 => intro w hSw; (try dsimp only at hSw); go_simp; first | done | rfl
                    try simp only [nrm]
                    refine wpAnyH_ready (rs := [11]) (by kernel_rfl) (by simp) ?_
                    refine AllReadyH.cons (i := 11) (o := ?o105) ?i105 ?g105 AllReadyH.nil
                    case i105 => exact rfl
                    case g105 =>
                      intro K hK
                      go_simp
                      have hb105 : Below V103.heap.size V103 (V103.alloc (.cells #[.int .i64 0, .int .i64 0, .int .i64 0, .slice none 0 0] 50 (0, 0))) := (Below.refl _ _).alloc (Nat.le_refl _) _
                      have rB := Blk.new V103 50 [.int .i64 0, .int .i64 0, .int .i64 0, .slice none 0 0]
                      simp only [List.toArray] at rB
                      obtain ⟨gR, hgR0⟩ : ∃ z, z = V103.heap.size := ⟨_, rfl⟩
                      have hgR : w5.heap.size ≤ gR := by rw [hgR0]; exact hB103.size
                      rw [← hgR0] at rB
                      replace pc := pc.stays (w' := V103.alloc (.cells #[.int .i64 0, .int .i64 0, .int .i64 0, .slice none 0 0] 50 (0, 0))) (fun g _ q _ => hb105.block g (by omega))
                      replace hc2 := Nat.le_trans hc2 hb105.size
                      have hB105 := hB103.trans (hb105.mono hB103.size)
                      have hS105 := HSB.out hB105
                      rw [← hgR0]
                      refine hK.out _ _ hS105 (fun hHeld => ?_)
                      clear hK K
                      try simp only [nrm]
                      generalize V103.alloc (.cells #[.int .i64 0, .int .i64 0, .int .i64 0, .slice none 0 0] 50 (0, 0)) = V105 at *
                      clear hb105 hgR0
                      have q0 := rB.cell (i := 0) rfl
                      have q1 := rB.cell (i := 1) rfl
                      have q2 := rB.cell (i := 2) rfl
                      have q3 := rB.cell (i := 3) rfl
                      have f0 := rB.free 0
                      have f1 := rB.free 1
                      have f2 := rB.free 2
                      have f3 := rB.free 3
                      have HF : Hid _ := S4.make (rlo := (nw : Int)) (rhi := 0) (rown := (n2 : Int)) st5 oB hgO hB105 rB hgR (show Pc V105 5 1 c0 c1 (.slice ax n4 cx) o.code.length (bV o.code) by rw [HN4.out]; exact pc) ⟨hc0, hc1, hc2⟩ HB4.out.2.1
                      have hBE := ((((hB105.setCell (p := ⟨gR, 0, none⟩) hgR (.int .i64 (nw : Int))).setCell (p := ⟨gR, 1, none⟩) hgR (.int .i64 0)).setCell (p := ⟨gR, 2, none⟩) hgR (.int .i64 (n2 : Int))).setCell (p := ⟨gR, 3, none⟩) hgR (.slice ax n4 cx))
                      have hSE := HSB.out hBE
                      refine wpAnyH_ready (rs := [12]) (by kernel_rfl) (by simp) ?_
                      refine AllReadyH.cons (i := 12) (o := ?o106) ?i106 (fun K hK => ?_) AllReadyH.nil
                      case i106 => exact rfl
                      go_simp
                      refine hK.out _ _ hSE (fun hHeld => ?_)
                      clear hK K
                      try simp only [nrm]
                      refine wpAnyH_done (by kernel_rfl) ?_ _
                      go_wp2_with fail
                      go_meet
                      case rel => exact ⟨_, _, _, _, rfl, HF⟩
                  case g104 =>
                    intro K hK
                    go_simp
                    have hb104 : Below V101.heap.size V101 (V101.alloc (.cells #[.int .i64 0, .int .i64 0, .int .i64 0, .slice none 0 0] 50 (0, 0))) := (Below.refl _ _).alloc (Nat.le_refl _) _
                    have rB := Blk.new V101 50 [.int .i64 0, .int .i64 0, .int .i64 0, .slice none 0 0]
                    simp only [List.toArray] at rB
                    obtain ⟨gR, hgR0⟩ : ∃ z, z = V101.heap.size := ⟨_, rfl⟩
                    have hgR : w5.heap.size ≤ gR := by rw [hgR0]; exact hB101.size
                    rw [← hgR0] at rB
                    replace oe := oe.below hb104
                    replace hle6 := Nat.le_trans hle6 hb104.size
                    have hB104 := hB101.trans (hb104.mono hB101.size)
                    have hS104 := HSB.out hB104
                    rw [← hgR0]
                    refine hK.out _ _ hS104 (fun hHeld => ?_)
                    clear hK K
                    try simp only [nrm]
                    generalize V101.alloc (.cells #[.int .i64 0, .int .i64 0, .int .i64 0, .slice none 0 0] 50 (0, 0)) = V104 at *
                    clear hb104 hgR0
                    refine wpAnyH_ready (rs := [9]) (by kernel_rfl) (by simp) ?_
                    refine AllReadyH.cons (i := 9) (o := ?o107) ?i107 ?g107 AllReadyH.nil
                    case i107 => exact rfl
                    case g107 =>
                      intro K hK
                      rw [if_pos (by kernel_rfl)]
                      refine wp_appendBG _ _ rfl g6 _ 0 [] rfl oe _ n4 e4 o.code rfl (BRow.below HB4.out (Y5.out.trans (hB104.mono Y5.out.size))) hz4 (by omega) hle6 ?_
                      intro va V107 oa hga
                      try simp only [Nat.zero_add, List.nil_append] at oa
                      have hB107 : Below w5.heap.size w5 V107 := hB104.grown hga hB104.size (fun k hk => Nat.le_trans h6 (oe.1.lt k hk).1)
                      have pc : Pc V107 5 1 g6 V107.heap.size va n4 (bV o.code) := ⟨oa.1, fun k hk => (oa.1.lt k hk).2⟩
                      obtain ⟨c0, hc00⟩ : ∃ z, z = g6 := ⟨_, rfl⟩
                      obtain ⟨c1, hc10⟩ : ∃ z, z = V107.heap.size := ⟨_, rfl⟩
                      have hc0 : w5.heap.size ≤ c0 := by rw [hc00]; exact h6
                      have hc1 : c0 ≤ c1 := by rw [hc00, hc10]; exact Nat.le_trans hle6 hga.size
                      have hc2 : c1 ≤ V107.heap.size := by rw [hc10]; exact Nat.le_refl _
                      rw [← hc00, ← hc10] at pc
                      obtain ⟨ax, cx, hva, _⟩ := owns_shape oa.1
                      subst hva
                      replace rB : Blk V107 gR 50 [.int .i64 0, .int .i64 0, .int .i64 0, .slice none 0 0] := (grown_other oe.1 hga (by decide) ⟨_, rB⟩).trans rB
                      have hS107 := HSB.out hB107
                      refine hK.out _ _ hS107 (fun hHeld => ?_)
                      clear hK K oa hga oe
                      try simp only [nrm]
                      refine tk (i := 10) (v := ?v107) rfl (by kernel_rfl) (.inl ⟨by rfl, ?y107⟩) hHeld (fun _ _ _ h => h) ?_
                      case y107 => intro w hSw; (try dsimp only at hSw); go_simp; first | done | rfl
                      try simp only [nrm]
                      have q0 := rB.cell (i := 0) rfl
                      have q1 := rB.cell (i := 1) rfl
                      have q2 := rB.cell (i := 2) rfl
                      have q3 := rB.cell (i := 3) rfl
                      have f0 := rB.free 0
                      have f1 := rB.free 1
                      have f2 := rB.free 2
                      have f3 := rB.free 3
                      have HF : Hid _ := S4.make (rlo := (nw : Int)) (rhi := 0) (rown := (n2 : Int)) st5 oB hgO hB107 rB hgR (show Pc V107 5 1 c0 c1 (.slice ax n4 cx) o.code.length (bV o.code) by rw [HN4.out]; exact pc) ⟨hc0, hc1, hc2⟩ HB4.out.2.1
                      have hBE := ((((hB107.setCell (p := ⟨gR, 0, none⟩) hgR (.int .i64 (nw : Int))).setCell (p := ⟨gR, 1, none⟩) hgR (.int .i64 0)).setCell (p := ⟨gR, 2, none⟩) hgR (.int .i64 (n2 : Int))).setCell (p := ⟨gR, 3, none⟩) hgR (.slice ax n4 cx))
                      have hSE := HSB.out hBE
                      refine wpAnyH_ready (rs := [12]) (by kernel_rfl) (by simp) ?_
                      refine AllReadyH.cons (i := 12) (o := ?o108) ?i108 (fun K hK => ?_) AllReadyH.nil
                      case i108 => exact rfl
                      go_simp
                      refine hK.out _ _ hSE (fun hHeld => ?_)
                      clear hK K
                      try simp only [nrm]
                      refine wpAnyH_done (by kernel_rfl) ?_ _
                      go_wp2_with fail
                      go_meet
                      case rel => exact ⟨_, _, _, _, rfl, HF⟩
                case g102 =>
                  intro K hK
                  go_simp
                  have hb102 : Below wS.heap.size wS (wS.alloc (.cells #[.int .i64 0, .int .i64 0, .int .i64 0, .slice none 0 0] 50 (0, 0))) := (Below.refl _ _).alloc (Nat.le_refl _) _
                  have rB := Blk.new wS 50 [.int .i64 0, .int .i64 0, .int .i64 0, .slice none 0 0]
                  simp only [List.toArray] at rB
                  obtain ⟨gR, hgR0⟩ : ∃ z, z = wS.heap.size := ⟨_, rfl⟩
                  have hgR : w5.heap.size ≤ gR := by rw [hgR0]; exact hB0.size
                  rw [← hgR0] at rB
                  have hB102 := hB0.trans (hb102.mono hB0.size)
                  have hS102 := HSB.out hB102
                  rw [← hgR0]
                  refine hK.out _ _ hS102 (fun hHeld => ?_)
                  clear hK K
                  try simp only [nrm]
                  generalize wS.alloc (.cells #[.int .i64 0, .int .i64 0, .int .i64 0, .slice none 0 0] 50 (0, 0)) = V102 at *
                  clear hb102 hgR0
                  refine wpAnyH_ready (rs := [6]) (by kernel_rfl) (by simp) ?_
                  refine AllReadyH.cons (i := 6) (o := ?o109) ?i109 ?g109 AllReadyH.nil
                  case i109 => exact rfl
                  case g109 =>
                    intro K hK
                    go_simp
                    have oe := own_empty V102
                    have hb109 := below_empty V102
                    have h6 : w5.heap.size ≤ V102.heap.size := hB102.size
                    replace rB := rB.below hb109 rB.lt
                    have hB109 := hB102.trans (hb109.mono hB102.size)
                    have hS109 := HSB.out hB109
                    refine hK.out _ _ hS109 (fun hHeld => ?_)
                    clear hK K
                    try simp only [nrm]
                    have hle6 : V102.heap.size ≤ (V102.alloc (.cells #[] 5)).heap.size := hb109.size
                    clear hb109
                    generalize V102.alloc (.cells #[] 5) = V109 at *
                    generalize V102.heap.size = g6 at *
                    refine wpAnyH_ready (rs := [9]) (by kernel_rfl) (by simp) ?_
                    refine AllReadyH.cons (i := 9) (o := ?o110) ?i110 ?g110 AllReadyH.nil
                    case i110 => exact rfl
                    case g110 =>
                      intro K hK
                      rw [if_pos (by kernel_rfl)]
                      refine wp_appendBG _ _ rfl g6 _ 0 [] rfl oe _ n4 e4 o.code rfl (BRow.below HB4.out (Y5.out.trans (hB109.mono Y5.out.size))) hz4 (by omega) hle6 ?_
                      intro va V110 oa hga
                      try simp only [Nat.zero_add, List.nil_append] at oa
                      have hB110 : Below w5.heap.size w5 V110 := hB109.grown hga hB109.size (fun k hk => Nat.le_trans h6 (oe.1.lt k hk).1)
                      have pc : Pc V110 5 1 g6 V110.heap.size va n4 (bV o.code) := ⟨oa.1, fun k hk => (oa.1.lt k hk).2⟩
                      obtain ⟨c0, hc00⟩ : ∃ z, z = g6 := ⟨_, rfl⟩
                      obtain ⟨c1, hc10⟩ : ∃ z, z = V110.heap.size := ⟨_, rfl⟩
                      have hc0 : w5.heap.size ≤ c0 := by rw [hc00]; exact h6
                      have hc1 : c0 ≤ c1 := by rw [hc00, hc10]; exact Nat.le_trans hle6 hga.size
                      have hc2 : c1 ≤ V110.heap.size := by rw [hc10]; exact Nat.le_refl _
                      rw [← hc00, ← hc10] at pc
                      obtain ⟨ax, cx, hva, _⟩ := owns_shape oa.1
                      subst hva
                      replace rB : Blk V110 gR 50 [.int .i64 0, .int .i64 0, .int .i64 0, .slice none 0 0] := (grown_other oe.1 hga (by decide) ⟨_, rB⟩).trans rB
                      have hS110 := HSB.out hB110
                      refine hK.out _ _ hS110 (fun hHeld => ?_)
                      clear hK K oa hga oe
                      try simp only [nrm]
                      refine tk (i := 10) (v := ?v110) rfl (by kernel_rfl) (.inl ⟨by rfl, ?y110⟩) hHeld (fun _ _ _ h => h) ?_
                      case y110 => intro w hSw; (try dsimp only at hSw); go_simp; first | done | rfl
                      try simp only [nrm]
                      have q0 := rB.cell (i := 0) rfl
                      have q1 := rB.cell (i := 1) rfl
                      have q2 := rB.cell (i := 2) rfl
                      have q3 := rB.cell (i := 3) rfl
                      have f0 := rB.free 0
                      have f1 := rB.free 1
                      have f2 := rB.free 2
                      have f3 := rB.free 3
                      have HF : Hid _ := S4.make (rlo := (nw : Int)) (rhi := 0) (rown := (n2 : Int)) st5 oB hgO hB110 rB hgR (show Pc V110 5 1 c0 c1 (.slice ax n4 cx) o.code.length (bV o.code) by rw [HN4.out]; exact pc) ⟨hc0, hc1, hc2⟩ HB4.out.2.1
                      have hBE := ((((hB110.setCell (p := ⟨gR, 0, none⟩) hgR (.int .i64 (nw : Int))).setCell (p := ⟨gR, 1, none⟩) hgR (.int .i64 0)).setCell (p := ⟨gR, 2, none⟩) hgR (.int .i64 (n2 : Int))).setCell (p := ⟨gR, 3, none⟩) hgR (.slice ax n4 cx))
                      have hSE := HSB.out hBE
                      refine wpAnyH_ready (rs := [12]) (by kernel_rfl) (by simp) ?_
                      refine AllReadyH.cons (i := 12) (o := ?o111) ?i111 (fun K hK => ?_) AllReadyH.nil
                      case i111 => exact rfl
                      go_simp
                      refine hK.out _ _ hSE (fun hHeld => ?_)
                      clear hK K
                      try simp only [nrm]
                      refine wpAnyH_done (by kernel_rfl) ?_ _
                      go_wp2_with fail
                      go_meet
                      case rel => exact ⟨_, _, _, _, rfl, HF⟩
              case rest =>
                obtain ⟨gR, c0, c1, cv, rfl, hs4⟩ := hcut
                clear st5 oB
                have HI0 : Hid (∃ h2 wv, S4 l w g hi h2 wc (.slice ma rs.length mc) wv rs (modsTo l j) (wordsTo l j ++ (entsAt l j).take 0) gO gR c0 c1 [.slice a0 n0 e0, .slice a1 n1 e1, .slice a2 n2 e2, .int .i64 o.data, .slice a4 n4 e4] cv nw 0 n2 o.code) := ⟨_, _, by rw [List.take_zero, List.append_nil]; exact hs4.out⟩
                clear hs4
                go_wp2_with fail
                go_loopw [11, 12, 13, 14, 15] (fun i _ _ _ _ wr => ∃ k : Nat, k ≤ n2 ∧ i = .int .i64 k ∧ Hid (∀ (m : Nat) (i : Ip), m < k → o.im[m]? = some i → impW (l.take j) i ≠ none) ∧ Hid (∃ h2 wv, S4 l w g hi h2 wr (.slice ma rs.length mc) wv rs (modsTo l j) (wordsTo l j ++ (entsAt l j).take k) gO gR c0 c1 [.slice a0 n0 e0, .slice a1 n1 e1, .slice a2 n2 e2, .int .i64 o.data, .slice a4 n4 e4] cv nw 0 n2 o.code)) (fun i _ _ _ _ _ => n2 - (intOf i).toNat)
                case atStart => exact ⟨0, Nat.zero_le _, rfl, (by show ∀ _ _, _; omega), HI0⟩
                case round =>
                  obtain ⟨k, hk, rfl, hno, hst⟩ := hrel
                  clear HI0
                  obtain ⟨h2, wv, st⟩ := hst.out
                  clear hst
                  have oc2 := st.o.cell (i := 2) rfl
                  by_cases hlk : k < n2
                  · obtain ⟨i, hi9⟩ : ∃ i, o.im[k]? = some i := ⟨_, List.getElem?_eq_getElem (by rw [HN2.out]; exact hlk)⟩
                    obtain ⟨bi, ofi, am, cm, an, cn, rfl, ⟨r0, r1, r2⟩, hBm, hBn⟩ := impCells HI2.out hi9
                    have HIK : Hid (o.im[k]? = some i) := hi9
                    have y := st.s.z.y
                    have hk' : (k : Int) < (n2 : Int) := by omega
                    have z0 : (0 : Int) ≤ (j : Int) := by omega
                    have z1 : (j : Int) ≤ (c : Int) := by omega
                    have z2 : (j : Int) ≤ (n : Int) := by omega
                    have HB1 : Hid (BRow w am i.mod.length i.mod) := hBm
                    have HB2 : Hid (BRow w an i.name.length i.name) := hBn
                    have H1 := l10objectC (l.take j) (some ⟨b, off, none⟩) j c wr.drew (by rw [List.map_take]; exact LRow.below (LRow.take HL.out j) y.drew) (by rw [List.length_take, HN.out]; omega) am i.mod.length cm i.mod (hBm.below y.drew)
                    have HS0 : (wr.drew.cell? ⟨gO, 2, none⟩ = some (.slice (some ⟨bi, ofi, none⟩) n2 e2) ∧ wr.drew.cell? ⟨bi, ofi + k * 3, none⟩ = some (.slice am i.mod.length cm) ∧ wr.drew.cell? ⟨bi, ofi + k * 3 + 1, none⟩ = some (.slice an i.name.length cn) ∧ wr.drew.cell? ⟨bi, ofi + k * 3 + 2, none⟩ = some (.int .i64 i.print)) := ⟨oc2, cell_on r0 y.drew, cell_on r1 y.drew, cell_on r2 y.drew⟩
                    have hbs : ∀ {wl : World}, Below wr.drew.heap.size wr.drew wl → (wl.cell? ⟨gO, 2, none⟩ = some (.slice (some ⟨bi, ofi, none⟩) n2 e2) ∧ wl.cell? ⟨bi, ofi + k * 3, none⟩ = some (.slice am i.mod.length cm) ∧ wl.cell? ⟨bi, ofi + k * 3 + 1, none⟩ = some (.slice an i.name.length cn) ∧ wl.cell? ⟨bi, ofi + k * 3 + 2, none⟩ = some (.int .i64 i.print)) := fun hb => ⟨cell_on HS0.1 hb, cell_on HS0.2.1 hb, cell_on HS0.2.2.1 hb, cell_on HS0.2.2.2 hb⟩
                    have HIM : Hid (impW (l.take j) i = match findO (l.take j) i.mod with | none => none | some f => match findX ((l.take j)[f]?.getD ⟨[], [], [], 0, []⟩) i.name i.print with | none => none | some x => some (entWo f x)) := rfl
                    obtain ⟨fo, hfo⟩ : ∃ z, z = findO (l.take j) i.mod := ⟨_, rfl⟩
                    rw [← hfo] at H1 HIM
                    have HFO : Hid (findO (l.take j) i.mod = fo) := hfo.symm
                    generalize i.mod.length = nm at *
                    generalize i.name.length = nn at *
                    clear hi9 hBm hBn r0 r1 r2 hfo
                    go_wp2_with fail
                    go_region_held3 (fun wx => (wx.cell? ⟨gO, 2, none⟩ = some (.slice (some ⟨bi, ofi, none⟩) n2 e2) ∧ wx.cell? ⟨bi, ofi + k * 3, none⟩ = some (.slice am nm cm) ∧ wx.cell? ⟨bi, ofi + k * 3 + 1, none⟩ = some (.slice an nn cn) ∧ wx.cell? ⟨bi, ofi + k * 3 + 2, none⟩ = some (.int .i64 i.print))) (first | exact HS0 | exact HSl) (first
                      | (go_at_call 15; (with_reducible refine H1.mono ?_); rintro e wl ⟨rfl, hgl⟩; have HSl := hbs (below_grown hgl)))
                    have bl : Below wr.heap.size wr wl := (Below.refl wr.heap.size wr).drew.trans (below_grown hgl)
                    have st6 := st.step bl
                    clear H1 HS0 hbs hgl oc2 st bl y
                    cases fo with
                    | none =>
                      have HX : Hid (¬ goodTo l l.length) := good_not HO.out (by rw [HN.out]; exact hlt) HIK.out HIM.out
                      simp only [intO]
                      have s9 := st6.s.z
                      clear st6
                      have z0 := s9.z.cell (i := 0) rfl
                      have z1 := s9.z.cell (i := 1) rfl
                      have z2 := s9.z.cell (i := 2) rfl
                      have f0 := s9.z.free 0
                      have f1 := s9.z.free 1
                      have f2 := s9.z.free 2
                      have HF : Hid (LkFin l w (.returned (.tuple #[.agg #[.slice none 0 0, .slice none 0 0, .int .i64 0], .int .i64 3])) (((wl.setCell ⟨w.heap.size, 0, none⟩ (.slice none 0 0)).setCell ⟨w.heap.size, 1, none⟩ (.slice none 0 0)).setCell ⟨w.heap.size, 2, none⟩ (.int .i64 0))) := fin_no s9 (Lk.missing HFo.out HUo.out HX.out)
                      have D : Blk (((wl.setCell ⟨w.heap.size, 0, none⟩ (.slice none 0 0)).setCell ⟨w.heap.size, 1, none⟩ (.slice none 0 0)).setCell ⟨w.heap.size, 2, none⟩ (.int .i64 0)) w.heap.size 27 [.slice none 0 0, .slice none 0 0, .int .i64 0] := Blk.put3 s9.z
                      have d0 := D.cell (i := 0) rfl
                      have d1 := D.cell (i := 1) rfl
                      have d2 := D.cell (i := 2) rfl
                      clear D 
                      go_wp2_with fail
                      refine bodyPost_ret (v := .tuple #[.agg #[.slice none 0 0, .slice none 0 0, .int .i64 0], .int .i64 3]) (by simp only [results, Try.results5]; simp [go_sem, d0, d1, d2]) rfl HF.out
                    | some f =>
                      obtain ⟨o', hto, _, _⟩ := find_some HFO.out
                      obtain ⟨hfj, hlf⟩ := take_get hto
                      obtain ⟨o'', u0, u1, u2, u3, u4, ho2, hv2, d0, d1, d2, d3, d4⟩ := HC.out f (by omega)
                      obtain rfl : o'' = o' := by rw [hlf] at ho2; exact (Option.some.inj ho2).symm
                      have y := st6.s.z.y
                      obtain ⟨q1, _, _, _, _, _, _⟩ := objOk_parts (HFo.out.2 o'' (List.mem_of_getElem? hlf))
                      have HV2 : Hid (RdVals w o''.fl [u0, u1, u2, u3, u4]) := hv2
                      obtain ⟨g0, x0, g1, x1, g2, x2, g4, x4, rfl, rfl, rfl, rfl, rfl, _⟩ := objShape hv2
                      have HIM2 : Hid (impW (l.take j) i = match findX o'' i.name i.print with | none => none | some x => some (entWo f x)) := by
                        show _ = _
                        rw [HIM.out]
                        simp only [hto, Option.getD_some]
                      have H2 := l10exportC o'' _ _ _ _ _ wl.drew (RdVals.below HV2.out y.drew) an nn cn i.name (BRow.below HB2.out y.drew) i.print
                      obtain ⟨fx, hfx⟩ : ∃ z, z = findX o'' i.name i.print := ⟨_, rfl⟩
                      rw [← hfx] at H2 HIM2
                      have HFX : Hid (findX o'' i.name i.print = fx) := hfx.symm
                      have HQ1 : Hid (∀ (x : Nat) (z : Xp), o''.ex[x]? = some z → x ≤ 4000) := fun x z hz => by have := (List.getElem?_eq_some_iff.1 hz).1; omega
                      have hff : ¬ ((f : Int) < 0) := by omega
                      have hf9 : (f : Int) < (n : Int) := by omega
                      have hz9 : (0 : Int) ≤ (f : Int) := by omega
                      have HT0 : (wl.drew.cell? ⟨b, off + f * 5, none⟩ = some (.slice g0 o''.name.length x0) ∧ wl.drew.cell? ⟨b, off + f * 5 + 1, none⟩ = some (.slice g1 o''.ex.length x1) ∧ wl.drew.cell? ⟨b, off + f * 5 + 2, none⟩ = some (.slice g2 o''.im.length x2) ∧ wl.drew.cell? ⟨b, off + f * 5 + 3, none⟩ = some (.int .i64 o''.data) ∧ wl.drew.cell? ⟨b, off + f * 5 + 4, none⟩ = some (.slice g4 o''.code.length x4)) := ⟨cell_on d0 y.drew, cell_on d1 y.drew, cell_on d2 y.drew, cell_on d3 y.drew, cell_on d4 y.drew⟩
                      clear hv2 ho2 hto hfx d0 d1 d2 d3 d4 HIM q1
                      generalize o''.name.length = m0 at *
                      generalize o''.ex.length = m1 at *
                      generalize o''.im.length = m2 at *
                      generalize o''.code.length = m4 at *
                      generalize o''.data = m3 at *
                      have HT1 : (wl.drew.cell? ⟨gO, 2, none⟩ = some (.slice (some ⟨bi, ofi, none⟩) n2 e2) ∧ wl.drew.cell? ⟨bi, ofi + k * 3, none⟩ = some (.slice am nm cm) ∧ wl.drew.cell? ⟨bi, ofi + k * 3 + 1, none⟩ = some (.slice an nn cn) ∧ wl.drew.cell? ⟨bi, ofi + k * 3 + 2, none⟩ = some (.int .i64 i.print)) := HSl
                      have hbt : ∀ {wx : World}, Below wl.drew.heap.size wl.drew wx → ((wx.cell? ⟨b, off + f * 5, none⟩ = some (.slice g0 m0 x0) ∧ wx.cell? ⟨b, off + f * 5 + 1, none⟩ = some (.slice g1 m1 x1) ∧ wx.cell? ⟨b, off + f * 5 + 2, none⟩ = some (.slice g2 m2 x2) ∧ wx.cell? ⟨b, off + f * 5 + 3, none⟩ = some (.int .i64 m3) ∧ wx.cell? ⟨b, off + f * 5 + 4, none⟩ = some (.slice g4 m4 x4)) ∧ (wx.cell? ⟨gO, 2, none⟩ = some (.slice (some ⟨bi, ofi, none⟩) n2 e2) ∧ wx.cell? ⟨bi, ofi + k * 3, none⟩ = some (.slice am nm cm) ∧ wx.cell? ⟨bi, ofi + k * 3 + 1, none⟩ = some (.slice an nn cn) ∧ wx.cell? ⟨bi, ofi + k * 3 + 2, none⟩ = some (.int .i64 i.print))) :=
                        fun hb => ⟨⟨cell_on HT0.1 hb, cell_on HT0.2.1 hb, cell_on HT0.2.2.1 hb, cell_on HT0.2.2.2.1 hb, cell_on HT0.2.2.2.2 hb⟩, ⟨cell_on HT1.1 hb, cell_on HT1.2.1 hb, cell_on HT1.2.2.1 hb, cell_on HT1.2.2.2 hb⟩⟩
                      have HT := hbt (Below.refl wl.drew.heap.size wl.drew)
                      simp only [intO]
                      go_wp2_with fail
                      go_region_held3 (fun wx => ((wx.cell? ⟨b, off + f * 5, none⟩ = some (.slice g0 m0 x0) ∧ wx.cell? ⟨b, off + f * 5 + 1, none⟩ = some (.slice g1 m1 x1) ∧ wx.cell? ⟨b, off + f * 5 + 2, none⟩ = some (.slice g2 m2 x2) ∧ wx.cell? ⟨b, off + f * 5 + 3, none⟩ = some (.int .i64 m3) ∧ wx.cell? ⟨b, off + f * 5 + 4, none⟩ = some (.slice g4 m4 x4)) ∧ (wx.cell? ⟨gO, 2, none⟩ = some (.slice (some ⟨bi, ofi, none⟩) n2 e2) ∧ wx.cell? ⟨bi, ofi + k * 3, none⟩ = some (.slice am nm cm) ∧ wx.cell? ⟨bi, ofi + k * 3 + 1, none⟩ = some (.slice an nn cn) ∧ wx.cell? ⟨bi, ofi + k * 3 + 2, none⟩ = some (.int .i64 i.print)))) (first | exact HT | exact HSx) (first
                        | (go_at_call 16; (with_reducible refine H2.mono ?_); rintro e wx ⟨rfl, hgx⟩; have HSx := hbt (below_grown hgx)))
                      have bx : Below wl.heap.size wl wx := (Below.refl wl.heap.size wl).drew.trans (below_grown hgx)
                      have st7 := st6.step bx
                      clear H2 HT HT0 HT1 hbt hgx HSl HSx st6 bx y
                      cases fx with
                      | none =>
                        have HX : Hid (¬ goodTo l l.length) := good_not HO.out (by rw [HN.out]; exact hlt) HIK.out HIM2.out
                        simp only [intO]
                        have s9 := st7.s.z
                        clear st7
                        have z0 := s9.z.cell (i := 0) rfl
                        have z1 := s9.z.cell (i := 1) rfl
                        have z2 := s9.z.cell (i := 2) rfl
                        have f0 := s9.z.free 0
                        have f1 := s9.z.free 1
                        have f2 := s9.z.free 2
                        have HF : Hid (LkFin l w (.returned (.tuple #[.agg #[.slice none 0 0, .slice none 0 0, .int .i64 0], .int .i64 3])) (((wx.setCell ⟨w.heap.size, 0, none⟩ (.slice none 0 0)).setCell ⟨w.heap.size, 1, none⟩ (.slice none 0 0)).setCell ⟨w.heap.size, 2, none⟩ (.int .i64 0))) := fin_no s9 (Lk.missing HFo.out HUo.out HX.out)
                        have D : Blk (((wx.setCell ⟨w.heap.size, 0, none⟩ (.slice none 0 0)).setCell ⟨w.heap.size, 1, none⟩ (.slice none 0 0)).setCell ⟨w.heap.size, 2, none⟩ (.int .i64 0)) w.heap.size 27 [.slice none 0 0, .slice none 0 0, .int .i64 0] := Blk.put3 s9.z
                        have d0 := D.cell (i := 0) rfl
                        have d1 := D.cell (i := 1) rfl
                        have d2 := D.cell (i := 2) rfl
                        clear D 
                        go_wp2_with fail
                        refine bodyPost_ret (v := .tuple #[.agg #[.slice none 0 0, .slice none 0 0, .int .i64 0], .int .i64 3]) (by simp only [results, Try.results5]; simp [go_sem, d0, d1, d2]) rfl HF.out
                      | some x =>
                        obtain ⟨_, hxe, _, _⟩ := find_some HFX.out
                        have hx8 : x ≤ 4000 := HQ1.out x _ hxe
                        simp only at HIM2
                        have hxx : ¬ ((x : Int) < 0) := by omega
                        have H3 := specEntryM (f : Int) (x : Int) wx
                        rw [entB_yes (show f ≤ 7 by omega) hx8] at H3
                        simp only [sel, cond_true] at H3
                        have HNO : Hid (∀ (m : Nat) (i : Ip), m < k + 1 → o.im[m]? = some i → impW (l.take j) i ≠ none) := fun m i' hm hi' => by
                          by_cases e : m = k
                          · subst e
                            have := HIK.out
                            rw [hi'] at this
                            cases this
                            rw [HIM2.out]; simp
                          · exact hno.out m i' (by omega) hi'
                        have HEN : Hid ((entsAt l j).take (k + 1) = (entsAt l j).take k ++ [entWo f x]) := ents_next HO.out HIK.out HIM2.out
                        clear hxe hno HIM2 HFX HFO HIK HV2
                        simp only [intO]
                        go_wp2_with fail
                        refine H3.mono ?_
                        rintro e wE ⟨rfl, hbE⟩
                        have st8 := st7.step hbE
                        clear H3 st7 hbE
                        have bB : Below wE.heap.size wE ((wE.alloc (.cells #[.bool true, .int .i64 0, .int .i64 0, .int .i64 0, .int .i64 x, .int .i64 16, .int .i64 ((f : Int) + 1)] 55 (0, 0)))) := (Below.refl _ _).alloc (Nat.le_refl _) _
                        have wB := Blk.new wE 55 [.bool true, .int .i64 0, .int .i64 0, .int .i64 0, .int .i64 x, .int .i64 16, .int .i64 ((f : Int) + 1)]
                        have st9 := st8.step bB
                        clear bB st8
                        simp only [List.toArray] at wB
                        go_upto_region 30 with fail
                        generalize wE.alloc (.cells #[.bool true, .int .i64 0, .int .i64 0, .int .i64 0, .int .i64 x, .int .i64 16, .int .i64 ((f : Int) + 1)] 55 (0, 0)) = wF at *
                        generalize wE.heap.size = gW at *
                        obtain ⟨_, _, wa2, wk2, _, hwv⟩ := st9.s.cells
                        obtain ⟨lw, hlw⟩ : ∃ z, z = (wordsTo l j ++ (entsAt l j).take k).length := ⟨_, rfl⟩
                        have HLW : Hid ((wordsTo l j ++ (entsAt l j).take k).length = lw) := hlw.symm
                        have hlwb : lw ≤ 2272 := by rw [hlw]; exact lw_bound HNW.out hnwb (by omega)
                        rw [← hlw] at hwv
                        subst hwv
                        clear hlw
                        have mc1 := st9.s.m.cell (i := 1) rfl
                        have w0c := wB.cell (i := 0) rfl
                        have w1c := wB.cell (i := 1) rfl
                        have w2c := wB.cell (i := 2) rfl
                        have w3c := wB.cell (i := 3) rfl
                        have w4c := wB.cell (i := 4) rfl
                        have w5c := wB.cell (i := 5) rfl
                        have w6c := wB.cell (i := 6) rfl
                        have bC : Below wF.heap.size wF (wF.alloc (.cells #[.bool true, .int .i64 0, .int .i64 0, .int .i64 0, .int .i64 x, .int .i64 16, .int .i64 ((f : Int) + 1)] 55 (0, 0))) := (Below.refl _ _).alloc (Nat.le_refl _) _
                        have stA : Hid _ := st9.step bC
                        have hAt : Hid (WAt (wF.alloc (.cells #[.bool true, .int .i64 0, .int .i64 0, .int .i64 0, .int .i64 x, .int .i64 16, .int .i64 ((f : Int) + 1)] 55 (0, 0))) (some ⟨wF.heap.size, 0, none⟩) [entWo f x]) := wat_one (Blk.new wF 55 (entWo f x).vals)
                        have hown : Hid ((wF.alloc (.cells #[.bool true, .int .i64 0, .int .i64 0, .int .i64 0, .int .i64 x, .int .i64 16, .int .i64 ((f : Int) + 1)] 55 (0, 0))).ownsRow w.heap.size 55 7 (.slice wa2 lw wk2) lw (flatW (wordsTo l j ++ (entsAt l j).take k))) := by
                          have := stA.out.s.im.wrow.own
                          rw [HLW.out] at this
                          exact this
                        have hyA : Hid (w.heap.size ≤ (wF.alloc (.cells #[.bool true, .int .i64 0, .int .i64 0, .int .i64 0, .int .i64 x, .int .i64 16, .int .i64 ((f : Int) + 1)] 55 (0, 0))).heap.size) := stA.out.s.z.y.size
                        clear st9 wB bC
                        go_wp2_with (at_builtin; refine wpList_appendWo rfl _ _ rfl w.heap.size _ lw _ rfl hown.out _ 1 1 [entWo f x] rfl rfl hAt.out (by simp) (by omega) hyA.out ?_)
                        intro wv' w9 ho9 hg9
                        have m9 := stA.out.s.im.wblk hg9 stA.out.s.m (by decide)
                        have k9 := m9.cell (i := 1) rfl
                        have f9 := m9.free 1
                        obtain ⟨wa3, wk3, rfl, _⟩ := owns_shape ho9
                        have st10 := stA.out.words (us := [entWo f x]) rfl (by rw [HLW.out]; exact ho9) hg9
                        have HFI : Hid (∃ h2 wv, S4 l w g hi h2 (w9.setCell ⟨g, 1, none⟩ (.slice wa3 (lw + 1) wk3)) (.slice ma rs.length mc) wv rs (modsTo l j) (wordsTo l j ++ (entsAt l j).take (k + 1)) gO gR c0 c1 [.slice a0 n0 e0, .slice a1 n1 e1, .slice (some ⟨bi, ofi, none⟩) n2 e2, .int .i64 o.data, .slice a4 n4 e4] cv nw 0 n2 o.code) := ⟨_, _, by rw [HEN.out, ← List.append_assoc]; exact st10⟩
                        clear st10 m9 ho9 hg9 stA hown hAt hyA HEN mc1 w0c w1c w2c w3c w4c w5c w6c
                        go_wp2_with fail
                        go_roundw
                        case rel => exact ⟨k + 1, by omega, by go_num, HNO, HFI⟩
                        case measure => simp [intOf]; omega
                  · have : n2 = k := by omega
                    subst this
                    have HG1 : Hid (goodTo l (j + 1)) := good_next HO.out HN2.out hgood.out hno.out
                    rw [ents_all HO.out HN2.out] at st
                    clear hno hgood
                    obtain ⟨nd, hnd⟩ : ∃ nd : Nat, o.data = (nd : Int) := ⟨o.data.toNat, by omega⟩
                    have HDA : Hid (dataAt l j = List.replicate nd zeroWo) := data_at HO.out hnd
                    rw [hnd] at st p3 p4
                    obtain ⟨_, _, wa2, wk2, _, hwv⟩ := st.s.cells
                    obtain ⟨lw, hlw⟩ : ∃ z, z = (wordsTo l j ++ entsAt l j).length := ⟨_, rfl⟩
                    have HLW : Hid ((wordsTo l j ++ entsAt l j).length = lw) := hlw.symm
                    have hlwb : lw ≤ 2272 := by rw [hlw, ← ents_all HO.out HN2.out]; exact lw_bound HNW.out hnwb (by omega)
                    have hlwp : 0 < lw := by
                      rw [hlw, List.length_append]
                      have : 600 ≤ (wordsTo l j).length := words600 l j
                      omega
                    rw [← hlw] at hwv
                    subst hwv
                    clear hlw
                    have hown0 := st.s.im.wrow.own
                    rw [HLW.out] at hown0
                    obtain ⟨_, _, e9, _, _, _, hs9⟩ := owns_shape hown0
                    obtain ⟨gw, hgw⟩ := hs9 hlwp
                    simp only [Value.slice.injEq] at e9
                    obtain ⟨rfl, _, rfl⟩ := e9
                    subst hgw
                    have HOW : Hid _ := hown0
                    have hyA : Hid (w.heap.size ≤ wr.heap.size) := st.s.z.y.size
                    have mc1 := st.s.m.cell (i := 1) rfl
                    have oc3 := st.o.cell (i := 3) rfl
                    have hk9 : ¬ ((n2 : Int) < (n2 : Int)) := by omega
                    clear hown0 hs9
                    go_wp2_with (at_builtin; refine wpList_appendZ rfl _ _ rfl w.heap.size gw lw wk2 _ rfl HOW.out nd rfl (by omega) hyA.out ?_)
                    intro wv' w9 ho9 hg9
                    have m9 := st.s.im.wblk hg9 st.s.m (by decide)
                    have k9 := m9.cell (i := 1) rfl
                    have f9 := m9.free 1
                    obtain ⟨wa3, wk3, rfl, _⟩ := owns_shape ho9
                    obtain ⟨lz, hlz⟩ : ∃ z, z = lw + nd := ⟨_, rfl⟩
                    rw [← hlz] at ho9 ⊢
                    have st1 := st.words (us := List.replicate nd zeroWo) (List.length_replicate ..) (by rw [HLW.out, ← hlz]; exact ho9) hg9
                    rw [List.append_assoc, ← HDA.out] at st1
                    have st2 : S4 l w g hi w9.heap.size (w9.setCell ⟨g, 1, none⟩ (.slice wa3 lz wk3)) (.slice ma rs.length mc) (.slice wa3 lz wk3) rs (modsTo l j) (wordsTo l (j + 1)) gO gR c0 c1 [.slice a0 n0 e0, .slice a1 n1 e1, .slice a2 n2 e2, .int .i64 (nd : Int), .slice a4 n4 e4] cv nw 0 n2 o.code := st1
                    have HLW2 : Hid ((wordsTo l (j + 1)).length = lz) := by
                      show (wordsTo l j ++ (entsAt l j ++ dataAt l j)).length = _
                      rw [← List.append_assoc, List.length_append, HLW.out, HDA.out, List.length_replicate, hlz]
                    clear st st1 m9 ho9 hg9 HOW hyA mc1 oc3 HDA HLW oc2 hlz
                    go_upto_region 32 with fail
                    clear k9 f9
                    generalize w9.setCell ⟨g, 1, none⟩ (.slice wa3 lz wk3) = wA at *
                    generalize w9.heap.size = h3 at *
                    have mc1 := st2.s.m.cell (i := 1) rfl
                    have rc1 := st2.r.cell (i := 1) rfl
                    have rf1 := st2.r.free 1
                    have st3 := st2.rhi (lz : Int)
                    clear st2
                    go_upto_region 33 with fail
                    clear mc1 rc1 rf1
                    generalize wA.setCell ⟨gR, 1, none⟩ (.int .i64 (lz : Int)) = wB at *
                    obtain ⟨ax, cx, hcv, _⟩ := owns_shape st3.c.own
                    rw [HN4.out] at hcv
                    subst hcv
                    have mc0 := st3.s.m.cell (i := 0) rfl
                    have rc0 := st3.r.cell (i := 0) rfl
                    have rc1 := st3.r.cell (i := 1) rfl
                    have rc2 := st3.r.cell (i := 2) rfl
                    have rc3 := st3.r.cell (i := 3) rfl
                    have bC : Below wB.heap.size wB (wB.alloc (.cells #[.int .i64 nw, .int .i64 (lz : Int), .int .i64 n2, .slice ax n4 cx] 50 (0, 0))) := (Below.refl _ _).alloc (Nat.le_refl _) _
                    have stA : Hid _ := st3.step bC
                    have hRb : Hid (Blk (wB.alloc (.cells #[.int .i64 nw, .int .i64 (lz : Int), .int .i64 n2, .slice ax n4 cx] 50 (0, 0))) wB.heap.size 50 (Rg.vals (.slice ax n4 cx) ⟨(nw : Int), (lz : Int), (n2 : Int), o.code⟩)) := Blk.new wB 50 (Rg.vals (.slice ax n4 cx) ⟨(nw : Int), (lz : Int), (n2 : Int), o.code⟩)
                    have hown : Hid ((wB.alloc (.cells #[.int .i64 nw, .int .i64 (lz : Int), .int .i64 n2, .slice ax n4 cx] 50 (0, 0))).ownsRow w.heap.size 50 4 (.slice ma rs.length mc) rs.length (flatR rs)) := stA.out.s.im.mrow.own
                    have hyA : Hid (w.heap.size ≤ (wB.alloc (.cells #[.int .i64 nw, .int .i64 (lz : Int), .int .i64 n2, .slice ax n4 cx] 50 (0, 0))).heap.size) := stA.out.s.z.y.size
                    have hrl : rs.length ≤ 1000 := by
                      have h9 := congrArg List.length stA.out.s.rs
                      rw [List.length_map, mods_len] at h9
                      omega
                    clear st3 bC
                    go_wp2_with (at_builtin; refine wpList_appendRg rfl _ _ rfl w.heap.size _ rs.length rs rfl hown.out wB.heap.size (.slice ax n4 cx) ⟨(nw : Int), (lz : Int), (n2 : Int), o.code⟩ rfl hRb.out rfl hrl hyA.out ?_)
                    intro mv' wD ho9 hg9
                    have m9 := stA.out.s.im.mblk hg9 stA.out.s.m (by decide)
                    have k9 := m9.cell (i := 0) rfl
                    have f9 := m9.free 0
                    obtain ⟨ma3, mk3, rfl, _⟩ := owns_shape ho9
                    have st4 := stA.out.done ho9 hg9
                    rw [← mods_next HO.out HNW.out HLW2.out HN2.out] at st4
                    have HFI : Hid (∃ hi h2 mv wv rs', S3 l w g hi h2 (wD.setCell ⟨g, 0, none⟩ (.slice ma3 (rs.length + 1) mk3)) mv wv rs' (modsTo l (j + 1)) (wordsTo l (j + 1))) := ⟨_, _, _, _, _, st4⟩
                    clear st4 m9 ho9 hg9 stA hown hRb hyA mc0 rc0 rc1 rc2 rc3
                    go_wp2_with fail
                    go_roundw
                    case rel => exact ⟨j + 1, by omega, by go_num, HG1, HFI⟩
                    case measure => simp [intOf]; omega
            · have : n = j := by omega
              subst this
              obtain ⟨q, hq⟩ : ∃ q, n = q + 1 := ⟨n - 1, by omega⟩
              obtain ⟨o, v0, v1, v2, v3, v4, ho, hv, c0, c1, c2, c3, c4⟩ := HC.out q (by omega)
              have HLO : Hid (ojAt l (l.length - 1) = o) := oj_last HN.out hq ho
              have y := st.z.y
              have hsub : (n : Int) - 1 = (q : Int) := by omega
              have hq0 : (0 : Int) ≤ (q : Int) := by omega
              have hqn : (q : Int) < (n : Int) := by omega
              have hwq : IntKind.i64.wrap (q : Int) = (q : Int) := wrap_nat (by omega)
              clear hq
              have HV : Hid (RdVals w o.fl [v0, v1, v2, v3, v4]) := hv
              obtain ⟨a0, e0, a1, e1, a2, e2, a4, e4, rfl, rfl, rfl, rfl, rfl, _, hL1, _⟩ := objShape hv
              have HL1 : Hid (LRow w a1 e1 3 (o.ex.map Xp.fl)) := hL1
              have HP7 : Hid (∀ y ∈ o.ex, 0 ≤ y.pos ∧ y.pos ≤ 4000) := (objOk_parts (HFo.out.2 o (List.mem_of_getElem? ho))).2.2.2.2.2.2
              have hn1 : o.ex.length ≤ 8 := (objOk_parts (HFo.out.2 o (List.mem_of_getElem? ho))).1
              have HK9 : Hid (∀ {wl : World}, Below wr.heap.size wr wl → ((wl.cell? ⟨b, off + q * 5, none⟩ = some (.slice a0 o.name.length e0) ∧ wl.cell? ⟨b, off + q * 5 + 1, none⟩ = some (.slice a1 o.ex.length e1) ∧ wl.cell? ⟨b, off + q * 5 + 2, none⟩ = some (.slice a2 o.im.length e2) ∧ wl.cell? ⟨b, off + q * 5 + 3, none⟩ = some (.int .i64 o.data) ∧ wl.cell? ⟨b, off + q * 5 + 4, none⟩ = some (.slice a4 o.code.length e4)))) :=
                fun hb => ⟨cell_on (cell_on c0 y) hb, cell_on (cell_on c1 y) hb, cell_on (cell_on c2 y) hb, cell_on (cell_on c3 y) hb, cell_on (cell_on c4 y) hb⟩
              have HX1 : Hid (∀ (W : World) (gA : Nat), Below wr.heap.size wr W → MC W gA → Calls Try.prog 16 #[.agg #[.slice a0 o.name.length e0, .slice a1 o.ex.length e1, .slice a2 o.im.length e2, .int .i64 o.data, .slice a4 o.code.length e4], .slice (some ⟨gA, 0, none⟩) 4 4, .int .i64 fmain] W fun e w' => e = .returned (.int .i64 (intO (findX o mainN fmain))) ∧ Below W.heap.size W w') := by
                intro W gA hb hm
                refine (l10exportC o _ _ _ _ _ W (RdVals.below HV.out (y.trans (hb.mono y.size))) (some ⟨gA, 0, none⟩) 4 4 mainN hm.row fmain).mono ?_
                rintro e w' ⟨rfl, hg⟩
                exact ⟨rfl, below_grown hg⟩
              generalize o.name.length = n0 at *
              obtain ⟨n1, hn1'⟩ : ∃ z, z = o.ex.length := ⟨_, rfl⟩
              rw [← hn1'] at HK9 HX1 hn1
              have HN1 : Hid (o.ex.length = n1) := hn1'.symm
              generalize o.im.length = n2 at *
              generalize o.code.length = n4 at *
              generalize o.data = dt at *
              clear hv hL1 c0 c1 c2 c3 c4 hn1' ho
              have hnn : ¬ ((n : Int) < (n : Int)) := by omega
              go_upto_region 34 with fail
              go_cut [16] from 143 to 154 (fun s16 wz => s16 = .int .i64 (intO (findX o mainN fmain)) ∧ Hid (Below wr.heap.size wr wz))
              case first =>
                have HSB : Hid (∀ {wl : World}, Below wr.heap.size wr wl → ((wl.cell? ⟨b, off + q * 5, none⟩ = some (.slice a0 n0 e0) ∧ wl.cell? ⟨b, off + q * 5 + 1, none⟩ = some (.slice a1 n1 e1) ∧ wl.cell? ⟨b, off + q * 5 + 2, none⟩ = some (.slice a2 n2 e2) ∧ wl.cell? ⟨b, off + q * 5 + 3, none⟩ = some (.int .i64 dt) ∧ wl.cell? ⟨b, off + q * 5 + 4, none⟩ = some (.slice a4 n4 e4)))) := HK9
                have hB0 : Below wr.heap.size wr wr.drew := (Below.refl _ _).drew
                refine wp_region_held_drew (S := fun wl => (wl.cell? ⟨b, off + q * 5, none⟩ = some (.slice a0 n0 e0) ∧ wl.cell? ⟨b, off + q * 5 + 1, none⟩ = some (.slice a1 n1 e1) ∧ wl.cell? ⟨b, off + q * 5 + 2, none⟩ = some (.slice a2 n2 e2) ∧ wl.cell? ⟨b, off + q * 5 + 3, none⟩ = some (.int .i64 dt) ∧ wl.cell? ⟨b, off + q * 5 + 4, none⟩ = some (.slice a4 n4 e4))) (by kernel_rfl) (HSB.out hB0) (fun hHeld => ?_)
                generalize wr.drew = wS at hB0 hHeld ⊢
                refine tk (i := 0) (v := ?v509) rfl (by kernel_rfl) (.inl ⟨by rfl, ?y509⟩) hHeld (fun _ _ _ h => h) ?_
                case y509 => intro w hSw; (try dsimp only at hSw); go_simp; first | done | rfl
                refine tk (i := 1) (v := ?v510) rfl (by kernel_rfl) (.inl ⟨by rfl, ?y510⟩) hHeld (fun _ _ _ h => h) ?_
                case y510 => intro w hSw; (try dsimp only at hSw); go_simp; first | done | rfl
                refine tk (i := 2) (v := ?v511) rfl (by kernel_rfl) (.inl ⟨by rfl, ?y511⟩) hHeld (fun _ _ _ h => h) ?_
                case y511 => intro w hSw; (try dsimp only at hSw); go_simp; first | done | rfl
                try simp only [nrm]
                refine tk (i := 3) (v := ?v512) rfl (by kernel_rfl) (.inl ⟨by rfl, ?y512⟩) hHeld (fun _ _ _ h => h) ?_
                case y512 => intro w hSw; (try dsimp only at hSw); go_simp; first | done | rfl
                refine tk (i := 4) (v := ?v513) rfl (by kernel_rfl) (.inl ⟨by rfl, ?y513⟩) hHeld (fun _ _ _ h => h) ?_
                case y513 => intro w hSw; (try dsimp only at hSw); go_simp; first | done | rfl
                try simp only [nrm]
                refine wpAnyH_ready (rs := [5, 7]) (by kernel_rfl) (by simp) ?_
                refine AllReadyH.cons (i := 5) (o := ?o112) ?i112 ?g112 (AllReadyH.cons (i := 7) (o := ?o113) ?i113 ?g113 AllReadyH.nil)
                case i112 => exact rfl
                case i113 => exact rfl
                case g112 =>
                  intro K hK
                  go_simp
                  have hb112 : Below wS.heap.size wS (wS.alloc (.cells #[.int .u8 109, .int .u8 97, .int .u8 105, .int .u8 110] 5)) := (Below.refl _ _).alloc (Nat.le_refl _) _
                  have mA := Blk.new wS 5 [.int .u8 109, .int .u8 97, .int .u8 105, .int .u8 110]
                  simp only [List.toArray] at mA
                  have hgA : wr.heap.size ≤ wS.heap.size := hB0.size
                  have hB112 := hB0.trans (hb112.mono hB0.size)
                  have hS112 := HSB.out hB112
                  refine hK.out _ _ hS112 (fun hHeld => ?_)
                  clear hK K
                  try simp only [nrm]
                  clear hb112
                  generalize wS.alloc (.cells #[.int .u8 109, .int .u8 97, .int .u8 105, .int .u8 110] 5) = V112 at *
                  generalize wS.heap.size = gA at *
                  refine wpAnyH_ready (rs := [6, 7]) (by kernel_rfl) (by simp) ?_
                  refine AllReadyH.cons (i := 6) (o := ?o114) ?i114 ?g114 (AllReadyH.cons (i := 7) (o := ?o115) ?i115 ?g115 AllReadyH.nil)
                  case i114 => exact rfl
                  case i115 => exact rfl
                  case g114 =>
                    intro K hK
                    have kc := conv_mark (n := 4) (c := 4) mA
                    go_simp
                    have hB114 : Below wr.heap.size wr (V112.freeze ⟨gA, 4, none⟩ 1) := frz_below hB112 hgA
                    have kA : MC (V112.freeze ⟨gA, 4, none⟩ 1) gA := MC.frz mA
                    have hS114 := HSB.out hB114
                    refine hK.out _ _ hS114 (fun hHeld => ?_)
                    clear hK K kc mA
                    try simp only [nrm]
                    generalize V112.freeze ⟨gA, 4, none⟩ 1 = V114 at *
                    refine wpAnyH_ready (rs := [7]) (by kernel_rfl) (by simp) ?_
                    refine AllReadyH.cons (i := 7) (o := ?o116) ?i116 ?g116 AllReadyH.nil
                    case i116 => exact rfl
                    case g116 =>
                      intro K hK
                      go_simp
                      have hb116 : Below V114.heap.size V114 (V114.alloc (.cells #[.int .u8 109, .int .u8 97, .int .u8 105, .int .u8 110] 5)) := (Below.refl _ _).alloc (Nat.le_refl _) _
                      have mB := Blk.new V114 5 [.int .u8 109, .int .u8 97, .int .u8 105, .int .u8 110]
                      simp only [List.toArray] at mB
                      have hgB : wr.heap.size ≤ V114.heap.size := hB114.size
                      have hne : gA ≠ V114.heap.size := Nat.ne_of_lt (World.block_lt_of_cell? V114 _ (kA 0 _ rfl))
                      replace kA := kA.below hb116
                      have hB116 := hB114.trans (hb116.mono hB114.size)
                      have hS116 := HSB.out hB116
                      refine hK.out _ _ hS116 (fun hHeld => ?_)
                      clear hK K
                      try simp only [nrm]
                      clear hb116
                      generalize V114.alloc (.cells #[.int .u8 109, .int .u8 97, .int .u8 105, .int .u8 110] 5) = V116 at *
                      generalize V114.heap.size = gB at *
                      refine wpAnyH_ready (rs := [8]) (by kernel_rfl) (by simp) ?_
                      refine AllReadyH.cons (i := 8) (o := ?o117) ?i117 ?g117 AllReadyH.nil
                      case i117 => exact rfl
                      case g117 =>
                        intro K hK
                        have kc := conv_mark (n := 4) (c := 4) mB
                        go_simp
                        have hB117 : Below wr.heap.size wr (V116.freeze ⟨gB, 4, none⟩ 1) := frz_below hB116 hgB
                        have kB : MC (V116.freeze ⟨gB, 4, none⟩ 1) gB := MC.frz mB
                        replace kA := kA.frzO (k := 4) (show gA ≠ gB by omega)
                        have hS117 := HSB.out hB117
                        refine hK.out _ _ hS117 (fun hHeld => ?_)
                        clear hK K kc mB
                        try simp only [nrm]
                        generalize V116.freeze ⟨gB, 4, none⟩ 1 = V117 at *
                        refine wpAnyH_ready (rs := [9]) (by kernel_rfl) (by simp) ?_
                        refine AllReadyH.cons (i := 9) (o := ?o118) ?i118 ?g118 AllReadyH.nil
                        case i118 => exact rfl
                        case g118 =>
                          intro K hK
                          go_simp
                          (with_reducible refine (specMain kB).mono ?_)
                          rintro e V118 ⟨rfl, hb118⟩
                          replace kA := kA.below hb118
                          replace kB := kB.below hb118
                          have hB118 := hB117.trans (hb118.mono hB117.size)
                          have hS118 := HSB.out hB118
                          go_wp2_with fail
                          refine hK.out _ _ hS118 (fun hHeld => ?_)
                          clear hK K hb118
                          try simp only [nrm]
                          refine wpAnyH_ready (rs := [10]) (by kernel_rfl) (by simp) ?_
                          refine AllReadyH.cons (i := 10) (o := ?o119) ?i119 ?g119 AllReadyH.nil
                          case i119 => exact rfl
                          case g119 =>
                            intro K hK
                            go_simp
                            (with_reducible refine (HX1.out V118 gA hB118 kA).mono ?_)
                            rintro e V119 ⟨rfl, hb119⟩
                            have hB119 := hB118.trans (hb119.mono hB118.size)
                            have hS119 := HSB.out hB119
                            go_wp2_with fail
                            refine hK.out _ _ hS119 (fun hHeld => ?_)
                            clear hK K hb119
                            try simp only [nrm]
                            refine tk (i := 11) (v := ?v120) rfl (by kernel_rfl) (.inl ⟨by rfl, ?y120⟩) hHeld (fun _ _ _ h => h) ?_
                            case y120 => intro w hSw; (try dsimp only at hSw); go_simp; first | done | rfl
                            try simp only [nrm]
                            refine wpAnyH_done (by kernel_rfl) ?_ _
                            go_wp2_with fail
                            go_meet
                            case rel => exact ⟨rfl, hB119⟩
                  case g115 =>
                    intro K hK
                    go_simp
                    have hb115 : Below V112.heap.size V112 (V112.alloc (.cells #[.int .u8 109, .int .u8 97, .int .u8 105, .int .u8 110] 5)) := (Below.refl _ _).alloc (Nat.le_refl _) _
                    have mB := Blk.new V112 5 [.int .u8 109, .int .u8 97, .int .u8 105, .int .u8 110]
                    simp only [List.toArray] at mB
                    have hgB : wr.heap.size ≤ V112.heap.size := hB112.size
                    have hne : gA ≠ V112.heap.size := Nat.ne_of_lt mA.lt
                    replace mA := mA.below hb115 mA.lt
                    have hB115 := hB112.trans (hb115.mono hB112.size)
                    have hS115 := HSB.out hB115
                    refine hK.out _ _ hS115 (fun hHeld => ?_)
                    clear hK K
                    try simp only [nrm]
                    clear hb115
                    generalize V112.alloc (.cells #[.int .u8 109, .int .u8 97, .int .u8 105, .int .u8 110] 5) = V115 at *
                    generalize V112.heap.size = gB at *
                    refine wpAnyH_ready (rs := [6, 8]) (by kernel_rfl) (by simp) ?_
                    refine AllReadyH.cons (i := 6) (o := ?o121) ?i121 ?g121 (AllReadyH.cons (i := 8) (o := ?o122) ?i122 ?g122 AllReadyH.nil)
                    case i121 => exact rfl
                    case i122 => exact rfl
                    case g121 =>
                      intro K hK
                      have kc := conv_mark (n := 4) (c := 4) mA
                      go_simp
                      have hB121 : Below wr.heap.size wr (V115.freeze ⟨gA, 4, none⟩ 1) := frz_below hB115 hgA
                      have kA : MC (V115.freeze ⟨gA, 4, none⟩ 1) gA := MC.frz mA
                      replace mB := mB.frzO (k := 4) (show gB ≠ gA by omega)
                      have hS121 := HSB.out hB121
                      refine hK.out _ _ hS121 (fun hHeld => ?_)
                      clear hK K kc mA
                      try simp only [nrm]
                      generalize V115.freeze ⟨gA, 4, none⟩ 1 = V121 at *
                      refine wpAnyH_ready (rs := [8]) (by kernel_rfl) (by simp) ?_
                      refine AllReadyH.cons (i := 8) (o := ?o123) ?i123 ?g123 AllReadyH.nil
                      case i123 => exact rfl
                      case g123 =>
                        intro K hK
                        have kc := conv_mark (n := 4) (c := 4) mB
                        go_simp
                        have hB123 : Below wr.heap.size wr (V121.freeze ⟨gB, 4, none⟩ 1) := frz_below hB121 hgB
                        have kB : MC (V121.freeze ⟨gB, 4, none⟩ 1) gB := MC.frz mB
                        replace kA := kA.frzO (k := 4) (show gA ≠ gB by omega)
                        have hS123 := HSB.out hB123
                        refine hK.out _ _ hS123 (fun hHeld => ?_)
                        clear hK K kc mB
                        try simp only [nrm]
                        generalize V121.freeze ⟨gB, 4, none⟩ 1 = V123 at *
                        refine wpAnyH_ready (rs := [9]) (by kernel_rfl) (by simp) ?_
                        refine AllReadyH.cons (i := 9) (o := ?o124) ?i124 ?g124 AllReadyH.nil
                        case i124 => exact rfl
                        case g124 =>
                          intro K hK
                          go_simp
                          (with_reducible refine (specMain kB).mono ?_)
                          rintro e V124 ⟨rfl, hb124⟩
                          replace kA := kA.below hb124
                          replace kB := kB.below hb124
                          have hB124 := hB123.trans (hb124.mono hB123.size)
                          have hS124 := HSB.out hB124
                          go_wp2_with fail
                          refine hK.out _ _ hS124 (fun hHeld => ?_)
                          clear hK K hb124
                          try simp only [nrm]
                          refine wpAnyH_ready (rs := [10]) (by kernel_rfl) (by simp) ?_
                          refine AllReadyH.cons (i := 10) (o := ?o125) ?i125 ?g125 AllReadyH.nil
                          case i125 => exact rfl
                          case g125 =>
                            intro K hK
                            go_simp
                            (with_reducible refine (HX1.out V124 gA hB124 kA).mono ?_)
                            rintro e V125 ⟨rfl, hb125⟩
                            have hB125 := hB124.trans (hb125.mono hB124.size)
                            have hS125 := HSB.out hB125
                            go_wp2_with fail
                            refine hK.out _ _ hS125 (fun hHeld => ?_)
                            clear hK K hb125
                            try simp only [nrm]
                            refine tk (i := 11) (v := ?v126) rfl (by kernel_rfl) (.inl ⟨by rfl, ?y126⟩) hHeld (fun _ _ _ h => h) ?_
                            case y126 => intro w hSw; (try dsimp only at hSw); go_simp; first | done | rfl
                            try simp only [nrm]
                            refine wpAnyH_done (by kernel_rfl) ?_ _
                            go_wp2_with fail
                            go_meet
                            case rel => exact ⟨rfl, hB125⟩
                    case g122 =>
                      intro K hK
                      have kc := conv_mark (n := 4) (c := 4) mB
                      go_simp
                      have hB122 : Below wr.heap.size wr (V115.freeze ⟨gB, 4, none⟩ 1) := frz_below hB115 hgB
                      have kB : MC (V115.freeze ⟨gB, 4, none⟩ 1) gB := MC.frz mB
                      replace mA := mA.frzO (k := 4) (show gA ≠ gB by omega)
                      have hS122 := HSB.out hB122
                      refine hK.out _ _ hS122 (fun hHeld => ?_)
                      clear hK K kc mB
                      try simp only [nrm]
                      generalize V115.freeze ⟨gB, 4, none⟩ 1 = V122 at *
                      refine wpAnyH_ready (rs := [6, 9]) (by kernel_rfl) (by simp) ?_
                      refine AllReadyH.cons (i := 6) (o := ?o127) ?i127 ?g127 (AllReadyH.cons (i := 9) (o := ?o128) ?i128 ?g128 AllReadyH.nil)
                      case i127 => exact rfl
                      case i128 => exact rfl
                      case g127 =>
                        intro K hK
                        have kc := conv_mark (n := 4) (c := 4) mA
                        go_simp
                        have hB127 : Below wr.heap.size wr (V122.freeze ⟨gA, 4, none⟩ 1) := frz_below hB122 hgA
                        have kA : MC (V122.freeze ⟨gA, 4, none⟩ 1) gA := MC.frz mA
                        replace kB := kB.frzO (k := 4) (show gB ≠ gA by omega)
                        have hS127 := HSB.out hB127
                        refine hK.out _ _ hS127 (fun hHeld => ?_)
                        clear hK K kc mA
                        try simp only [nrm]
                        generalize V122.freeze ⟨gA, 4, none⟩ 1 = V127 at *
                        refine wpAnyH_ready (rs := [9]) (by kernel_rfl) (by simp) ?_
                        refine AllReadyH.cons (i := 9) (o := ?o129) ?i129 ?g129 AllReadyH.nil
                        case i129 => exact rfl
                        case g129 =>
                          intro K hK
                          go_simp
                          (with_reducible refine (specMain kB).mono ?_)
                          rintro e V129 ⟨rfl, hb129⟩
                          replace kA := kA.below hb129
                          replace kB := kB.below hb129
                          have hB129 := hB127.trans (hb129.mono hB127.size)
                          have hS129 := HSB.out hB129
                          go_wp2_with fail
                          refine hK.out _ _ hS129 (fun hHeld => ?_)
                          clear hK K hb129
                          try simp only [nrm]
                          refine wpAnyH_ready (rs := [10]) (by kernel_rfl) (by simp) ?_
                          refine AllReadyH.cons (i := 10) (o := ?o130) ?i130 ?g130 AllReadyH.nil
                          case i130 => exact rfl
                          case g130 =>
                            intro K hK
                            go_simp
                            (with_reducible refine (HX1.out V129 gA hB129 kA).mono ?_)
                            rintro e V130 ⟨rfl, hb130⟩
                            have hB130 := hB129.trans (hb130.mono hB129.size)
                            have hS130 := HSB.out hB130
                            go_wp2_with fail
                            refine hK.out _ _ hS130 (fun hHeld => ?_)
                            clear hK K hb130
                            try simp only [nrm]
                            refine tk (i := 11) (v := ?v131) rfl (by kernel_rfl) (.inl ⟨by rfl, ?y131⟩) hHeld (fun _ _ _ h => h) ?_
                            case y131 => intro w hSw; (try dsimp only at hSw); go_simp; first | done | rfl
                            try simp only [nrm]
                            refine wpAnyH_done (by kernel_rfl) ?_ _
                            go_wp2_with fail
                            go_meet
                            case rel => exact ⟨rfl, hB130⟩
                      case g128 =>
                        intro K hK
                        go_simp
                        (with_reducible refine (specMain kB).mono ?_)
                        rintro e V128 ⟨rfl, hb128⟩
                        replace mA := mA.below hb128 mA.lt
                        replace kB := kB.below hb128
                        have hB128 := hB122.trans (hb128.mono hB122.size)
                        have hS128 := HSB.out hB128
                        go_wp2_with fail
                        refine hK.out _ _ hS128 (fun hHeld => ?_)
                        clear hK K hb128
                        try simp only [nrm]
                        refine wpAnyH_ready (rs := [6]) (by kernel_rfl) (by simp) ?_
                        refine AllReadyH.cons (i := 6) (o := ?o132) ?i132 ?g132 AllReadyH.nil
                        case i132 => exact rfl
                        case g132 =>
                          intro K hK
                          have kc := conv_mark (n := 4) (c := 4) mA
                          go_simp
                          have hB132 : Below wr.heap.size wr (V128.freeze ⟨gA, 4, none⟩ 1) := frz_below hB128 hgA
                          have kA : MC (V128.freeze ⟨gA, 4, none⟩ 1) gA := MC.frz mA
                          replace kB := kB.frzO (k := 4) (show gB ≠ gA by omega)
                          have hS132 := HSB.out hB132
                          refine hK.out _ _ hS132 (fun hHeld => ?_)
                          clear hK K kc mA
                          try simp only [nrm]
                          generalize V128.freeze ⟨gA, 4, none⟩ 1 = V132 at *
                          refine wpAnyH_ready (rs := [10]) (by kernel_rfl) (by simp) ?_
                          refine AllReadyH.cons (i := 10) (o := ?o133) ?i133 ?g133 AllReadyH.nil
                          case i133 => exact rfl
                          case g133 =>
                            intro K hK
                            go_simp
                            (with_reducible refine (HX1.out V132 gA hB132 kA).mono ?_)
                            rintro e V133 ⟨rfl, hb133⟩
                            have hB133 := hB132.trans (hb133.mono hB132.size)
                            have hS133 := HSB.out hB133
                            go_wp2_with fail
                            refine hK.out _ _ hS133 (fun hHeld => ?_)
                            clear hK K hb133
                            try simp only [nrm]
                            refine tk (i := 11) (v := ?v134) rfl (by kernel_rfl) (.inl ⟨by rfl, ?y134⟩) hHeld (fun _ _ _ h => h) ?_
                            case y134 => intro w hSw; (try dsimp only at hSw); go_simp; first | done | rfl
                            try simp only [nrm]
                            refine wpAnyH_done (by kernel_rfl) ?_ _
                            go_wp2_with fail
                            go_meet
                            case rel => exact ⟨rfl, hB133⟩
                case g113 =>
                  intro K hK
                  go_simp
                  have hb113 : Below wS.heap.size wS (wS.alloc (.cells #[.int .u8 109, .int .u8 97, .int .u8 105, .int .u8 110] 5)) := (Below.refl _ _).alloc (Nat.le_refl _) _
                  have mB := Blk.new wS 5 [.int .u8 109, .int .u8 97, .int .u8 105, .int .u8 110]
                  simp only [List.toArray] at mB
                  have hgB : wr.heap.size ≤ wS.heap.size := hB0.size
                  have hB113 := hB0.trans (hb113.mono hB0.size)
                  have hS113 := HSB.out hB113
                  refine hK.out _ _ hS113 (fun hHeld => ?_)
                  clear hK K
                  try simp only [nrm]
                  clear hb113
                  generalize wS.alloc (.cells #[.int .u8 109, .int .u8 97, .int .u8 105, .int .u8 110] 5) = V113 at *
                  generalize wS.heap.size = gB at *
                  refine wpAnyH_ready (rs := [5, 8]) (by kernel_rfl) (by simp) ?_
                  refine AllReadyH.cons (i := 5) (o := ?o135) ?i135 ?g135 (AllReadyH.cons (i := 8) (o := ?o136) ?i136 ?g136 AllReadyH.nil)
                  case i135 => exact rfl
                  case i136 => exact rfl
                  case g135 =>
                    intro K hK
                    go_simp
                    have hb135 : Below V113.heap.size V113 (V113.alloc (.cells #[.int .u8 109, .int .u8 97, .int .u8 105, .int .u8 110] 5)) := (Below.refl _ _).alloc (Nat.le_refl _) _
                    have mA := Blk.new V113 5 [.int .u8 109, .int .u8 97, .int .u8 105, .int .u8 110]
                    simp only [List.toArray] at mA
                    have hgA : wr.heap.size ≤ V113.heap.size := hB113.size
                    have hne : gB ≠ V113.heap.size := Nat.ne_of_lt mB.lt
                    replace mB := mB.below hb135 mB.lt
                    have hB135 := hB113.trans (hb135.mono hB113.size)
                    have hS135 := HSB.out hB135
                    refine hK.out _ _ hS135 (fun hHeld => ?_)
                    clear hK K
                    try simp only [nrm]
                    clear hb135
                    generalize V113.alloc (.cells #[.int .u8 109, .int .u8 97, .int .u8 105, .int .u8 110] 5) = V135 at *
                    generalize V113.heap.size = gA at *
                    refine wpAnyH_ready (rs := [6, 8]) (by kernel_rfl) (by simp) ?_
                    refine AllReadyH.cons (i := 6) (o := ?o137) ?i137 ?g137 (AllReadyH.cons (i := 8) (o := ?o138) ?i138 ?g138 AllReadyH.nil)
                    case i137 => exact rfl
                    case i138 => exact rfl
                    case g137 =>
                      intro K hK
                      have kc := conv_mark (n := 4) (c := 4) mA
                      go_simp
                      have hB137 : Below wr.heap.size wr (V135.freeze ⟨gA, 4, none⟩ 1) := frz_below hB135 hgA
                      have kA : MC (V135.freeze ⟨gA, 4, none⟩ 1) gA := MC.frz mA
                      replace mB := mB.frzO (k := 4) (show gB ≠ gA by omega)
                      have hS137 := HSB.out hB137
                      refine hK.out _ _ hS137 (fun hHeld => ?_)
                      clear hK K kc mA
                      try simp only [nrm]
                      generalize V135.freeze ⟨gA, 4, none⟩ 1 = V137 at *
                      refine wpAnyH_ready (rs := [8]) (by kernel_rfl) (by simp) ?_
                      refine AllReadyH.cons (i := 8) (o := ?o139) ?i139 ?g139 AllReadyH.nil
                      case i139 => exact rfl
                      case g139 =>
                        intro K hK
                        have kc := conv_mark (n := 4) (c := 4) mB
                        go_simp
                        have hB139 : Below wr.heap.size wr (V137.freeze ⟨gB, 4, none⟩ 1) := frz_below hB137 hgB
                        have kB : MC (V137.freeze ⟨gB, 4, none⟩ 1) gB := MC.frz mB
                        replace kA := kA.frzO (k := 4) (show gA ≠ gB by omega)
                        have hS139 := HSB.out hB139
                        refine hK.out _ _ hS139 (fun hHeld => ?_)
                        clear hK K kc mB
                        try simp only [nrm]
                        generalize V137.freeze ⟨gB, 4, none⟩ 1 = V139 at *
                        refine wpAnyH_ready (rs := [9]) (by kernel_rfl) (by simp) ?_
                        refine AllReadyH.cons (i := 9) (o := ?o140) ?i140 ?g140 AllReadyH.nil
                        case i140 => exact rfl
                        case g140 =>
                          intro K hK
                          go_simp
                          (with_reducible refine (specMain kB).mono ?_)
                          rintro e V140 ⟨rfl, hb140⟩
                          replace kA := kA.below hb140
                          replace kB := kB.below hb140
                          have hB140 := hB139.trans (hb140.mono hB139.size)
                          have hS140 := HSB.out hB140
                          go_wp2_with fail
                          refine hK.out _ _ hS140 (fun hHeld => ?_)
                          clear hK K hb140
                          try simp only [nrm]
                          refine wpAnyH_ready (rs := [10]) (by kernel_rfl) (by simp) ?_
                          refine AllReadyH.cons (i := 10) (o := ?o141) ?i141 ?g141 AllReadyH.nil
                          case i141 => exact rfl
                          case g141 =>
                            intro K hK
                            go_simp
                            (with_reducible refine (HX1.out V140 gA hB140 kA).mono ?_)
                            rintro e V141 ⟨rfl, hb141⟩
                            have hB141 := hB140.trans (hb141.mono hB140.size)
                            have hS141 := HSB.out hB141
                            go_wp2_with fail
                            refine hK.out _ _ hS141 (fun hHeld => ?_)
                            clear hK K hb141
                            try simp only [nrm]
                            refine tk (i := 11) (v := ?v142) rfl (by kernel_rfl) (.inl ⟨by rfl, ?y142⟩) hHeld (fun _ _ _ h => h) ?_
                            case y142 => intro w hSw; (try dsimp only at hSw); go_simp; first | done | rfl
                            try simp only [nrm]
                            refine wpAnyH_done (by kernel_rfl) ?_ _
                            go_wp2_with fail
                            go_meet
                            case rel => exact ⟨rfl, hB141⟩
                    case g138 =>
                      intro K hK
                      have kc := conv_mark (n := 4) (c := 4) mB
                      go_simp
                      have hB138 : Below wr.heap.size wr (V135.freeze ⟨gB, 4, none⟩ 1) := frz_below hB135 hgB
                      have kB : MC (V135.freeze ⟨gB, 4, none⟩ 1) gB := MC.frz mB
                      replace mA := mA.frzO (k := 4) (show gA ≠ gB by omega)
                      have hS138 := HSB.out hB138
                      refine hK.out _ _ hS138 (fun hHeld => ?_)
                      clear hK K kc mB
                      try simp only [nrm]
                      generalize V135.freeze ⟨gB, 4, none⟩ 1 = V138 at *
                      refine wpAnyH_ready (rs := [6, 9]) (by kernel_rfl) (by simp) ?_
                      refine AllReadyH.cons (i := 6) (o := ?o143) ?i143 ?g143 (AllReadyH.cons (i := 9) (o := ?o144) ?i144 ?g144 AllReadyH.nil)
                      case i143 => exact rfl
                      case i144 => exact rfl
                      case g143 =>
                        intro K hK
                        have kc := conv_mark (n := 4) (c := 4) mA
                        go_simp
                        have hB143 : Below wr.heap.size wr (V138.freeze ⟨gA, 4, none⟩ 1) := frz_below hB138 hgA
                        have kA : MC (V138.freeze ⟨gA, 4, none⟩ 1) gA := MC.frz mA
                        replace kB := kB.frzO (k := 4) (show gB ≠ gA by omega)
                        have hS143 := HSB.out hB143
                        refine hK.out _ _ hS143 (fun hHeld => ?_)
                        clear hK K kc mA
                        try simp only [nrm]
                        generalize V138.freeze ⟨gA, 4, none⟩ 1 = V143 at *
                        refine wpAnyH_ready (rs := [9]) (by kernel_rfl) (by simp) ?_
                        refine AllReadyH.cons (i := 9) (o := ?o145) ?i145 ?g145 AllReadyH.nil
                        case i145 => exact rfl
                        case g145 =>
                          intro K hK
                          go_simp
                          (with_reducible refine (specMain kB).mono ?_)
                          rintro e V145 ⟨rfl, hb145⟩
                          replace kA := kA.below hb145
                          replace kB := kB.below hb145
                          have hB145 := hB143.trans (hb145.mono hB143.size)
                          have hS145 := HSB.out hB145
                          go_wp2_with fail
                          refine hK.out _ _ hS145 (fun hHeld => ?_)
                          clear hK K hb145
                          try simp only [nrm]
                          refine wpAnyH_ready (rs := [10]) (by kernel_rfl) (by simp) ?_
                          refine AllReadyH.cons (i := 10) (o := ?o146) ?i146 ?g146 AllReadyH.nil
                          case i146 => exact rfl
                          case g146 =>
                            intro K hK
                            go_simp
                            (with_reducible refine (HX1.out V145 gA hB145 kA).mono ?_)
                            rintro e V146 ⟨rfl, hb146⟩
                            have hB146 := hB145.trans (hb146.mono hB145.size)
                            have hS146 := HSB.out hB146
                            go_wp2_with fail
                            refine hK.out _ _ hS146 (fun hHeld => ?_)
                            clear hK K hb146
                            try simp only [nrm]
                            refine tk (i := 11) (v := ?v147) rfl (by kernel_rfl) (.inl ⟨by rfl, ?y147⟩) hHeld (fun _ _ _ h => h) ?_
                            case y147 => intro w hSw; (try dsimp only at hSw); go_simp; first | done | rfl
                            try simp only [nrm]
                            refine wpAnyH_done (by kernel_rfl) ?_ _
                            go_wp2_with fail
                            go_meet
                            case rel => exact ⟨rfl, hB146⟩
                      case g144 =>
                        intro K hK
                        go_simp
                        (with_reducible refine (specMain kB).mono ?_)
                        rintro e V144 ⟨rfl, hb144⟩
                        replace mA := mA.below hb144 mA.lt
                        replace kB := kB.below hb144
                        have hB144 := hB138.trans (hb144.mono hB138.size)
                        have hS144 := HSB.out hB144
                        go_wp2_with fail
                        refine hK.out _ _ hS144 (fun hHeld => ?_)
                        clear hK K hb144
                        try simp only [nrm]
                        refine wpAnyH_ready (rs := [6]) (by kernel_rfl) (by simp) ?_
                        refine AllReadyH.cons (i := 6) (o := ?o148) ?i148 ?g148 AllReadyH.nil
                        case i148 => exact rfl
                        case g148 =>
                          intro K hK
                          have kc := conv_mark (n := 4) (c := 4) mA
                          go_simp
                          have hB148 : Below wr.heap.size wr (V144.freeze ⟨gA, 4, none⟩ 1) := frz_below hB144 hgA
                          have kA : MC (V144.freeze ⟨gA, 4, none⟩ 1) gA := MC.frz mA
                          replace kB := kB.frzO (k := 4) (show gB ≠ gA by omega)
                          have hS148 := HSB.out hB148
                          refine hK.out _ _ hS148 (fun hHeld => ?_)
                          clear hK K kc mA
                          try simp only [nrm]
                          generalize V144.freeze ⟨gA, 4, none⟩ 1 = V148 at *
                          refine wpAnyH_ready (rs := [10]) (by kernel_rfl) (by simp) ?_
                          refine AllReadyH.cons (i := 10) (o := ?o149) ?i149 ?g149 AllReadyH.nil
                          case i149 => exact rfl
                          case g149 =>
                            intro K hK
                            go_simp
                            (with_reducible refine (HX1.out V148 gA hB148 kA).mono ?_)
                            rintro e V149 ⟨rfl, hb149⟩
                            have hB149 := hB148.trans (hb149.mono hB148.size)
                            have hS149 := HSB.out hB149
                            go_wp2_with fail
                            refine hK.out _ _ hS149 (fun hHeld => ?_)
                            clear hK K hb149
                            try simp only [nrm]
                            refine tk (i := 11) (v := ?v150) rfl (by kernel_rfl) (.inl ⟨by rfl, ?y150⟩) hHeld (fun _ _ _ h => h) ?_
                            case y150 => intro w hSw; (try dsimp only at hSw); go_simp; first | done | rfl
                            try simp only [nrm]
                            refine wpAnyH_done (by kernel_rfl) ?_ _
                            go_wp2_with fail
                            go_meet
                            case rel => exact ⟨rfl, hB149⟩
                  case g136 =>
                    intro K hK
                    have kc := conv_mark (n := 4) (c := 4) mB
                    go_simp
                    have hB136 : Below wr.heap.size wr (V113.freeze ⟨gB, 4, none⟩ 1) := frz_below hB113 hgB
                    have kB : MC (V113.freeze ⟨gB, 4, none⟩ 1) gB := MC.frz mB
                    have hS136 := HSB.out hB136
                    refine hK.out _ _ hS136 (fun hHeld => ?_)
                    clear hK K kc mB
                    try simp only [nrm]
                    generalize V113.freeze ⟨gB, 4, none⟩ 1 = V136 at *
                    refine wpAnyH_ready (rs := [5, 9]) (by kernel_rfl) (by simp) ?_
                    refine AllReadyH.cons (i := 5) (o := ?o151) ?i151 ?g151 (AllReadyH.cons (i := 9) (o := ?o152) ?i152 ?g152 AllReadyH.nil)
                    case i151 => exact rfl
                    case i152 => exact rfl
                    case g151 =>
                      intro K hK
                      go_simp
                      have hb151 : Below V136.heap.size V136 (V136.alloc (.cells #[.int .u8 109, .int .u8 97, .int .u8 105, .int .u8 110] 5)) := (Below.refl _ _).alloc (Nat.le_refl _) _
                      have mA := Blk.new V136 5 [.int .u8 109, .int .u8 97, .int .u8 105, .int .u8 110]
                      simp only [List.toArray] at mA
                      have hgA : wr.heap.size ≤ V136.heap.size := hB136.size
                      have hne : gB ≠ V136.heap.size := Nat.ne_of_lt (World.block_lt_of_cell? V136 _ (kB 0 _ rfl))
                      replace kB := kB.below hb151
                      have hB151 := hB136.trans (hb151.mono hB136.size)
                      have hS151 := HSB.out hB151
                      refine hK.out _ _ hS151 (fun hHeld => ?_)
                      clear hK K
                      try simp only [nrm]
                      clear hb151
                      generalize V136.alloc (.cells #[.int .u8 109, .int .u8 97, .int .u8 105, .int .u8 110] 5) = V151 at *
                      generalize V136.heap.size = gA at *
                      refine wpAnyH_ready (rs := [6, 9]) (by kernel_rfl) (by simp) ?_
                      refine AllReadyH.cons (i := 6) (o := ?o153) ?i153 ?g153 (AllReadyH.cons (i := 9) (o := ?o154) ?i154 ?g154 AllReadyH.nil)
                      case i153 => exact rfl
                      case i154 => exact rfl
                      case g153 =>
                        intro K hK
                        have kc := conv_mark (n := 4) (c := 4) mA
                        go_simp
                        have hB153 : Below wr.heap.size wr (V151.freeze ⟨gA, 4, none⟩ 1) := frz_below hB151 hgA
                        have kA : MC (V151.freeze ⟨gA, 4, none⟩ 1) gA := MC.frz mA
                        replace kB := kB.frzO (k := 4) (show gB ≠ gA by omega)
                        have hS153 := HSB.out hB153
                        refine hK.out _ _ hS153 (fun hHeld => ?_)
                        clear hK K kc mA
                        try simp only [nrm]
                        generalize V151.freeze ⟨gA, 4, none⟩ 1 = V153 at *
                        refine wpAnyH_ready (rs := [9]) (by kernel_rfl) (by simp) ?_
                        refine AllReadyH.cons (i := 9) (o := ?o155) ?i155 ?g155 AllReadyH.nil
                        case i155 => exact rfl
                        case g155 =>
                          intro K hK
                          go_simp
                          (with_reducible refine (specMain kB).mono ?_)
                          rintro e V155 ⟨rfl, hb155⟩
                          replace kA := kA.below hb155
                          replace kB := kB.below hb155
                          have hB155 := hB153.trans (hb155.mono hB153.size)
                          have hS155 := HSB.out hB155
                          go_wp2_with fail
                          refine hK.out _ _ hS155 (fun hHeld => ?_)
                          clear hK K hb155
                          try simp only [nrm]
                          refine wpAnyH_ready (rs := [10]) (by kernel_rfl) (by simp) ?_
                          refine AllReadyH.cons (i := 10) (o := ?o156) ?i156 ?g156 AllReadyH.nil
                          case i156 => exact rfl
                          case g156 =>
                            intro K hK
                            go_simp
                            (with_reducible refine (HX1.out V155 gA hB155 kA).mono ?_)
                            rintro e V156 ⟨rfl, hb156⟩
                            have hB156 := hB155.trans (hb156.mono hB155.size)
                            have hS156 := HSB.out hB156
                            go_wp2_with fail
                            refine hK.out _ _ hS156 (fun hHeld => ?_)
                            clear hK K hb156
                            try simp only [nrm]
                            refine tk (i := 11) (v := ?v157) rfl (by kernel_rfl) (.inl ⟨by rfl, ?y157⟩) hHeld (fun _ _ _ h => h) ?_
                            case y157 => intro w hSw; (try dsimp only at hSw); go_simp; first | done | rfl
                            try simp only [nrm]
                            refine wpAnyH_done (by kernel_rfl) ?_ _
                            go_wp2_with fail
                            go_meet
                            case rel => exact ⟨rfl, hB156⟩
                      case g154 =>
                        intro K hK
                        go_simp
                        (with_reducible refine (specMain kB).mono ?_)
                        rintro e V154 ⟨rfl, hb154⟩
                        replace mA := mA.below hb154 mA.lt
                        replace kB := kB.below hb154
                        have hB154 := hB151.trans (hb154.mono hB151.size)
                        have hS154 := HSB.out hB154
                        go_wp2_with fail
                        refine hK.out _ _ hS154 (fun hHeld => ?_)
                        clear hK K hb154
                        try simp only [nrm]
                        refine wpAnyH_ready (rs := [6]) (by kernel_rfl) (by simp) ?_
                        refine AllReadyH.cons (i := 6) (o := ?o158) ?i158 ?g158 AllReadyH.nil
                        case i158 => exact rfl
                        case g158 =>
                          intro K hK
                          have kc := conv_mark (n := 4) (c := 4) mA
                          go_simp
                          have hB158 : Below wr.heap.size wr (V154.freeze ⟨gA, 4, none⟩ 1) := frz_below hB154 hgA
                          have kA : MC (V154.freeze ⟨gA, 4, none⟩ 1) gA := MC.frz mA
                          replace kB := kB.frzO (k := 4) (show gB ≠ gA by omega)
                          have hS158 := HSB.out hB158
                          refine hK.out _ _ hS158 (fun hHeld => ?_)
                          clear hK K kc mA
                          try simp only [nrm]
                          generalize V154.freeze ⟨gA, 4, none⟩ 1 = V158 at *
                          refine wpAnyH_ready (rs := [10]) (by kernel_rfl) (by simp) ?_
                          refine AllReadyH.cons (i := 10) (o := ?o159) ?i159 ?g159 AllReadyH.nil
                          case i159 => exact rfl
                          case g159 =>
                            intro K hK
                            go_simp
                            (with_reducible refine (HX1.out V158 gA hB158 kA).mono ?_)
                            rintro e V159 ⟨rfl, hb159⟩
                            have hB159 := hB158.trans (hb159.mono hB158.size)
                            have hS159 := HSB.out hB159
                            go_wp2_with fail
                            refine hK.out _ _ hS159 (fun hHeld => ?_)
                            clear hK K hb159
                            try simp only [nrm]
                            refine tk (i := 11) (v := ?v160) rfl (by kernel_rfl) (.inl ⟨by rfl, ?y160⟩) hHeld (fun _ _ _ h => h) ?_
                            case y160 => intro w hSw; (try dsimp only at hSw); go_simp; first | done | rfl
                            try simp only [nrm]
                            refine wpAnyH_done (by kernel_rfl) ?_ _
                            go_wp2_with fail
                            go_meet
                            case rel => exact ⟨rfl, hB159⟩
                    case g152 =>
                      intro K hK
                      go_simp
                      (with_reducible refine (specMain kB).mono ?_)
                      rintro e V152 ⟨rfl, hb152⟩
                      replace kB := kB.below hb152
                      have hB152 := hB136.trans (hb152.mono hB136.size)
                      have hS152 := HSB.out hB152
                      go_wp2_with fail
                      refine hK.out _ _ hS152 (fun hHeld => ?_)
                      clear hK K hb152
                      try simp only [nrm]
                      refine wpAnyH_ready (rs := [5]) (by kernel_rfl) (by simp) ?_
                      refine AllReadyH.cons (i := 5) (o := ?o161) ?i161 ?g161 AllReadyH.nil
                      case i161 => exact rfl
                      case g161 =>
                        intro K hK
                        go_simp
                        have hb161 : Below V152.heap.size V152 (V152.alloc (.cells #[.int .u8 109, .int .u8 97, .int .u8 105, .int .u8 110] 5)) := (Below.refl _ _).alloc (Nat.le_refl _) _
                        have mA := Blk.new V152 5 [.int .u8 109, .int .u8 97, .int .u8 105, .int .u8 110]
                        simp only [List.toArray] at mA
                        have hgA : wr.heap.size ≤ V152.heap.size := hB152.size
                        have hne : gB ≠ V152.heap.size := Nat.ne_of_lt (World.block_lt_of_cell? V152 _ (kB 0 _ rfl))
                        replace kB := kB.below hb161
                        have hB161 := hB152.trans (hb161.mono hB152.size)
                        have hS161 := HSB.out hB161
                        refine hK.out _ _ hS161 (fun hHeld => ?_)
                        clear hK K
                        try simp only [nrm]
                        clear hb161
                        generalize V152.alloc (.cells #[.int .u8 109, .int .u8 97, .int .u8 105, .int .u8 110] 5) = V161 at *
                        generalize V152.heap.size = gA at *
                        refine wpAnyH_ready (rs := [6]) (by kernel_rfl) (by simp) ?_
                        refine AllReadyH.cons (i := 6) (o := ?o162) ?i162 ?g162 AllReadyH.nil
                        case i162 => exact rfl
                        case g162 =>
                          intro K hK
                          have kc := conv_mark (n := 4) (c := 4) mA
                          go_simp
                          have hB162 : Below wr.heap.size wr (V161.freeze ⟨gA, 4, none⟩ 1) := frz_below hB161 hgA
                          have kA : MC (V161.freeze ⟨gA, 4, none⟩ 1) gA := MC.frz mA
                          replace kB := kB.frzO (k := 4) (show gB ≠ gA by omega)
                          have hS162 := HSB.out hB162
                          refine hK.out _ _ hS162 (fun hHeld => ?_)
                          clear hK K kc mA
                          try simp only [nrm]
                          generalize V161.freeze ⟨gA, 4, none⟩ 1 = V162 at *
                          refine wpAnyH_ready (rs := [10]) (by kernel_rfl) (by simp) ?_
                          refine AllReadyH.cons (i := 10) (o := ?o163) ?i163 ?g163 AllReadyH.nil
                          case i163 => exact rfl
                          case g163 =>
                            intro K hK
                            go_simp
                            (with_reducible refine (HX1.out V162 gA hB162 kA).mono ?_)
                            rintro e V163 ⟨rfl, hb163⟩
                            have hB163 := hB162.trans (hb163.mono hB162.size)
                            have hS163 := HSB.out hB163
                            go_wp2_with fail
                            refine hK.out _ _ hS163 (fun hHeld => ?_)
                            clear hK K hb163
                            try simp only [nrm]
                            refine tk (i := 11) (v := ?v164) rfl (by kernel_rfl) (.inl ⟨by rfl, ?y164⟩) hHeld (fun _ _ _ h => h) ?_
                            case y164 => intro w hSw; (try dsimp only at hSw); go_simp; first | done | rfl
                            try simp only [nrm]
                            refine wpAnyH_done (by kernel_rfl) ?_ _
                            go_wp2_with fail
                            go_meet
                            case rel => exact ⟨rfl, hB163⟩
              case rest =>
                obtain ⟨rfl, hbz⟩ := hcut
                have st9 := st.step hbz.out
                clear st HX1
                obtain ⟨fx, hfx⟩ : ∃ z, z = findX o mainN fmain := ⟨_, rfl⟩
                rw [← hfx]
                cases fx with
                | none =>
                  simp only [intO]
                  have HM : Hid (Lk fmain l zeroIg 4) := Lk.main HFo.out HUo.out (by rw [HN.out]; exact hgood.out) (by rw [HLO.out]; exact hfx.symm)
                  have s9 := st9.z
                  clear st9 hfx
                  have z0 := s9.z.cell (i := 0) rfl
                  have z1 := s9.z.cell (i := 1) rfl
                  have z2 := s9.z.cell (i := 2) rfl
                  have f0 := s9.z.free 0
                  have f1 := s9.z.free 1
                  have f2 := s9.z.free 2
                  have HF : Hid (LkFin l w (.returned (.tuple #[.agg #[.slice none 0 0, .slice none 0 0, .int .i64 0], .int .i64 4])) (((wc.setCell ⟨w.heap.size, 0, none⟩ (.slice none 0 0)).setCell ⟨w.heap.size, 1, none⟩ (.slice none 0 0)).setCell ⟨w.heap.size, 2, none⟩ (.int .i64 0))) := fin_no s9 (HM.out)
                  have D : Blk (((wc.setCell ⟨w.heap.size, 0, none⟩ (.slice none 0 0)).setCell ⟨w.heap.size, 1, none⟩ (.slice none 0 0)).setCell ⟨w.heap.size, 2, none⟩ (.int .i64 0)) w.heap.size 27 [.slice none 0 0, .slice none 0 0, .int .i64 0] := Blk.put3 s9.z
                  have d0 := D.cell (i := 0) rfl
                  have d1 := D.cell (i := 1) rfl
                  have d2 := D.cell (i := 2) rfl
                  clear D 
                  go_wp2_with fail
                  refine bodyPost_ret (v := .tuple #[.agg #[.slice none 0 0, .slice none 0 0, .int .i64 0], .int .i64 4]) (by simp only [results, Try.results5]; simp [go_sem, d0, d1, d2]) rfl HF.out
                | some x =>
                  obtain ⟨ex, hxe, _, _⟩ := find_some hfx.symm
                  obtain ⟨be, oe, am, cm, rfl, ⟨r0, r1, r2⟩, _⟩ := expCells HL1.out hxe
                  have y9 := st9.z.y
                  have p2 := cell_on r2 y9
                  have k1 := (HK9.out hbz.out).2.1
                  have hx1 : x < n1 := by have := (List.getElem?_eq_some_iff.1 hxe).1; rw [HN1.out] at this; exact this
                  have hxn : (x : Int) < (n1 : Int) := by omega
                  have hx0 : ¬ ((x : Int) < 0) := by omega
                  have hxp := HP7.out ex (List.mem_of_getElem? hxe)
                  have HWE : Hid (LkFin l w (.returned (.tuple #[.agg #[.slice ma rs.length mc, .slice wa (wordsTo l n).length wk, .int .i64 ex.pos], .int .i64 0])) ((((wc.setCell ⟨g, 2, none⟩ (.int .i64 ex.pos)).setCell ⟨w.heap.size, 0, none⟩ (.slice ma rs.length mc)).setCell ⟨w.heap.size, 1, none⟩ (.slice wa (wordsTo l n).length wk)).setCell ⟨w.heap.size, 2, none⟩ (.int .i64 ex.pos))) := fin_wellN HN.out st9 HFo.out HUo.out hgood.out (by rw [HLO.out]; exact hfx.symm) (show ex.pos = _ by rw [HLO.out, hxe]; rfl)
                  have mm2 := st9.m.cell (i := 2) rfl
                  have mf2 := st9.m.free 2
                  have D0 : Blk (wc.setCell ⟨g, 2, none⟩ (.int .i64 ex.pos)) g 27 [.slice ma rs.length mc, .slice wa (wordsTo l n).length wk, .int .i64 ex.pos] := st9.m.set (i := 2) _
                  have Z0 : Blk (wc.setCell ⟨g, 2, none⟩ (.int .i64 ex.pos)) w.heap.size 27 [.slice none 0 0, .slice none 0 0, .int .i64 0] := st9.z.z.other (by have := st9.lo; omega)
                  clear st9 hfx hxe r0 r1 r2
                  simp only [intO]
                  go_upto_region 38 with fail
                  generalize hWW : wc.setCell ⟨g, 2, none⟩ (.int .i64 ex.pos) = wY at *
                  clear hWW
                  generalize (wordsTo l n).length = lz at *
                  have d0 := D0.cell (i := 0) rfl
                  have d1 := D0.cell (i := 1) rfl
                  have d2 := D0.cell (i := 2) rfl
                  have z0 := Z0.cell (i := 0) rfl
                  have z1 := Z0.cell (i := 1) rfl
                  have z2 := Z0.cell (i := 2) rfl
                  have f0 := Z0.free 0
                  have f1 := Z0.free 1
                  have f2 := Z0.free 2
                  have D : Blk (((wY.setCell ⟨w.heap.size, 0, none⟩ (.slice ma rs.length mc)).setCell ⟨w.heap.size, 1, none⟩ (.slice wa lz wk)).setCell ⟨w.heap.size, 2, none⟩ (.int .i64 ex.pos)) w.heap.size 27 [.slice ma rs.length mc, .slice wa lz wk, .int .i64 ex.pos] := Blk.put3 Z0
                  have x0 := D.cell (i := 0) rfl
                  have x1 := D.cell (i := 1) rfl
                  have x2 := D.cell (i := 2) rfl
                  clear D D0 Z0
                  go_wp2_with fail
                  refine bodyPost_ret (v := .tuple #[.agg #[.slice ma rs.length mc, .slice wa lz wk, .int .i64 ex.pos], .int .i64 0]) (by simp only [results, Try.results5]; simp [go_sem, x0, x1, x2]) rfl HWE.out
end Go.Proofs.Ytefciaeajlgheaa

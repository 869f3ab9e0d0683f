/- The image, out of objects and entries. -/
import Derived.Test.YtefciaeajlgheaaLkEnt
import Derived.Test.YtefciaeajlgheaaLast
import Derived.Test.YtefciaeajlgheaaTk
namespace Go.Proofs.Ytefciaeajlgheaa
open Go.RowKit
set_option linter.unusedVariables false
set_option linter.unusedSimpArgs false
set_option maxRecDepth 100000

set_option maxHeartbeats 1000000 in
theorem cloneC (a : Option Addr) (n c : Nat) (l : List Int) (w : World) (h : BRow w a n l) (hz : a = none → c = 0) (hn : n ≤ 1048576) :
    Calls Try.prog 62 #[.slice a n c] w fun e w' => ∃ v, e = .returned v ∧ Pc w' 5 1 w.heap.size w'.heap.size v n (bV l) ∧ Below w.heap.size w w' := by
  cases a with
  | none =>
    obtain rfl := hz rfl
    have h0 : n = 0 := by
      rcases Nat.eq_zero_or_pos n with h0 | hp
      · exact h0
      · obtain ⟨b, off, e, _⟩ := h.2.2 hp; cases e
    subst h0
    obtain rfl : l = [] := List.eq_nil_of_length_eq_zero h.1
    have hq : ∀ w, (binOp .eql 38 (.slice none 0 0) (.slice none 0 0)).run Try.prog w = .ok (.bool true) w := fun w => by kernel_rfl
    have HF : Hid (Pc w 5 1 w.heap.size w.heap.size (.slice none 0 0) 0 (bV [])) := ⟨World.ownsRow_nil _ _ _ _, fun k hk => by cases hk⟩
    clear h hz
    go_enter Try.func62, Try.ntmps62
    go_wp2_with fail
    go_ret
    exact ⟨_, rfl, HF.out, Below.refl _ _⟩
  | some x =>
    have hq : ∀ w, (binOp .eql 38 (.slice (some x) n c) (.slice none 0 0)).run Try.prog w = .ok (.bool false) w := fun w => by kernel_rfl
    have hE := own_empty w
    have hB := below_empty w
    have hR := h.below hB
    clear h
    go_enter Try.func62, Try.ntmps62
    go_wp2_with (at_builtin; refine wpList_appendB rfl _ _ rfl w.heap.size _ 0 [] rfl hE _ n c l rfl hR hz (by omega) (by simp) ?_)
    intro v3 w3 ho3 hg3
    have HF : Hid (Pc w3 5 1 w.heap.size w3.heap.size v3 n (bV l) ∧ Below w.heap.size w w3) := by
      exact ⟨⟨ho3.1, fun k hk => (ho3.1.lt k hk).2⟩, hB.grown hg3 hB.size (fun k hk => (hE.1.lt k hk).1)⟩
    clear ho3 hg3 hE hB hR
    go_wp2_with fail
    go_ret
    exact ⟨_, rfl, HF.out⟩

theorem ents_split (l : List Oj) {j n : Nat} (h : j < n) : ∃ rest, entsAll l n = entsAll l j ++ (entsAt l j ++ rest) := by
  induction n with
  | zero => omega
  | succ n ih =>
    by_cases e : j = n
    · subst e
      exact ⟨[], by simp [entsAll]⟩
    · obtain ⟨rest, hr⟩ := ih (by omega)
      exact ⟨rest ++ entsAt l n, by rw [show entsAll l (n + 1) = entsAll l n ++ entsAt l n from rfl, hr]; simp⟩
theorem WAt.take {w : World} {a : Option Addr} {us vs : List Wo} (h : WAt w a (us ++ vs)) : WAt w a us := fun hp => by
  obtain ⟨b, off, e, hc⟩ := h (by rw [List.length_append]; omega)
  refine ⟨b, off, e, fun i v hv => hc i v ?_⟩
  rw [flatW_append, List.getElem?_append_left (List.getElem?_eq_some_iff.1 hv).1]
  exact hv
theorem WAt.drop {w : World} {b off : Nat} {us vs : List Wo} (h : WAt w (some ⟨b, off, none⟩) (us ++ vs)) : WAt w (some ⟨b, off + us.length * 7, none⟩) vs := fun hp => by
  obtain ⟨b', off', e, hc⟩ := h (by rw [List.length_append]; omega)
  simp only [Option.some.injEq, Addr.mk.injEq, and_true] at e
  obtain ⟨rfl, rfl⟩ := e
  refine ⟨b, _, rfl, fun i v hv => ?_⟩
  have := hc (us.length * 7 + i) v (by rw [flatW_append, List.getElem?_append_right (by rw [flatW_len]; omega), flatW_len, Nat.add_sub_cancel_left]; exact hv)
  rw [Nat.add_assoc]; exact this

set_option maxHeartbeats 8000000 in
theorem imageOfC (l : List Oj) (a : Option Addr) (n c : Nat) (av : Option Addr) (ne cv : Nat) (s : Int) (w : World) (hL : LRow w a c 5 (l.map Oj.fl)) (hn : l.length = n) (hn8 : n ≤ 8) (hf : ∀ o ∈ l, objOk o.ob = true) (hne : (entsAll l n).length = ne) (hA : WAt w av (entsAll l n)) (hcv : ne ≤ cv) (hav : av = none → cv = 0) (ge : Nat) (hge : av = none ∨ ∃ o, av = some ⟨ge, o, none⟩) :
    Calls Try.prog 28 #[.slice a n c, .slice av ne cv, .int .i64 s] w fun e w' => ∃ mv wv rs, e = .returned (.agg #[mv, wv, .int .i64 s]) ∧ (rs.map fun x => x.2) = modsTo l n ∧ Im w' w.heap.size w'.heap.size w'.heap.size mv wv rs (wordsTo l n) ∧ Below w.heap.size w w' := by
  have HL : Hid (LRow w a c 5 (l.map Oj.fl)) := hL
  have HN : Hid (l.length = n) := hn
  have HFo : Hid (∀ o ∈ l, objOk o.ob = true) := hf
  have hcap := hL.cap
  have hn9 := hL.len9
  rw [List.length_map, hn] at hcap hn9
  have s0 := S0.start w
  clear hL hn hf
  obtain ⟨i0, hi0, hz0, hz1, hz2⟩ := info_parts infoWo
  go_enter Try.func28, Try.ntmps28
  go_upto_region 1 with fail
  generalize w.alloc (.cells #[.slice none 0 0, .slice none 0 0, .int .i64 0] 27 (0, 0)) = w2 at *
  go_wp2_with (at_make; refine wpList_make_full _ rfl _ _ 25 rfl w2.heap.size 55 i0 _ 7 Try.underlying25 hi0 hz0 hz1 _ _ _ _ 600 rfl rfl rfl rfl (by rw [hz2]; omega) (by unfold maxLen; omega) (Nat.le_refl _) ?_)
  intro w3 hown hgrow
  obtain ⟨z3, im3⟩ := S3.start (l := l) s0 hown hgrow (.slice none 0 0)
  have b4 : Below w3.heap.size w3 (w3.alloc (.cells #[.slice none 0 0, .slice (some ⟨w2.heap.size, 0, none⟩) 600 600, .int .i64 s] 27 (0, 0))) := (Below.refl _ _).alloc (Nat.le_refl _) _
  have HS4 : Hid (∃ hi h2 mv wv rs, S3s s l w w3.heap.size hi h2 (w3.alloc (.cells #[.slice none 0 0, .slice (some ⟨w2.heap.size, 0, none⟩) 600 600, .int .i64 s] 27 (0, 0))) mv wv rs (modsTo l 0) (wordsTo l 0)) :=
    ⟨_, _, _, _, [], z3.step b4, Blk.new w3 27 [.slice none 0 0, .slice (some ⟨w2.heap.size, 0, none⟩) 600 600, .int .i64 s], im3.below b4, rfl, z3.z.lt, ⟨z3.y.size, b4.size⟩, b4.size⟩
  clear z3 im3 b4 hown hgrow s0 hi0 hz0 hz1 hz2
  have HA0 : Hid (WAt w av ((entsAll l n).drop (entsAll l 0).length)) := hA
  clear hA
  go_upto_region 2 with fail
  generalize w3.alloc (.cells #[.slice none 0 0, .slice (some ⟨w2.heap.size, 0, none⟩) 600 600, .int .i64 s] 27 (0, 0)) = w4 at *
  generalize w3.heap.size = g at *
  go_wp2_with fail
  go_loopw [1, 9, 10, 11, 17] (fun t1 _ _ _ i wr => ∃ j : Nat, j ≤ n ∧ i = .int .i64 j ∧ (∃ aj rj cj, t1 = .slice aj rj cj ∧ rj + (entsAll l j).length = ne ∧ rj ≤ cj ∧ (aj = none → cj = 0) ∧ (aj = none ∨ ∃ o, aj = some ⟨ge, o, none⟩) ∧ Hid (WAt w aj ((entsAll l n).drop (entsAll l j).length))) ∧ Hid (∃ hi h2 mv wv rs, S3s s l w g hi h2 wr mv wv rs (modsTo l j) (wordsTo l j))) (fun _ _ _ _ i _ => n - (intOf i).toNat)
  case atStart => exact ⟨0, Nat.zero_le _, rfl, ⟨av, ne, cv, rfl, rfl, hcv, hav, hge, HA0⟩, HS4⟩
  case round =>
    obtain ⟨j, hj, rfl, ⟨aj, rj, cj, rfl, hrj, hrc, hajn, haj, hWA⟩, hst⟩ := hrel
    obtain ⟨hi, h2, mv, wv, rs, st⟩ := hst.out
    clear HS4 hst HA0
    obtain ⟨ma, mc, wa, wk, rfl, rfl⟩ := st.cells
    by_cases hlt : j < n
    · obtain ⟨b, off, rfl⟩ := LRow.addr HL.out (by rw [List.length_map, HN.out]; omega)
      obtain ⟨o, v0, v1, v2, v3, v4, ho, hv, c0, c1, c2, c3, c4⟩ := objCells HL.out HN.out j hlt
      have b0 := cell_on c0 st.z.y
      have b1 := cell_on c1 st.z.y
      have b2 := cell_on c2 st.z.y
      have b3 := cell_on c3 st.z.y
      have b4 := cell_on c4 st.z.y
      obtain ⟨a0, e0, a1, e1, a2, e2, a4, e4, rfl, rfl, rfl, rfl, rfl, _, _, _, hB4, hz4⟩ := objShape hv
      have HO : Hid (l[j]? = some o) := ho
      obtain ⟨p1, p2, p3, p4, p5, _, _⟩ := objOk_parts (HFo.out o (List.mem_of_getElem? ho))
      have hj' : (j : Int) < (n : Int) := by omega
      obtain ⟨n2, hn2⟩ : ∃ z, z = o.im.length := ⟨_, rfl⟩
      obtain ⟨n4, hn4⟩ : ∃ z, z = o.code.length := ⟨_, rfl⟩
      have HN2 : Hid (o.im.length = n2) := hn2.symm
      have HN4 : Hid (o.code.length = n4) := hn4.symm
      obtain ⟨nd, hnd⟩ : ∃ nd : Nat, o.data = (nd : Int) := ⟨o.data.toNat, by omega⟩
      have HDA : Hid (dataAt l j = List.replicate nd zeroWo) := data_at ho hnd
      rw [hnd] at p3 p4 b3
      rw [← hn2] at b2 p2
      rw [← hn4] at b4 p5 hB4
      have HB4 : Hid (BRow w a4 n4 o.code) := hB4
      have hEL : Hid ((entsAt l j).length = n2) := by show _ = _; unfold entsAt; rw [ojAt_some ho, List.length_map, HN2.out]
      obtain ⟨rest, hrest⟩ := ents_split l hlt
      have hn2r : n2 ≤ rj := by
        have h1 := congrArg List.length hrest
        rw [List.length_append, List.length_append, hEL.out, hne] at h1
        omega
      have HW1 : Hid (WAt w aj (entsAt l j)) := by
        have := hWA.out
        rw [hrest, List.drop_left] at this
        exact this.take
      have HW2 : Hid (∀ o', aj = some ⟨ge, o', none⟩ → WAt w (some ⟨ge, o' + n2 * 7, none⟩) ((entsAll l n).drop (entsAll l (j + 1)).length)) := by
        intro o' ho'
        have h1 := hWA.out
        rw [hrest, List.drop_left, ho'] at h1
        have h2 := h1.drop
        rw [hEL.out] at h2
        have e : (entsAll l n).drop (entsAll l (j + 1)).length = rest := by
          rw [hrest, show entsAll l (j + 1) = entsAll l j ++ entsAt l j from rfl, ← List.append_assoc, List.drop_left]
        rw [e]; exact h2
      have HR9 : Hid ((entsAll l (j + 1)).length = (entsAll l j).length + n2) := by
        show _ = _
        rw [show entsAll l (j + 1) = entsAll l j ++ entsAt l j from rfl, List.length_append, hEL.out]
      have hHrest : Hid (∃ rest, entsAll l n = entsAll l j ++ (entsAt l j ++ rest)) := ⟨rest, hrest⟩
      clear hrest hWA
      generalize o.name.length = n0 at *
      generalize o.ex.length = n1 at *
      have bO : Below wr.heap.size wr (wr.alloc (.cells #[.slice a0 n0 e0, .slice a1 n1 e1, .slice a2 n2 e2, .int .i64 (nd : Int), .slice a4 n4 e4] 47 (0, 0))) := (Below.refl _ _).alloc (Nat.le_refl _) _
      have oB := Blk.new wr 47 [.slice a0 n0 e0, .slice a1 n1 e1, .slice a2 n2 e2, .int .i64 (nd : Int), .slice a4 n4 e4]
      have st5 := st.step bO
      have hgO : w.heap.size < wr.heap.size := st.z.z.lt
      simp only [List.toArray] at oB
      clear c0 c1 c2 c3 c4 ho hv hB4 hn2 hn4 st bO hnd
      go_upto_region 5 with fail
      generalize wr.alloc (.cells #[.slice a0 n0 e0, .slice a1 n1 e1, .slice a2 n2 e2, .int .i64 (nd : Int), .slice a4 n4 e4] 47 (0, 0)) = w5 at *
      generalize wr.heap.size = gO at *
      clear b0 b1 b2 b3 b4
      obtain ⟨nw, hnw⟩ : ∃ z, z = (wordsTo l j).length := ⟨_, rfl⟩
      have HNW : Hid ((wordsTo l j).length = nw) := hnw.symm
      have hnwb : nw ≤ 2264 := by rw [hnw]; have := wordsTo_len l (fun o ho => by have := objOk_parts (HFo.out o ho); omega) j (by rw [HN.out]; omega); omega
      have hnwp : 600 ≤ nw := by rw [hnw]; exact words600 l j
      rw [← hnw] at st5
      clear hnw
      have hS0 : w5.drew.cell? ⟨g, 1, none⟩ = some (.slice wa nw wk) ∧ w5.drew.cell? ⟨gO, 2, none⟩ = some (.slice a2 n2 e2) := ⟨st5.m.cell (i := 1) rfl, oB.cell (i := 2) rfl⟩
      refine wp_region_held_drew (S := fun wl => wl.cell? ⟨g, 1, none⟩ = some (.slice wa nw wk) ∧ wl.cell? ⟨gO, 2, none⟩ = some (.slice a2 n2 e2)) (by kernel_rfl) hS0 (fun hHeld => ?_)
      refine tk (i := 0) (v := ?v501) rfl (by kernel_rfl) (.inl ⟨by rfl, ?y501⟩) hHeld (fun _ _ _ h => h) ?_
      case y501 => intro w hSw; (try dsimp only at hSw); go_simp; first | done | rfl
      refine tk (i := 1) (v := ?v502) rfl (by kernel_rfl) (.inl ⟨by rfl, ?y502⟩) hHeld (fun _ _ _ h => h) ?_
      case y502 => intro w hSw; (try dsimp only at hSw); go_simp; first | done | rfl
      refine tk (i := 2) (v := ?v503) rfl (by kernel_rfl) (.inl ⟨by rfl, ?y503⟩) hHeld (fun _ _ _ h => h) ?_
      case y503 => intro w hSw; (try dsimp only at hSw); go_simp; first | done | rfl
      try simp only [nrm]
      refine tk (i := 3) (v := ?v504) rfl (by kernel_rfl) (.inl ⟨by rfl, ?y504⟩) hHeld (fun _ _ _ h => h) ?_
      case y504 => intro w hSw; (try dsimp only at hSw); go_simp; first | done | rfl
      refine tk (i := 4) (v := ?v505) rfl (by kernel_rfl) (.inl ⟨by rfl, ?y505⟩) hHeld (fun _ _ _ h => h) ?_
      case y505 => intro w hSw; (try dsimp only at hSw); go_simp; first | done | rfl
      refine tk (i := 5) (v := ?v506) rfl (by kernel_rfl) (.inl ⟨by rfl, ?y506⟩) hHeld (fun _ _ _ h => h) ?_
      case y506 => intro w hSw; (try dsimp only at hSw); go_simp; first | done | rfl
      try simp only [nrm]
      refine tk (i := 6) (v := ?v507) rfl (by kernel_rfl) (.inl ⟨by rfl, ?y507⟩) hHeld (fun _ _ _ h => h) ?_
      case y507 => intro w hSw; (try dsimp only at hSw); go_simp; first | done | rfl
      refine tk (i := 7) (v := ?v508) rfl (by kernel_rfl) (.inl ⟨by rfl, ?y508⟩) hHeld (fun _ _ _ h => h) ?_
      case y508 => intro w hSw; (try dsimp only at hSw); go_simp; first | done | rfl
      try simp only [nrm]
      refine wpAnyH_done (by kernel_rfl) ?_ _
      have st6 := st5.step (w' := w5.drew) (Below.refl _ _).drew
      have oB6 : Blk w5.drew gO 47 [.slice a0 n0 e0, .slice a1 n1 e1, .slice a2 n2 e2, .int .i64 (nd : Int), .slice a4 n4 e4] := oB
      clear hS0 hHeld st5 oB
      generalize w5.drew = w6 at *
      go_upto_region 6 with fail
      have z0 : (0 : Int) ≤ (n2 : Int) := by omega
      have z1 : (n2 : Int) ≤ (cj : Int) := by omega
      have z2 : (n2 : Int) ≤ (rj : Int) := by omega
      have st7 := st6.step (w' := w6.drew) (Below.refl _ _).drew
      have oB7 : Blk w6.drew gO 47 [.slice a0 n0 e0, .slice a1 n1 e1, .slice a2 n2 e2, .int .i64 (nd : Int), .slice a4 n4 e4] := oB6
      have hS0 : w6.drew.cell? ⟨g, 1, none⟩ = some (.slice wa nw wk) := st7.m.cell (i := 1) rfl
      refine rl 7 (S := fun wl => wl.cell? ⟨g, 1, none⟩ = some (.slice wa nw wk)) (by kernel_rfl) hS0 (fun hHeld => ?_)
      generalize w6.drew = wS at *
      clear st6 oB6
      have HOW : Hid (wS.ownsRow w.heap.size 55 7 (.slice wa nw wk) nw (flatW (wordsTo l j))) := by
        have := st7.im.wrow.own
        rw [HNW.out] at this
        exact this
      have HWS : Hid (WAt wS aj (entsAt l j)) := WAt.below HW1.out st7.z.y
      have HYA : Hid (w.heap.size ≤ wS.heap.size) := st7.z.y.size
      refine tl 0 (v := ?v509) rfl (by kernel_rfl) (.inl ⟨by rfl, ?y509⟩) hHeld (fun _ _ _ h => h) ?_
      case y509 => intro w hSw; (try dsimp only at hSw); go_simp; first | done | rfl
      refine tl 1 (v := ?v510) rfl (by kernel_rfl) (.inl ⟨by rfl, ?y510⟩) hHeld (fun _ _ _ h => h) ?_
      case y510 => intro w hSw; (try dsimp only at hSw); go_simp; first | done | rfl
      refine tl 2 (v := ?v511) rfl (by kernel_rfl) (.inl ⟨by rfl, ?y511⟩) hHeld (fun _ _ _ h => h) ?_
      case y511 => intro w hSw; (try dsimp only at hSw); go_simp; first | done | rfl
      try simp only [nrm]
      refine tl 3 (v := ?v512) rfl (by kernel_rfl) (.inl ⟨by rfl, ?y512⟩) hHeld (fun _ _ _ h => h) ?_
      case y512 => intro w hSw; (try dsimp only at hSw); go_simp; first | done | rfl
      refine tl 4 (v := ?v513) rfl (by kernel_rfl) (.inl ⟨by rfl, ?y513⟩) hHeld (fun _ _ _ h => h) ?_
      case y513 => intro w hSw; (try dsimp only at hSw); go_simp; first | done | rfl
      try simp only [nrm]
      refine dl 5 rfl (by kernel_rfl) (fun K hK => ?_)
      rw [if_pos (by kernel_rfl)]
      refine wp_appendWo _ _ rfl w.heap.size _ nw _ rfl HOW.out aj n2 cj (entsAt l j) rfl hEL.out HWS.out hajn (by omega) HYA.out ?_
      intro wv' w9 ho9 hg9
      have m9 := st7.im.wblk hg9 st7.m (by decide)
      have o9 := st7.im.wblk hg9 oB7 (by decide)
      have k9 := m9.cell (i := 1) rfl
      have f9 := m9.free 1
      obtain ⟨wa3, wk3, rfl, _⟩ := owns_shape ho9
      generalize hlw' : nw + n2 = lw at ho9 ⊢
      have hlw : lw = nw + n2 := hlw'.symm
      clear hlw'
      have st8 := st7.words (us := entsAt l j) hEL.out (by rw [HNW.out, ← hlw]; exact ho9) hg9
      have HLW : Hid ((wordsTo l j ++ entsAt l j).length = lw) := by show _ = _; rw [List.length_append, HNW.out, hEL.out, hlw]
      have hlwb : lw ≤ 2272 := by omega
      have hlwp : 0 < lw := by omega
      clear hlw
      have oB8 : Blk (w9.setCell ⟨g, 1, none⟩ (.slice wa3 lw wk3)) gO 47 [.slice a0 n0 e0, .slice a1 n1 e1, .slice a2 n2 e2, .int .i64 (nd : Int), .slice a4 n4 e4] := o9.other (fun e => by subst e; exact absurd (typ_ne o9 m9) (by decide))
      refine hK.out _ _ (k9) (fun hHeld => ?_)
      clear hK K
      try simp only [nrm]
      refine tl 6 (v := ?v514) rfl (by kernel_rfl) (.inl ⟨by rfl, ?y514⟩) hHeld (fun _ _ _ h => h) ?_
      case y514 => intro w hSw; (try dsimp only at hSw); go_simp; first | done | rfl
      try simp only [nrm]
      refine el rfl (by kernel_rfl) (by kernel_rfl) (fun K hK => ?_)
      go_simp
      refine hK.out _ _ ?_
      clear hK K hHeld hS0 st7 oB7 HOW HWS HYA m9 o9 k9 f9 ho9 hg9
      generalize w9.setCell ⟨g, 1, none⟩ (.slice wa3 lw wk3) = wA at *
      generalize w9.heap.size = h3 at *
      go_upto_region 7 with fail
      have hown0 := st8.im.wrow.own
      rw [HLW.out] at hown0
      obtain ⟨_, _, e9, _, _, _, hs9⟩ := owns_shape hown0
      obtain ⟨gw, hgw⟩ := hs9 hlwp
      simp only [Value.slice.injEq] at e9
      obtain ⟨rfl, _, rfl⟩ := e9
      subst hgw
      have HOW : Hid _ := hown0
      have HYA : Hid (w.heap.size ≤ wA.heap.size) := st8.z.y.size
      have mc1 := st8.m.cell (i := 1) rfl
      have oc3 := oB8.cell (i := 3) rfl
      clear hown0 hs9
      go_wp2_with (at_builtin; refine wpList_appendZ rfl _ _ rfl w.heap.size gw lw wk3 _ rfl HOW.out nd rfl (by omega) HYA.out ?_)
      intro wv' wD ho9 hg9
      have m9 := st8.im.wblk hg9 st8.m (by decide)
      have o9 := st8.im.wblk hg9 oB8 (by decide)
      have k9 := m9.cell (i := 1) rfl
      have f9 := m9.free 1
      obtain ⟨wa4, wk4, rfl, _⟩ := owns_shape ho9
      obtain ⟨lz, hlz⟩ : ∃ z, z = lw + nd := ⟨_, rfl⟩
      rw [← hlz] at ho9 ⊢
      have st1 := st8.words (us := List.replicate nd zeroWo) (List.length_replicate ..) (by rw [HLW.out, ← hlz]; exact ho9) hg9
      rw [List.append_assoc, ← HDA.out] at st1
      have st9 : S3s s l w g hi wD.heap.size (wD.setCell ⟨g, 1, none⟩ (.slice wa4 lz wk4)) (.slice ma rs.length mc) (.slice wa4 lz wk4) rs (modsTo l j) (wordsTo l (j + 1)) := st1
      have HLW2 : Hid ((wordsTo l (j + 1)).length = lz) := by
        show (wordsTo l j ++ (entsAt l j ++ dataAt l j)).length = _
        rw [← List.append_assoc, List.length_append, HLW.out, HDA.out, List.length_replicate, hlz]
      have oB9 : Blk (wD.setCell ⟨g, 1, none⟩ (.slice wa4 lz wk4)) gO 47 [.slice a0 n0 e0, .slice a1 n1 e1, .slice a2 n2 e2, .int .i64 (nd : Int), .slice a4 n4 e4] := o9.other (fun e => by subst e; exact absurd (typ_ne o9 m9) (by decide))
      clear st8 st1 m9 o9 ho9 hg9 HOW HYA mc1 oc3 HDA HLW hlz oB8
      go_upto_region 8 with fail
      clear k9 f9
      generalize wD.setCell ⟨g, 1, none⟩ (.slice wa4 lz wk4) = wE at *
      generalize wD.heap.size = h4 at *
      have hRJ : Hid ((rj - n2) + (entsAll l (j + 1)).length = ne) := by show _ = _; rw [HR9.out]; omega
      have hDL : Hid (((entsAll l n).drop (entsAll l (j + 1)).length).length = rj - n2) := by show _ = _; rw [List.length_drop, hne, HR9.out]; omega
      rcases haj with rfl | ⟨o', rfl⟩
      · have hcj : cj = 0 := hajn rfl
        subst hcj
        have hrj0 : rj - n2 = 0 := by omega
        have HWF : Hid (WAt w none ((entsAll l n).drop (entsAll l (j + 1)).length)) := by intro hp; rw [hDL.out] at hp; omega
        rw [hrj0] at hRJ
        go_upto_region 9 with fail
        have st10 := st9.step (w' := wE.drew) (Below.refl _ _).drew
        have oB10 : Blk wE.drew gO 47 [.slice a0 n0 e0, .slice a1 n1 e1, .slice a2 n2 e2, .int .i64 (nd : Int), .slice a4 n4 e4] := oB9
        have hS0 : wE.drew.cell? ⟨g, 0, none⟩ = some (.slice ma rs.length mc) ∧ wE.drew.cell? ⟨g, 1, none⟩ = some (.slice wa4 lz wk4) ∧ wE.drew.cell? ⟨gO, 4, none⟩ = some (.slice a4 n4 e4) := ⟨st10.m.cell (i := 0) rfl, st10.m.cell (i := 1) rfl, oB10.cell (i := 4) rfl⟩
        refine rl 14 (S := fun wl => wl.cell? ⟨g, 0, none⟩ = some (.slice ma rs.length mc) ∧ wl.cell? ⟨g, 1, none⟩ = some (.slice wa4 lz wk4) ∧ wl.cell? ⟨gO, 4, none⟩ = some (.slice a4 n4 e4)) (by kernel_rfl) hS0 (fun hHeld => ?_)
        generalize wE.drew = wS at *
        clear st9 oB9
        refine tl 0 (v := ?v515) rfl (by kernel_rfl) (.inl ⟨by rfl, ?y515⟩) hHeld (fun _ _ _ h => h) ?_
        case y515 => intro w hSw; (try dsimp only at hSw); go_simp; first | done | rfl
        refine tl 1 (v := ?v516) rfl (by kernel_rfl) (.inl ⟨by rfl, ?y516⟩) hHeld (fun _ _ _ h => h) ?_
        case y516 => intro w hSw; (try dsimp only at hSw); go_simp; first | done | rfl
        refine tl 2 (v := ?v517) rfl (by kernel_rfl) (.inl ⟨by rfl, ?y517⟩) hHeld (fun _ _ _ h => h) ?_
        case y517 => intro w hSw; (try dsimp only at hSw); go_simp; first | done | rfl
        try simp only [nrm]
        refine tl 3 (v := ?v518) rfl (by kernel_rfl) (.inl ⟨by rfl, ?y518⟩) hHeld (fun _ _ _ h => h) ?_
        case y518 => intro w hSw; (try dsimp only at hSw); go_simp; first | done | rfl
        refine tl 4 (v := ?v519) rfl (by kernel_rfl) (.inl ⟨by rfl, ?y519⟩) hHeld (fun _ _ _ h => h) ?_
        case y519 => intro w hSw; (try dsimp only at hSw); go_simp; first | done | rfl
        refine tl 5 (v := ?v520) rfl (by kernel_rfl) (.inl ⟨by rfl, ?y520⟩) hHeld (fun _ _ _ h => h) ?_
        case y520 => intro w hSw; (try dsimp only at hSw); go_simp; first | done | rfl
        try simp only [nrm]
        refine tl 6 (v := ?v521) rfl (by kernel_rfl) (.inl ⟨by rfl, ?y521⟩) hHeld (fun _ _ _ h => h) ?_
        case y521 => intro w hSw; (try dsimp only at hSw); go_simp; first | done | rfl
        refine tl 7 (v := ?v522) rfl (by kernel_rfl) (.inl ⟨by rfl, ?y522⟩) hHeld (fun _ _ _ h => h) ?_
        case y522 => intro w hSw; (try dsimp only at hSw); go_simp; first | done | rfl
        refine tl 8 (v := ?v523) rfl (by kernel_rfl) (.inl ⟨by rfl, ?y523⟩) hHeld (fun _ _ _ h => h) ?_
        case y523 => intro w hSw; (try dsimp only at hSw); go_simp; first | done | rfl
        try simp only [nrm]
        try simp only [nrm]
        have HCL := cloneC a4 n4 e4 o.code wS (BRow.below HB4.out st10.z.y) hz4 (by omega)
        refine dl 9 rfl (by kernel_rfl) (fun K hK => ?_)
        go_simp
        (with_reducible refine HCL.mono ?_)
        rintro e wT ⟨vc, rfl, hpc, hbc⟩
        obtain ⟨ax, cx, rfl, _⟩ := owns_shape hpc.own
        have hST : wT.cell? ⟨g, 0, none⟩ = some (.slice ma rs.length mc) ∧ wT.cell? ⟨g, 1, none⟩ = some (.slice wa4 lz wk4) ∧ wT.cell? ⟨gO, 4, none⟩ = some (.slice a4 n4 e4) := ⟨cell_on hS0.1 hbc, cell_on hS0.2.1 hbc, cell_on hS0.2.2 hbc⟩
        go_wp2_with fail
        refine hK.out _ _ (hST) (fun hHeld => ?_)
        clear hK K
        try simp only [nrm]
        refine tl 10 (v := ?v524) rfl (by kernel_rfl) (.inl ⟨by rfl, ?y524⟩) hHeld (fun _ _ _ h => h) ?_
        case y524 => intro w hSw; (try dsimp only at hSw); go_simp; first | done | rfl
        try simp only [nrm]
        have xC := Blk.new wT 50 [.int .i64 (nw : Int), .int .i64 (lz : Int), .int .i64 (n2 : Int), .slice ax n4 cx]
        have bC : Below wT.heap.size wT (wT.alloc (.cells #[.int .i64 (nw : Int), .int .i64 (lz : Int), .int .i64 (n2 : Int), .slice ax n4 cx] 50 (0, 0))) := (Below.refl _ _).alloc (Nat.le_refl _) _
        have hSC : (wT.alloc (.cells #[.int .i64 (nw : Int), .int .i64 (lz : Int), .int .i64 (n2 : Int), .slice ax n4 cx] 50 (0, 0))).cell? ⟨g, 0, none⟩ = some (.slice ma rs.length mc) ∧ (wT.alloc (.cells #[.int .i64 (nw : Int), .int .i64 (lz : Int), .int .i64 (n2 : Int), .slice ax n4 cx] 50 (0, 0))).cell? ⟨g, 1, none⟩ = some (.slice wa4 lz wk4) ∧ (wT.alloc (.cells #[.int .i64 (nw : Int), .int .i64 (lz : Int), .int .i64 (n2 : Int), .slice ax n4 cx] 50 (0, 0))).cell? ⟨gO, 4, none⟩ = some (.slice a4 n4 e4) := ⟨cell_on hST.1 bC, cell_on hST.2.1 bC, cell_on hST.2.2 bC⟩
        have stU := (st10.step hbc).step bC
        have oBU := (oB10.below hbc oB10.lt).below bC (oB10.below hbc oB10.lt).lt
        have pcU := (hpc.stays (w' := wT.alloc (.cells #[.int .i64 (nw : Int), .int .i64 (lz : Int), .int .i64 (n2 : Int), .slice ax n4 cx] 50 (0, 0))) (fun g _ q _ => bC.block g q)).wide (Nat.le_refl _) bC.size
        have hcS : wS.heap.size ≤ (wT.alloc (.cells #[.int .i64 (nw : Int), .int .i64 (lz : Int), .int .i64 (n2 : Int), .slice ax n4 cx] 50 (0, 0))).heap.size := Nat.le_trans hbc.size bC.size
        have hiS := st10.hi.2
        simp only [List.toArray] at xC
        refine dl 11 rfl (by kernel_rfl) (fun K hK => ?_)
        go_simp
        refine hK.out _ _ (hSC) (fun hHeld => ?_)
        clear hK K
        try simp only [nrm]
        clear HCL hbc bC hpc st10 oB10 hS0 hST
        generalize wT.alloc (.cells #[.int .i64 (nw : Int), .int .i64 (lz : Int), .int .i64 (n2 : Int), .slice ax n4 cx] 50 (0, 0)) = wU at *
        generalize wT.heap.size = gC at *
        have hrl : rs.length ≤ 1000 := by
          have h9 := congrArg List.length stU.rs
          rw [List.length_map, mods_len] at h9
          omega
        refine dl 12 rfl (by kernel_rfl) (fun K hK => ?_)
        rw [if_pos (by kernel_rfl)]
        refine wp_appendRg _ _ rfl w.heap.size _ rs.length rs rfl stU.im.mrow.own gC (.slice ax n4 cx) ⟨(nw : Int), (lz : Int), (n2 : Int), o.code⟩ rfl xC rfl hrl stU.z.y.size ?_
        intro mv' wV ho9 hg9
        have m9 := stU.im.mblk hg9 stU.m (by decide)
        have o9 := stU.im.mblk hg9 oBU (by decide)
        have k9 := m9.cell (i := 0) rfl
        have f9 := m9.free 0
        obtain ⟨ma3, mk3, rfl, _⟩ := owns_shape ho9
        have stV := stU.mods hiS (show Pc wU 5 1 wS.heap.size wU.heap.size (.slice ax n4 cx) (Rg.code ⟨(nw : Int), (lz : Int), (n2 : Int), o.code⟩).length (bV (Rg.code ⟨(nw : Int), (lz : Int), (n2 : Int), o.code⟩)) by show Pc _ _ _ _ _ _ o.code.length (bV o.code); rw [HN4.out]; exact pcU) HB4.out.2.1 hcS ho9 hg9
        rw [← mods_next HO.out HNW.out HLW2.out HN2.out] at stV
        have HFI : Hid (∃ hi h2 mv wv rs', S3s s l w g hi h2 (wV.setCell ⟨g, 0, none⟩ (.slice ma3 (rs.length + 1) mk3)) mv wv rs' (modsTo l (j + 1)) (wordsTo l (j + 1))) := ⟨_, _, _, _, _, stV⟩
        refine hK.out _ _ (⟨k9, m9.cell (i := 1) rfl, o9.cell (i := 4) rfl⟩) (fun hHeld => ?_)
        clear hK K
        try simp only [nrm]
        refine tl 13 (v := ?v525) rfl (by kernel_rfl) (.inl ⟨by rfl, ?y525⟩) hHeld (fun _ _ _ h => h) ?_
        case y525 => intro w hSw; (try dsimp only at hSw); go_simp; first | done | rfl
        try simp only [nrm]
        refine el rfl (by kernel_rfl) (by kernel_rfl) (fun K hK => ?_)
        go_simp
        refine hK.out _ _ ?_
        clear hK K hHeld stU oBU pcU xC hSC m9 o9 k9 f9 ho9 hg9 stV
        go_wp2_with fail
        go_roundw
        case rel => exact ⟨j + 1, by omega, by go_num, ⟨none, 0, 0, by simp, hRJ.out, Nat.le_refl _, fun _ => rfl, .inl rfl, HWF⟩, HFI⟩
        case measure => simp [intOf]; omega
      · have hw2 := HW2.out o' rfl
        by_cases hc : cj = n2
        · have hrj0 : rj - n2 = 0 := by omega
          have HWF : Hid (WAt w (some ⟨ge, o', none⟩) ((entsAll l n).drop (entsAll l (j + 1)).length)) := by intro hp; rw [hDL.out] at hp; omega
          clear hw2
          go_upto_region 9 with fail
          have st10 := st9.step (w' := wE.drew) (Below.refl _ _).drew
          have oB10 : Blk wE.drew gO 47 [.slice a0 n0 e0, .slice a1 n1 e1, .slice a2 n2 e2, .int .i64 (nd : Int), .slice a4 n4 e4] := oB9
          have hS0 : wE.drew.cell? ⟨g, 0, none⟩ = some (.slice ma rs.length mc) ∧ wE.drew.cell? ⟨g, 1, none⟩ = some (.slice wa4 lz wk4) ∧ wE.drew.cell? ⟨gO, 4, none⟩ = some (.slice a4 n4 e4) := ⟨st10.m.cell (i := 0) rfl, st10.m.cell (i := 1) rfl, oB10.cell (i := 4) rfl⟩
          refine rl 14 (S := fun wl => wl.cell? ⟨g, 0, none⟩ = some (.slice ma rs.length mc) ∧ wl.cell? ⟨g, 1, none⟩ = some (.slice wa4 lz wk4) ∧ wl.cell? ⟨gO, 4, none⟩ = some (.slice a4 n4 e4)) (by kernel_rfl) hS0 (fun hHeld => ?_)
          generalize wE.drew = wS at *
          clear st9 oB9
          refine tl 0 (v := ?v526) rfl (by kernel_rfl) (.inl ⟨by rfl, ?y526⟩) hHeld (fun _ _ _ h => h) ?_
          case y526 => intro w hSw; (try dsimp only at hSw); go_simp; first | done | rfl
          refine tl 1 (v := ?v527) rfl (by kernel_rfl) (.inl ⟨by rfl, ?y527⟩) hHeld (fun _ _ _ h => h) ?_
          case y527 => intro w hSw; (try dsimp only at hSw); go_simp; first | done | rfl
          refine tl 2 (v := ?v528) rfl (by kernel_rfl) (.inl ⟨by rfl, ?y528⟩) hHeld (fun _ _ _ h => h) ?_
          case y528 => intro w hSw; (try dsimp only at hSw); go_simp; first | done | rfl
          try simp only [nrm]
          refine tl 3 (v := ?v529) rfl (by kernel_rfl) (.inl ⟨by rfl, ?y529⟩) hHeld (fun _ _ _ h => h) ?_
          case y529 => intro w hSw; (try dsimp only at hSw); go_simp; first | done | rfl
          refine tl 4 (v := ?v530) rfl (by kernel_rfl) (.inl ⟨by rfl, ?y530⟩) hHeld (fun _ _ _ h => h) ?_
          case y530 => intro w hSw; (try dsimp only at hSw); go_simp; first | done | rfl
          refine tl 5 (v := ?v531) rfl (by kernel_rfl) (.inl ⟨by rfl, ?y531⟩) hHeld (fun _ _ _ h => h) ?_
          case y531 => intro w hSw; (try dsimp only at hSw); go_simp; first | done | rfl
          try simp only [nrm]
          refine tl 6 (v := ?v532) rfl (by kernel_rfl) (.inl ⟨by rfl, ?y532⟩) hHeld (fun _ _ _ h => h) ?_
          case y532 => intro w hSw; (try dsimp only at hSw); go_simp; first | done | rfl
          refine tl 7 (v := ?v533) rfl (by kernel_rfl) (.inl ⟨by rfl, ?y533⟩) hHeld (fun _ _ _ h => h) ?_
          case y533 => intro w hSw; (try dsimp only at hSw); go_simp; first | done | rfl
          refine tl 8 (v := ?v534) rfl (by kernel_rfl) (.inl ⟨by rfl, ?y534⟩) hHeld (fun _ _ _ h => h) ?_
          case y534 => intro w hSw; (try dsimp only at hSw); go_simp; first | done | rfl
          try simp only [nrm]
          try simp only [nrm]
          have HCL := cloneC a4 n4 e4 o.code wS (BRow.below HB4.out st10.z.y) hz4 (by omega)
          refine dl 9 rfl (by kernel_rfl) (fun K hK => ?_)
          go_simp
          (with_reducible refine HCL.mono ?_)
          rintro e wT ⟨vc, rfl, hpc, hbc⟩
          obtain ⟨ax, cx, rfl, _⟩ := owns_shape hpc.own
          have hST : wT.cell? ⟨g, 0, none⟩ = some (.slice ma rs.length mc) ∧ wT.cell? ⟨g, 1, none⟩ = some (.slice wa4 lz wk4) ∧ wT.cell? ⟨gO, 4, none⟩ = some (.slice a4 n4 e4) := ⟨cell_on hS0.1 hbc, cell_on hS0.2.1 hbc, cell_on hS0.2.2 hbc⟩
          go_wp2_with fail
          refine hK.out _ _ (hST) (fun hHeld => ?_)
          clear hK K
          try simp only [nrm]
          refine tl 10 (v := ?v535) rfl (by kernel_rfl) (.inl ⟨by rfl, ?y535⟩) hHeld (fun _ _ _ h => h) ?_
          case y535 => intro w hSw; (try dsimp only at hSw); go_simp; first | done | rfl
          try simp only [nrm]
          have xC := Blk.new wT 50 [.int .i64 (nw : Int), .int .i64 (lz : Int), .int .i64 (n2 : Int), .slice ax n4 cx]
          have bC : Below wT.heap.size wT (wT.alloc (.cells #[.int .i64 (nw : Int), .int .i64 (lz : Int), .int .i64 (n2 : Int), .slice ax n4 cx] 50 (0, 0))) := (Below.refl _ _).alloc (Nat.le_refl _) _
          have hSC : (wT.alloc (.cells #[.int .i64 (nw : Int), .int .i64 (lz : Int), .int .i64 (n2 : Int), .slice ax n4 cx] 50 (0, 0))).cell? ⟨g, 0, none⟩ = some (.slice ma rs.length mc) ∧ (wT.alloc (.cells #[.int .i64 (nw : Int), .int .i64 (lz : Int), .int .i64 (n2 : Int), .slice ax n4 cx] 50 (0, 0))).cell? ⟨g, 1, none⟩ = some (.slice wa4 lz wk4) ∧ (wT.alloc (.cells #[.int .i64 (nw : Int), .int .i64 (lz : Int), .int .i64 (n2 : Int), .slice ax n4 cx] 50 (0, 0))).cell? ⟨gO, 4, none⟩ = some (.slice a4 n4 e4) := ⟨cell_on hST.1 bC, cell_on hST.2.1 bC, cell_on hST.2.2 bC⟩
          have stU := (st10.step hbc).step bC
          have oBU := (oB10.below hbc oB10.lt).below bC (oB10.below hbc oB10.lt).lt
          have pcU := (hpc.stays (w' := wT.alloc (.cells #[.int .i64 (nw : Int), .int .i64 (lz : Int), .int .i64 (n2 : Int), .slice ax n4 cx] 50 (0, 0))) (fun g _ q _ => bC.block g q)).wide (Nat.le_refl _) bC.size
          have hcS : wS.heap.size ≤ (wT.alloc (.cells #[.int .i64 (nw : Int), .int .i64 (lz : Int), .int .i64 (n2 : Int), .slice ax n4 cx] 50 (0, 0))).heap.size := Nat.le_trans hbc.size bC.size
          have hiS := st10.hi.2
          simp only [List.toArray] at xC
          refine dl 11 rfl (by kernel_rfl) (fun K hK => ?_)
          go_simp
          refine hK.out _ _ (hSC) (fun hHeld => ?_)
          clear hK K
          try simp only [nrm]
          clear HCL hbc bC hpc st10 oB10 hS0 hST
          generalize wT.alloc (.cells #[.int .i64 (nw : Int), .int .i64 (lz : Int), .int .i64 (n2 : Int), .slice ax n4 cx] 50 (0, 0)) = wU at *
          generalize wT.heap.size = gC at *
          have hrl : rs.length ≤ 1000 := by
            have h9 := congrArg List.length stU.rs
            rw [List.length_map, mods_len] at h9
            omega
          refine dl 12 rfl (by kernel_rfl) (fun K hK => ?_)
          rw [if_pos (by kernel_rfl)]
          refine wp_appendRg _ _ rfl w.heap.size _ rs.length rs rfl stU.im.mrow.own gC (.slice ax n4 cx) ⟨(nw : Int), (lz : Int), (n2 : Int), o.code⟩ rfl xC rfl hrl stU.z.y.size ?_
          intro mv' wV ho9 hg9
          have m9 := stU.im.mblk hg9 stU.m (by decide)
          have o9 := stU.im.mblk hg9 oBU (by decide)
          have k9 := m9.cell (i := 0) rfl
          have f9 := m9.free 0
          obtain ⟨ma3, mk3, rfl, _⟩ := owns_shape ho9
          have stV := stU.mods hiS (show Pc wU 5 1 wS.heap.size wU.heap.size (.slice ax n4 cx) (Rg.code ⟨(nw : Int), (lz : Int), (n2 : Int), o.code⟩).length (bV (Rg.code ⟨(nw : Int), (lz : Int), (n2 : Int), o.code⟩)) by show Pc _ _ _ _ _ _ o.code.length (bV o.code); rw [HN4.out]; exact pcU) HB4.out.2.1 hcS ho9 hg9
          rw [← mods_next HO.out HNW.out HLW2.out HN2.out] at stV
          have HFI : Hid (∃ hi h2 mv wv rs', S3s s l w g hi h2 (wV.setCell ⟨g, 0, none⟩ (.slice ma3 (rs.length + 1) mk3)) mv wv rs' (modsTo l (j + 1)) (wordsTo l (j + 1))) := ⟨_, _, _, _, _, stV⟩
          refine hK.out _ _ (⟨k9, m9.cell (i := 1) rfl, o9.cell (i := 4) rfl⟩) (fun hHeld => ?_)
          clear hK K
          try simp only [nrm]
          refine tl 13 (v := ?v536) rfl (by kernel_rfl) (.inl ⟨by rfl, ?y536⟩) hHeld (fun _ _ _ h => h) ?_
          case y536 => intro w hSw; (try dsimp only at hSw); go_simp; first | done | rfl
          try simp only [nrm]
          refine el rfl (by kernel_rfl) (by kernel_rfl) (fun K hK => ?_)
          go_simp
          refine hK.out _ _ ?_
          clear hK K hHeld stU oBU pcU xC hSC m9 o9 k9 f9 ho9 hg9 stV
          go_wp2_with fail
          go_roundw
          case rel => exact ⟨j + 1, by omega, by go_num, ⟨some ⟨ge, o', none⟩, rj - n2, cj - n2, by simp [hc, hrj0], hRJ.out, by omega, by simp, .inr ⟨_, rfl⟩, HWF⟩, HFI⟩
          case measure => simp [intOf]; omega
        · have HWF : Hid (WAt w (some ⟨ge, o' + n2 * 7, none⟩) ((entsAll l n).drop (entsAll l (j + 1)).length)) := hw2
          clear hw2
          go_upto_region 9 with fail
          have st10 := st9.step (w' := wE.drew) (Below.refl _ _).drew
          have oB10 : Blk wE.drew gO 47 [.slice a0 n0 e0, .slice a1 n1 e1, .slice a2 n2 e2, .int .i64 (nd : Int), .slice a4 n4 e4] := oB9
          have hS0 : wE.drew.cell? ⟨g, 0, none⟩ = some (.slice ma rs.length mc) ∧ wE.drew.cell? ⟨g, 1, none⟩ = some (.slice wa4 lz wk4) ∧ wE.drew.cell? ⟨gO, 4, none⟩ = some (.slice a4 n4 e4) := ⟨st10.m.cell (i := 0) rfl, st10.m.cell (i := 1) rfl, oB10.cell (i := 4) rfl⟩
          refine rl 14 (S := fun wl => wl.cell? ⟨g, 0, none⟩ = some (.slice ma rs.length mc) ∧ wl.cell? ⟨g, 1, none⟩ = some (.slice wa4 lz wk4) ∧ wl.cell? ⟨gO, 4, none⟩ = some (.slice a4 n4 e4)) (by kernel_rfl) hS0 (fun hHeld => ?_)
          generalize wE.drew = wS at *
          clear st9 oB9
          refine tl 0 (v := ?v537) rfl (by kernel_rfl) (.inl ⟨by rfl, ?y537⟩) hHeld (fun _ _ _ h => h) ?_
          case y537 => intro w hSw; (try dsimp only at hSw); go_simp; first | done | rfl
          refine tl 1 (v := ?v538) rfl (by kernel_rfl) (.inl ⟨by rfl, ?y538⟩) hHeld (fun _ _ _ h => h) ?_
          case y538 => intro w hSw; (try dsimp only at hSw); go_simp; first | done | rfl
          refine tl 2 (v := ?v539) rfl (by kernel_rfl) (.inl ⟨by rfl, ?y539⟩) hHeld (fun _ _ _ h => h) ?_
          case y539 => intro w hSw; (try dsimp only at hSw); go_simp; first | done | rfl
          try simp only [nrm]
          refine tl 3 (v := ?v540) rfl (by kernel_rfl) (.inl ⟨by rfl, ?y540⟩) hHeld (fun _ _ _ h => h) ?_
          case y540 => intro w hSw; (try dsimp only at hSw); go_simp; first | done | rfl
          refine tl 4 (v := ?v541) rfl (by kernel_rfl) (.inl ⟨by rfl, ?y541⟩) hHeld (fun _ _ _ h => h) ?_
          case y541 => intro w hSw; (try dsimp only at hSw); go_simp; first | done | rfl
          refine tl 5 (v := ?v542) rfl (by kernel_rfl) (.inl ⟨by rfl, ?y542⟩) hHeld (fun _ _ _ h => h) ?_
          case y542 => intro w hSw; (try dsimp only at hSw); go_simp; first | done | rfl
          try simp only [nrm]
          refine tl 6 (v := ?v543) rfl (by kernel_rfl) (.inl ⟨by rfl, ?y543⟩) hHeld (fun _ _ _ h => h) ?_
          case y543 => intro w hSw; (try dsimp only at hSw); go_simp; first | done | rfl
          refine tl 7 (v := ?v544) rfl (by kernel_rfl) (.inl ⟨by rfl, ?y544⟩) hHeld (fun _ _ _ h => h) ?_
          case y544 => intro w hSw; (try dsimp only at hSw); go_simp; first | done | rfl
          refine tl 8 (v := ?v545) rfl (by kernel_rfl) (.inl ⟨by rfl, ?y545⟩) hHeld (fun _ _ _ h => h) ?_
          case y545 => intro w hSw; (try dsimp only at hSw); go_simp; first | done | rfl
          try simp only [nrm]
          try simp only [nrm]
          have HCL := cloneC a4 n4 e4 o.code wS (BRow.below HB4.out st10.z.y) hz4 (by omega)
          refine dl 9 rfl (by kernel_rfl) (fun K hK => ?_)
          go_simp
          (with_reducible refine HCL.mono ?_)
          rintro e wT ⟨vc, rfl, hpc, hbc⟩
          obtain ⟨ax, cx, rfl, _⟩ := owns_shape hpc.own
          have hST : wT.cell? ⟨g, 0, none⟩ = some (.slice ma rs.length mc) ∧ wT.cell? ⟨g, 1, none⟩ = some (.slice wa4 lz wk4) ∧ wT.cell? ⟨gO, 4, none⟩ = some (.slice a4 n4 e4) := ⟨cell_on hS0.1 hbc, cell_on hS0.2.1 hbc, cell_on hS0.2.2 hbc⟩
          go_wp2_with fail
          refine hK.out _ _ (hST) (fun hHeld => ?_)
          clear hK K
          try simp only [nrm]
          refine tl 10 (v := ?v546) rfl (by kernel_rfl) (.inl ⟨by rfl, ?y546⟩) hHeld (fun _ _ _ h => h) ?_
          case y546 => intro w hSw; (try dsimp only at hSw); go_simp; first | done | rfl
          try simp only [nrm]
          have xC := Blk.new wT 50 [.int .i64 (nw : Int), .int .i64 (lz : Int), .int .i64 (n2 : Int), .slice ax n4 cx]
          have bC : Below wT.heap.size wT (wT.alloc (.cells #[.int .i64 (nw : Int), .int .i64 (lz : Int), .int .i64 (n2 : Int), .slice ax n4 cx] 50 (0, 0))) := (Below.refl _ _).alloc (Nat.le_refl _) _
          have hSC : (wT.alloc (.cells #[.int .i64 (nw : Int), .int .i64 (lz : Int), .int .i64 (n2 : Int), .slice ax n4 cx] 50 (0, 0))).cell? ⟨g, 0, none⟩ = some (.slice ma rs.length mc) ∧ (wT.alloc (.cells #[.int .i64 (nw : Int), .int .i64 (lz : Int), .int .i64 (n2 : Int), .slice ax n4 cx] 50 (0, 0))).cell? ⟨g, 1, none⟩ = some (.slice wa4 lz wk4) ∧ (wT.alloc (.cells #[.int .i64 (nw : Int), .int .i64 (lz : Int), .int .i64 (n2 : Int), .slice ax n4 cx] 50 (0, 0))).cell? ⟨gO, 4, none⟩ = some (.slice a4 n4 e4) := ⟨cell_on hST.1 bC, cell_on hST.2.1 bC, cell_on hST.2.2 bC⟩
          have stU := (st10.step hbc).step bC
          have oBU := (oB10.below hbc oB10.lt).below bC (oB10.below hbc oB10.lt).lt
          have pcU := (hpc.stays (w' := wT.alloc (.cells #[.int .i64 (nw : Int), .int .i64 (lz : Int), .int .i64 (n2 : Int), .slice ax n4 cx] 50 (0, 0))) (fun g _ q _ => bC.block g q)).wide (Nat.le_refl _) bC.size
          have hcS : wS.heap.size ≤ (wT.alloc (.cells #[.int .i64 (nw : Int), .int .i64 (lz : Int), .int .i64 (n2 : Int), .slice ax n4 cx] 50 (0, 0))).heap.size := Nat.le_trans hbc.size bC.size
          have hiS := st10.hi.2
          simp only [List.toArray] at xC
          refine dl 11 rfl (by kernel_rfl) (fun K hK => ?_)
          go_simp
          refine hK.out _ _ (hSC) (fun hHeld => ?_)
          clear hK K
          try simp only [nrm]
          clear HCL hbc bC hpc st10 oB10 hS0 hST
          generalize wT.alloc (.cells #[.int .i64 (nw : Int), .int .i64 (lz : Int), .int .i64 (n2 : Int), .slice ax n4 cx] 50 (0, 0)) = wU at *
          generalize wT.heap.size = gC at *
          have hrl : rs.length ≤ 1000 := by
            have h9 := congrArg List.length stU.rs
            rw [List.length_map, mods_len] at h9
            omega
          refine dl 12 rfl (by kernel_rfl) (fun K hK => ?_)
          rw [if_pos (by kernel_rfl)]
          refine wp_appendRg _ _ rfl w.heap.size _ rs.length rs rfl stU.im.mrow.own gC (.slice ax n4 cx) ⟨(nw : Int), (lz : Int), (n2 : Int), o.code⟩ rfl xC rfl hrl stU.z.y.size ?_
          intro mv' wV ho9 hg9
          have m9 := stU.im.mblk hg9 stU.m (by decide)
          have o9 := stU.im.mblk hg9 oBU (by decide)
          have k9 := m9.cell (i := 0) rfl
          have f9 := m9.free 0
          obtain ⟨ma3, mk3, rfl, _⟩ := owns_shape ho9
          have stV := stU.mods hiS (show Pc wU 5 1 wS.heap.size wU.heap.size (.slice ax n4 cx) (Rg.code ⟨(nw : Int), (lz : Int), (n2 : Int), o.code⟩).length (bV (Rg.code ⟨(nw : Int), (lz : Int), (n2 : Int), o.code⟩)) by show Pc _ _ _ _ _ _ o.code.length (bV o.code); rw [HN4.out]; exact pcU) HB4.out.2.1 hcS ho9 hg9
          rw [← mods_next HO.out HNW.out HLW2.out HN2.out] at stV
          have HFI : Hid (∃ hi h2 mv wv rs', S3s s l w g hi h2 (wV.setCell ⟨g, 0, none⟩ (.slice ma3 (rs.length + 1) mk3)) mv wv rs' (modsTo l (j + 1)) (wordsTo l (j + 1))) := ⟨_, _, _, _, _, stV⟩
          refine hK.out _ _ (⟨k9, m9.cell (i := 1) rfl, o9.cell (i := 4) rfl⟩) (fun hHeld => ?_)
          clear hK K
          try simp only [nrm]
          refine tl 13 (v := ?v547) rfl (by kernel_rfl) (.inl ⟨by rfl, ?y547⟩) hHeld (fun _ _ _ h => h) ?_
          case y547 => intro w hSw; (try dsimp only at hSw); go_simp; first | done | rfl
          try simp only [nrm]
          refine el rfl (by kernel_rfl) (by kernel_rfl) (fun K hK => ?_)
          go_simp
          refine hK.out _ _ ?_
          clear hK K hHeld stU oBU pcU xC hSC m9 o9 k9 f9 ho9 hg9 stV
          go_wp2_with fail
          go_roundw
          case rel => exact ⟨j + 1, by omega, by go_num, ⟨some ⟨ge, o' + n2 * 7, none⟩, rj - n2, cj - n2, by simp [hc], hRJ.out, by omega, by simp, .inr ⟨_, rfl⟩, HWF⟩, HFI⟩
          case measure => simp [intOf]; omega
    · have : n = j := by omega
      subst this
      have HF : Hid ((rs.map fun x => x.2) = modsTo l n) := st.rs
      have mm0 := st.m.cell (i := 0) rfl
      have mm1 := st.m.cell (i := 1) rfl
      have mm2 := st.m.cell (i := 2) rfl
      have z0 := st.z.z.cell (i := 0) rfl
      have z1 := st.z.z.cell (i := 1) rfl
      have z2 := st.z.z.cell (i := 2) rfl
      have f0 := st.z.z.free 0
      have f1 := st.z.z.free 1
      have f2 := st.z.z.free 2
      generalize (wordsTo l n).length = lz at *
      have D : Blk (((wr.setCell ⟨w.heap.size, 0, none⟩ (.slice ma rs.length mc)).setCell ⟨w.heap.size, 1, none⟩ (.slice wa lz wk)).setCell ⟨w.heap.size, 2, none⟩ (.int .i64 s)) w.heap.size 27 [.slice ma rs.length mc, .slice wa lz wk, .int .i64 s] := Blk.put3 st.z.z
      have i2 := st.im.put (i := 0) (v := .slice ma rs.length mc) st.z.z (by decide) (by decide) (.inl (by decide))
      have y2 := st.z.z.set (i := 0) (.slice ma rs.length mc)
      have i3 := i2.put (i := 1) (v := .slice wa lz wk) y2 (by decide) (by decide) (.inl (by decide))
      have y3 := y2.set (i := 1) (.slice wa lz wk)
      have i4 := i3.put (i := 2) (v := .int .i64 s) y3 (by decide) (by decide) (.inl (by decide))
      have hsz : (((wr.setCell ⟨w.heap.size, 0, none⟩ (.slice ma rs.length mc)).setCell ⟨w.heap.size, 1, none⟩ (.slice wa lz wk)).setCell ⟨w.heap.size, 2, none⟩ (.int .i64 s)).heap.size = wr.heap.size := by simp
      have HI : Hid (Im (((wr.setCell ⟨w.heap.size, 0, none⟩ (.slice ma rs.length mc)).setCell ⟨w.heap.size, 1, none⟩ (.slice wa lz wk)).setCell ⟨w.heap.size, 2, none⟩ (.int .i64 s)) w.heap.size wr.heap.size wr.heap.size (.slice ma rs.length mc) (.slice wa lz wk) rs (wordsTo l n)) := i4.wide (Nat.le_refl _) st.hi.2 st.h2
      have HYF : Hid (Below w.heap.size w (((wr.setCell ⟨w.heap.size, 0, none⟩ (.slice ma rs.length mc)).setCell ⟨w.heap.size, 1, none⟩ (.slice wa lz wk)).setCell ⟨w.heap.size, 2, none⟩ (.int .i64 s))) := below_put3 st.z.y (Nat.le_refl _)
      have HSZ : Hid _ := hsz
      have x0 := D.cell (i := 0) rfl
      have x1 := D.cell (i := 1) rfl
      have x2 := D.cell (i := 2) rfl
      clear D i2 i3 i4 y2 y3 st hsz
      go_wp2_with fail
      refine bodyPost_ret (v := .agg #[.slice ma rs.length mc, .slice wa lz wk, .int .i64 s]) (by simp only [results, Try.results28]; simp [go_sem, x0, x1, x2]) rfl ⟨_, _, rs, rfl, HF.out, by rw [HSZ.out]; exact HI.out, HYF.out⟩
end Go.Proofs.Ytefciaeajlgheaa

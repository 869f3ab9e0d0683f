/- The law of Clear returns true at every memory and ints, and writes nothing that was there. -/
import Derived.Test.YtchchigiafacbabMemClear2
import Derived.Test.YtchchigiafacbabMemOkLaw
import Derived.Deep.Cut
namespace Go.Proofs.Ytchchigiafacbab
open Go.RowKit
set_option linter.unusedVariables false
set_option linter.unusedSimpArgs false

theorem wb {w : World} {g : Nat} {l : List Wd} (h : w.heap[g]? = some (.cells (flat l).toArray 39 (0, 0))) : WB w g l := h

theorem nil_row (w : World) : WRow w none 0 [] := ⟨rfl, fun h => absurd h (by omega)⟩

/-- What the law holds between its calls, block by block. -/
structure St (w wk : World) (gm g8 g10 g11 g3 g5 g7 : Nat) (om o8 o10 o11 o3 o5 o7 : Obj) : Prop where
  m : wk.heap[gm]? = some om
  b8 : wk.heap[g8]? = some o8
  b10 : wk.heap[g10]? = some o10
  b11 : wk.heap[g11]? = some o11
  b3 : wk.heap[g3]? = some o3
  b5 : wk.heap[g5]? = some o5
  b7 : wk.heap[g7]? = some o7
  below : Below w.heap.size w wk

theorem St.next {w wk wl : World} {gm g8 g10 g11 g3 g5 g7 : Nat} {om o8 o10 o11 o3 o5 o7 : Obj} (h : St w wk gm g8 g10 g11 g3 g5 g7 om o8 o10 o11 o3 o5 o7) (hb : Below wk.heap.size wk wl) : St w wl gm g8 g10 g11 g3 g5 g7 om o8 o10 o11 o3 o5 o7 := by
  have k : ∀ {g : Nat} {o : Obj}, wk.heap[g]? = some o → wl.heap[g]? = some o := fun e => (hb.block _ (Array.getElem?_eq_some_iff.1 e).1).trans e
  exact ⟨k h.m, k h.b8, k h.b10, k h.b11, k h.b3, k h.b5, k h.b7, h.below.trans (hb.mono h.below.size)⟩

theorem St.but5 {w wk wl : World} {gm g8 g10 g11 g3 g5 g7 : Nat} {om o8 o10 o11 o3 o5 o7 o' : Obj} (h : St w wk gm g8 g10 g11 g3 g5 g7 om o8 o10 o11 o3 o5 o7) (hb : But wk wl g5) (hn : wl.heap[g5]? = some o') (h0 : w.heap.size ≤ g5) (h1 : gm ≠ g5) (h2 : g8 ≠ g5) (h3 : g10 ≠ g5) (h4 : g11 ≠ g5) (h5 : g3 ≠ g5) (h6 : g7 ≠ g5) : St w wl gm g8 g10 g11 g3 g5 g7 om o8 o10 o11 o3 o' o7 := by
  have k : ∀ {g : Nat} {o : Obj}, wk.heap[g]? = some o → g ≠ g5 → wl.heap[g]? = some o := fun e hne => (hb.rest _ (Array.getElem?_eq_some_iff.1 e).1 hne).trans e
  exact ⟨k h.m h1, k h.b8 h2, k h.b10 h3, k h.b11 h4, k h.b3 h5, hn, k h.b7 h6, h.below.trans (hb.below.mono h0)⟩

theorem St.but7 {w wk wl : World} {gm g8 g10 g11 g3 g5 g7 : Nat} {om o8 o10 o11 o3 o5 o7 o' : Obj} (h : St w wk gm g8 g10 g11 g3 g5 g7 om o8 o10 o11 o3 o5 o7) (hb : But wk wl g7) (hn : wl.heap[g7]? = some o') (h0 : w.heap.size ≤ g7) (h1 : gm ≠ g7) (h2 : g8 ≠ g7) (h3 : g10 ≠ g7) (h4 : g11 ≠ g7) (h5 : g3 ≠ g7) (h6 : g5 ≠ g7) : St w wl gm g8 g10 g11 g3 g5 g7 om o8 o10 o11 o3 o5 o' := by
  have k : ∀ {g : Nat} {o : Obj}, wk.heap[g]? = some o → g ≠ g7 → wl.heap[g]? = some o := fun e hne => (hb.rest _ (Array.getElem?_eq_some_iff.1 e).1 hne).trans e
  exact ⟨k h.m h1, k h.b8 h2, k h.b10 h3, k h.b11 h4, k h.b3 h5, k h.b5 h6, hn, h.below.trans (hb.below.mono h0)⟩

set_option maxRecDepth 100000 in
set_option maxHeartbeats 8000000 in
theorem clear_yes (w : World) (a : Option Addr) (n c : Nat) (l : List Wd) (h : WRow w a n l) (hf : ∀ x ∈ l, FitsW x) (lo hi : Nat) (hmem : memB l = true) (h1 : lo ≤ hi) (h2 : hi ≤ n) (hn : n ≤ 1048576) :
    Calls Try.prog 3 #[.agg #[.slice a n c], .int .i64 lo, .int .i64 hi] w fun e w' => e = .returned (.bool true) ∧ Below w.heap.size w w' := by
  have Hsz := fun w => szM a n c 1048576 w rfl (by omega)
  simp only [if_pos hn] at Hsz
  have h64 : Hid (∀ x ∈ l, In64 x.s) := fun x hx => in64W (hf x hx).2.2.2.2.2
  have Hh : Hid (WRow w a n l) := h
  have Hl : Hid (l.length = n) := h.1
  clear hf h
  go_enter Try.func3, Try.ntmps3
  go_wp2_with fail
  refine (Hsz _).mono ?_
  rintro e w1 ⟨rfl, o1, rfl⟩
  obtain ⟨w1, e1⟩ : ∃ x, x = (w.alloc (.cells #[.slice a n c] 24)).alloc o1 := ⟨_, rfl⟩
  have hb1 : Below w.heap.size w w1 := by rw [e1]; exact ((Below.refl _ _).alloc (Nat.le_refl _) _).alloc (by simp) _
  have hm1 : w1.heap[w.heap.size]? = some (.cells #[.slice a n c] 24 (0, 0)) := by rw [e1, old_block (by simp)]; exact heap_alloc_new w _
  rw [← e1]
  clear e1 Hsz
  have hlt : ¬ ((1048576 : Int) - (n : Int) < 0) := by omega
  obtain ⟨m0, _⟩ := one_facts hm1
  have Hb1 : Hid (Below w.heap.size w w1) := hb1
  have Hm1 : Hid _ := hm1
  clear hb1 hm1
  go_wp2_with fail
  refine (toM a n c l w1 (Hh.out.below Hb1.out) hn).mono ?_
  rintro e w2 ⟨g2, rfl, hg2, hW2, hb2⟩
  have hb2' : Below w.heap.size w w2 := Hb1.out.trans (hb2.mono Hb1.out.size)
  have hm2 := (hb2.block _ (Array.getElem?_eq_some_iff.1 Hm1.out).1).trans Hm1.out
  clear hb2 m0 Hm1 Hb1
  have Hb2 : Hid (Below w.heap.size w w2) := hb2'
  have Hm2 : Hid _ := hm2
  clear hb2' hm2
  go_wp2_with fail
  refine (specClearYes ⟨g2, 0, none⟩ n n l lo hi w2 (hW2.row Hl.out) hn hmem h1 h2).mono ?_
  rintro e w3 ⟨g3, cap, rfl, hg3, hX3, hb3⟩
  have hx3 : ∃ o3, w3.heap[g3]? = some o3 := ⟨_, Array.getElem?_eq_getElem (WX.lt hX3)⟩
  obtain ⟨o3, ho3⟩ := hx3
  have hb3' : Below w.heap.size w w3 := Hb2.out.trans (hb3.mono Hb2.out.size)
  have hm3 := (hb3.block _ (Array.getElem?_eq_some_iff.1 Hm2.out).1).trans Hm2.out
  have hsz23 : w2.heap.size ≤ w3.heap.size := hb3.size
  have hmlt : w.heap.size < w2.heap.size := (Array.getElem?_eq_some_iff.1 Hm2.out).1
  clear hb3 hW2 Hm2 Hb2
  go_upto_region 6 with fail
  obtain ⟨w4, e4⟩ : ∃ x, x = w3.alloc (.cells #[.slice (some ⟨g3, 0, none⟩) n cap] 28) := ⟨_, rfl⟩
  have hb34 : Below w3.heap.size w3 w4 := by rw [e4]; exact (Below.refl _ _).alloc (Nat.le_refl _) _
  have h8 := heap_alloc_new w3 (.cells #[.slice (some ⟨g3, 0, none⟩) n cap] 28)
  rw [← e4] at h8 ⊢
  have ho4 := (hb34.block _ (Array.getElem?_eq_some_iff.1 ho3).1).trans ho3
  have hX4 : WX w4 g3 (clr l lo hi) := WX.of hX3 (hb34.block _ (WX.lt hX3))
  have hg3lt : g3 < w3.heap.size := WX.lt hX3
  have H3 : Hid (∀ wx : World, wx.heap[g3]? = some o3 → WRow wx (some ⟨g3, 0, none⟩) n (clr l lo hi)) := fun wx e => WX.row (WX.of hX4 (e.trans ho4.symm)) (by rw [clr_len h1 (by rw [Hl.out]; omega), Hl.out])
  have hm4 := (hb34.block _ (Array.getElem?_eq_some_iff.1 hm3).1).trans hm3
  have hb4' : Below w.heap.size w w4 := hb3'.trans (hb34.mono hb3'.size)
  obtain ⟨m0, _⟩ := one_facts hm4
  have Hb4 : Hid (Below w.heap.size w w4) := hb4'
  have Hm4 : Hid _ := hm4
  have H84 : Hid _ := h8
  have Ho4 : Hid _ := ho4
  have hsz34 : w3.heap.size < w4.heap.size := (Array.getElem?_eq_some_iff.1 h8).1
  clear e4 hb34 h8 ho4 hm4 hb4' hm3 hb3' ho3 hX3 hX4
  go_wp2_with fail
  refine (toM a n c l w4 (Hh.out.below Hb4.out) hn).mono ?_
  rintro e w5 ⟨g5, rfl, hg5, hW5, hb5⟩
  have hb5' : Below w.heap.size w w5 := Hb4.out.trans (hb5.mono Hb4.out.size)
  have hm5 := (hb5.block _ (Array.getElem?_eq_some_iff.1 Hm4.out).1).trans Hm4.out
  have h85 := (hb5.block _ (Array.getElem?_eq_some_iff.1 H84.out).1).trans H84.out
  have ho5 := (hb5.block _ (Array.getElem?_eq_some_iff.1 Ho4.out).1).trans Ho4.out
  have hsz45 : w4.heap.size ≤ w5.heap.size := hb5.size
  have hg5lt : g5 < w5.heap.size := (Array.getElem?_eq_some_iff.1 hW5).1
  clear hb5 Hm4 H84 Ho4 Hb4 m0
  go_upto_region 7 with fail
  obtain ⟨w6, e6⟩ : ∃ x, x = w5.alloc (.cells #[.slice (some ⟨g5, 0, none⟩) n n] 28) := ⟨_, rfl⟩
  have hb56 : Below w5.heap.size w5 w6 := by rw [e6]; exact (Below.refl _ _).alloc (Nat.le_refl _) _
  have h10 := heap_alloc_new w5 (.cells #[.slice (some ⟨g5, 0, none⟩) n n] 28)
  rw [← e6] at h10 ⊢
  have hW6 : WB w6 g5 l := WB.below hW5 hb56 hg5lt
  have hm6 := (hb56.block _ (Array.getElem?_eq_some_iff.1 hm5).1).trans hm5
  have h86 := (hb56.block _ (Array.getElem?_eq_some_iff.1 h85).1).trans h85
  have ho6 := (hb56.block _ (Array.getElem?_eq_some_iff.1 ho5).1).trans ho5
  have hb6' : Below w.heap.size w w6 := hb5'.trans (hb56.mono hb5'.size)
  have hsz56 : w5.heap.size < w6.heap.size := (Array.getElem?_eq_some_iff.1 h10).1
  obtain ⟨z0, _⟩ := one_facts h10
  have Hb6 : Hid (Below w.heap.size w w6) := hb6'
  have Hm6 : Hid _ := hm6
  have H86 : Hid _ := h86
  have Ho6 : Hid _ := ho6
  have H106 : Hid _ := h10
  have HW6 : Hid (WB w6 g5 l) := hW6
  clear e6 hb56 h10 hm5 h85 ho5 hm6 h86 ho6 hb6' hb5' hW5 hW6
  go_wp2_with fail
  refine (implClearYes ⟨g5, 0, none⟩ n n l lo hi w6 (HW6.out.row Hl.out) hn h64.out hmem h1 h2).mono ?_
  rintro e w7 ⟨g7, rfl, hg7, hW7, hb7⟩
  have hg7lt : g7 < w7.heap.size := (Array.getElem?_eq_some_iff.1 hW7).1
  have hsz67 : w6.heap.size ≤ w7.heap.size := hb7.size
  go_upto_region 8 with fail
  obtain ⟨w8, e8⟩ : ∃ x, x = w7.alloc (.cells #[.slice (some ⟨g7, 0, none⟩) n n] 28) := ⟨_, rfl⟩
  have hb78 : Below w7.heap.size w7 w8 := by rw [e8]; exact (Below.refl _ _).alloc (Nat.le_refl _) _
  have h11 := heap_alloc_new w7 (.cells #[.slice (some ⟨g7, 0, none⟩) n n] 28)
  rw [← e8] at h11 ⊢
  have hb68 := hb7.trans (hb78.mono hb7.size)
  have S8 : St w w8 w.heap.size w3.heap.size w5.heap.size w7.heap.size g3 g5 g7 _ _ _ _ _ _ _ :=
    ⟨(hb68.block _ (Array.getElem?_eq_some_iff.1 Hm6.out).1).trans Hm6.out, (hb68.block _ (Array.getElem?_eq_some_iff.1 H86.out).1).trans H86.out, (hb68.block _ (Array.getElem?_eq_some_iff.1 H106.out).1).trans H106.out, h11, (hb68.block _ (Array.getElem?_eq_some_iff.1 Ho6.out).1).trans Ho6.out, (hb68.block _ (Array.getElem?_eq_some_iff.1 HW6.out).1).trans HW6.out, (hb78.block _ hg7lt).trans hW7, Hb6.out.trans (hb68.mono Hb6.out.size)⟩
  clear e8 hb78 hb68 h11 hb7 Hm6 H86 H106 Ho6 HW6 Hb6 z0 hW7
  generalize hgm : w.heap.size = gm at *
  have Hg : Hid (w.heap.size = gm) := hgm
  clear hgm
  generalize w3.heap.size = g8 at *
  generalize w5.heap.size = g10 at *
  generalize w7.heap.size = g11 at *
  have HST : Hid _ := S8
  clear S8
  have hst := HST.out
  obtain ⟨cm, _⟩ := one_facts hst.m
  obtain ⟨c8, _⟩ := one_facts hst.b8
  obtain ⟨c10, _⟩ := one_facts hst.b10
  obtain ⟨c11, _⟩ := one_facts hst.b11
  clear hst
  go_wp2_with fail
  refine (eqM (some ⟨g7, 0, none⟩) n n (clr l lo hi) (some ⟨g3, 0, none⟩) cap w8 (WB.row (show WB _ g7 (clr l lo hi) from HST.out.b7) (by rw [clr_len h1 (by rw [Hl.out]; omega), Hl.out])) (H3.out _ HST.out.b3) hn).mono ?_
  rintro e w9 ⟨rfl, hb_w9⟩
  have hst := HST.out.next hb_w9
  clear HST cm c8 c10 c11 hb_w9
  have HST : Hid _ := hst
  clear hst
  have hst := HST.out
  obtain ⟨cm, _⟩ := one_facts hst.m
  obtain ⟨c8, _⟩ := one_facts hst.b8
  obtain ⟨c10, _⟩ := one_facts hst.b10
  obtain ⟨c11, _⟩ := one_facts hst.b11
  clear hst
  go_wp2_with fail
  have HK : Hid (∀ {wx : World}, Below w9.heap.size w9 wx → St w wx gm g8 g10 g11 g3 g5 g7 _ _ _ _ _ _ _) := fun hb => HST.out.next hb
  have HKc : Hid (∀ {wx : World}, Below w9.heap.size w9 wx → wx.cell? ⟨g10, 0, none⟩ = some (.slice (some ⟨g5, 0, none⟩) n n) ∧ wx.cell? ⟨gm, 0, none⟩ = some (.slice a n c)) := fun hb => ⟨(one_facts (HK.out hb).b10).1, (one_facts (HK.out hb).m).1⟩
  refine wp_region_held_drew (S := fun wx => wx.cell? ⟨g10, 0, none⟩ = some (.slice (some ⟨g5, 0, none⟩) n n) ∧ wx.cell? ⟨gm, 0, none⟩ = some (.slice a n c)) (by kernel_rfl) (HKc.out (Below.refl _ _).drew) (fun hHeld => ?_)
  have hB0 : Below w9.heap.size w9 w9.drew := (Below.refl _ _).drew
  generalize w9.drew = wS at hB0 hHeld ⊢
  refine wpAnyH_take (i := 0) (oi := ?o501) (v := ?v501) ?i501 (by kernel_rfl) (by kernel_rfl) (by kernel_rfl) ?q501 ?y501 (hHeld) ?r501
  case i501 => exact rfl
  case q501 => exact (fun _ _ _ h => h)
  case y501 =>
    refine Or.inl ⟨by rfl, ?_⟩
    intro w hSw
    (try dsimp only at hSw)
    go_simp
    first | done | rfl
  try simp only [Act.put, List.getElem_toArray, List.getElem_cons_zero, List.getElem_cons_succ, List.setIfInBounds_toArray, List.set_cons_zero, List.set_cons_succ]
  refine wpAnyH_take (i := 1) (oi := ?o502) (v := ?v502) ?i502 (by kernel_rfl) (by kernel_rfl) (by kernel_rfl) ?q502 ?y502 (hHeld) ?r502
  case i502 => exact rfl
  case q502 => exact (fun _ _ _ h => h)
  case y502 =>
    refine Or.inl ⟨by rfl, ?_⟩
    intro w hSw
    (try dsimp only at hSw)
    go_simp
    first | done | rfl
  try simp only [Act.put, List.getElem_toArray, List.getElem_cons_zero, List.getElem_cons_succ, List.setIfInBounds_toArray, List.set_cons_zero, List.set_cons_succ]
  refine wpAnyH_ready (rs := [2]) (by kernel_rfl) (by simp) ?_
  refine AllReadyH.cons (i := 2) (o := ?o503) ?i503 (fun K hK => ?_) AllReadyH.nil
  case i503 => exact rfl
  go_simp
  (with_reducible refine (toM a n c l wS (Hh.out.below (HK.out hB0).below) hn).mono ?_)
  rintro e w10 ⟨ga, rfl, hga, hWa, hb10⟩
  have hB10 := hB0.trans (hb10.mono hB0.size)
  go_wp2_with fail
  refine hK.out _ _ (HKc.out hB10) (fun hHeld => ?_)
  clear hK K
  try simp only [Act.put, List.getElem_toArray, List.getElem_cons_zero, List.getElem_cons_succ, List.setIfInBounds_toArray, List.set_cons_zero, List.set_cons_succ]
  refine wpAnyH_ready (rs := [3]) (by kernel_rfl) (by simp) ?_
  refine AllReadyH.cons (i := 3) (o := ?o504) ?i504 (fun K hK => ?_) AllReadyH.nil
  case i504 => exact rfl
  go_simp
  (with_reducible refine (eqM (some ⟨g5, 0, none⟩) n n l (some ⟨ga, 0, none⟩) n w10 (WB.row (wb (HK.out hB10).b5) Hl.out) (hWa.row Hl.out) hn).mono ?_)
  rintro e w11 ⟨rfl, hb11⟩
  have hB11 := hB10.trans (hb11.mono hB10.size)
  go_wp2_with fail
  refine hK.out _ _ (HKc.out hB11) (fun hHeld => ?_)
  clear hK K
  try simp only [Act.put, List.getElem_toArray, List.getElem_cons_zero, List.getElem_cons_succ, List.setIfInBounds_toArray, List.set_cons_zero, List.set_cons_succ]
  refine wpAnyH_take (i := 4) (oi := ?o505) (v := ?v505) ?i505 (by kernel_rfl) (by kernel_rfl) (by kernel_rfl) ?q505 ?y505 (hHeld) ?r505
  case i505 => exact rfl
  case q505 => exact (fun _ _ _ h => h)
  case y505 =>
    refine Or.inl ⟨by rfl, ?_⟩
    intro w hSw
    (try dsimp only at hSw)
    go_simp
    first | done | rfl
  try simp only [Act.put, List.getElem_toArray, List.getElem_cons_zero, List.getElem_cons_succ, List.setIfInBounds_toArray, List.set_cons_zero, List.set_cons_succ]
  refine wpAnyH_done (by kernel_rfl) ?_ _
  have hst := HK.out hB11
  clear HST cm c8 c10 c11 HK HKc hB0 hb10 hB10 hb11 hB11 hHeld hWa hga
  have HST : Hid _ := hst
  clear hst
  have hst := HST.out
  obtain ⟨cm, _⟩ := one_facts hst.m
  obtain ⟨c8, _⟩ := one_facts hst.b8
  obtain ⟨c10, _⟩ := one_facts hst.b10
  obtain ⟨c11, _⟩ := one_facts hst.b11
  clear hst
  go_wp2_with fail
  refine (markM g5 n n l w11 (show WB w11 g5 l from HST.out.b5) Hl.out hn).mono ?_
  rintro e w12 ⟨rfl, hW12, hbut12⟩
  have hst := HST.out.but5 hbut12 hW12 (by rw [Hg.out]; omega) (by omega) (by omega) (by omega) (by omega) (by omega) (by omega)
  clear HST cm c8 c10 c11 hbut12 hW12
  have HST : Hid _ := hst
  clear hst
  have hpos : ¬ (1 + 7 * (n : Int) < 0) := by omega
  have hst := HST.out
  obtain ⟨cm, _⟩ := one_facts hst.m
  obtain ⟨c8, _⟩ := one_facts hst.b8
  obtain ⟨c10, _⟩ := one_facts hst.b10
  obtain ⟨c11, _⟩ := one_facts hst.b11
  clear hst
  go_wp2_with fail
  refine (eqM (some ⟨g7, 0, none⟩) n n (clr l lo hi) (some ⟨g3, 0, none⟩) cap w12 (WB.row (show WB _ g7 (clr l lo hi) from HST.out.b7) (by rw [clr_len h1 (by rw [Hl.out]; omega), Hl.out])) (H3.out _ HST.out.b3) hn).mono ?_
  rintro e w13 ⟨rfl, hb_w13⟩
  have hst := HST.out.next hb_w13
  clear HST cm c8 c10 c11 hb_w13
  have HST : Hid _ := hst
  clear hst
  have hst := HST.out
  obtain ⟨cm, _⟩ := one_facts hst.m
  obtain ⟨c8, _⟩ := one_facts hst.b8
  obtain ⟨c10, _⟩ := one_facts hst.b10
  obtain ⟨c11, _⟩ := one_facts hst.b11
  clear hst
  go_wp2_with fail
  refine (markM g7 n n (clr l lo hi) w13 (show WB w13 g7 (clr l lo hi) from HST.out.b7) (by rw [clr_len h1 (by rw [Hl.out]; omega), Hl.out]) hn).mono ?_
  rintro e w14 ⟨rfl, hW14, hbut14⟩
  have hst := HST.out.but7 hbut14 hW14 (by rw [Hg.out]; omega) (by omega) (by omega) (by omega) (by omega) (by omega) (by omega)
  clear HST cm c8 c10 c11 hbut14 hW14
  have HST : Hid _ := hst
  clear hst
  have hst := HST.out
  obtain ⟨cm, _⟩ := one_facts hst.m
  obtain ⟨c8, _⟩ := one_facts hst.b8
  obtain ⟨c10, _⟩ := one_facts hst.b10
  obtain ⟨c11, _⟩ := one_facts hst.b11
  clear hst
  go_wp2_with fail
  refine (heldM g7 n n w14 (show WB w14 g7 (marks n) from HST.out.b7) hn).mono ?_
  rintro e w15 ⟨rfl, o15, rfl⟩
  have hb_w15 : Below w14.heap.size w14 (w14.alloc o15) := (Below.refl _ _).alloc (Nat.le_refl _) _
  generalize w14.alloc o15 = w15 at hb_w15 ⊢
  have hst := HST.out.next hb_w15
  clear HST cm c8 c10 c11 hb_w15
  have HST : Hid _ := hst
  clear hst
  have hst := HST.out
  obtain ⟨cm, _⟩ := one_facts hst.m
  obtain ⟨c8, _⟩ := one_facts hst.b8
  obtain ⟨c10, _⟩ := one_facts hst.b10
  obtain ⟨c11, _⟩ := one_facts hst.b11
  clear hst
  go_wp2_with fail
  refine (toM a n c l w15 (Hh.out.below HST.out.below) hn).mono ?_
  rintro e w16 ⟨gb, rfl, hgb, hW16, hb_w16⟩
  have hst := HST.out.next hb_w16
  clear HST cm c8 c10 c11 hb_w16
  have HST : Hid _ := hst
  clear hst
  have hst := HST.out
  obtain ⟨cm, _⟩ := one_facts hst.m
  obtain ⟨c8, _⟩ := one_facts hst.b8
  obtain ⟨c10, _⟩ := one_facts hst.b10
  obtain ⟨c11, _⟩ := one_facts hst.b11
  clear hst
  go_wp2_with fail
  refine (implClearYes ⟨gb, 0, none⟩ n n l lo hi w16 (hW16.row Hl.out) hn h64.out hmem h1 h2).mono ?_
  rintro e w17 ⟨gd, rfl, hgd, hW17, hb_w17⟩
  have hst := HST.out.next hb_w17
  clear HST cm c8 c10 c11 hb_w17
  have HST : Hid _ := hst
  clear hst
  go_upto_region 25 with fail
  obtain ⟨w18, e18⟩ : ∃ x, x = w17.alloc (.cells #[.slice (some ⟨gd, 0, none⟩) n n] 28) := ⟨_, rfl⟩
  have hb_w18 : Below w17.heap.size w17 w18 := by rw [e18]; exact (Below.refl _ _).alloc (Nat.le_refl _) _
  have h16 := heap_alloc_new w17 (.cells #[.slice (some ⟨gd, 0, none⟩) n n] 28)
  rw [← e18] at h16 ⊢
  have hW18 : WB w18 gd (clr l lo hi) := WB.below hW17 hb_w18 (Array.getElem?_eq_some_iff.1 hW17).1
  clear hW17
  obtain ⟨c16, _⟩ := one_facts h16
  have hst := HST.out.next hb_w18
  clear HST hb_w18 e18 h16 hW16
  generalize w17.heap.size = g16 at *
  have HST : Hid _ := hst
  clear hst
  have hst := HST.out
  obtain ⟨cm, _⟩ := one_facts hst.m
  obtain ⟨c8, _⟩ := one_facts hst.b8
  obtain ⟨c10, _⟩ := one_facts hst.b10
  obtain ⟨c11, _⟩ := one_facts hst.b11
  clear hst
  go_wp2_with fail
  refine (eqM (some ⟨gd, 0, none⟩) n n (clr l lo hi) (some ⟨g3, 0, none⟩) cap w18 (hW18.row (by rw [clr_len h1 (by rw [Hl.out]; omega), Hl.out])) (H3.out _ HST.out.b3) hn).mono ?_
  rintro e w19 ⟨rfl, hb_w19⟩
  have hst := HST.out.next hb_w19
  clear HST cm c8 c10 c11 hb_w19
  have HST : Hid _ := hst
  clear hst
  have hst := HST.out
  obtain ⟨cm, _⟩ := one_facts hst.m
  obtain ⟨c8, _⟩ := one_facts hst.b8
  obtain ⟨c10, _⟩ := one_facts hst.b10
  obtain ⟨c11, _⟩ := one_facts hst.b11
  clear hst
  go_wp2_with fail
  refine (heldM g7 n n w19 (show WB w19 g7 (marks n) from HST.out.b7) hn).mono ?_
  rintro e w20 ⟨rfl, o20, rfl⟩
  have hbl := HST.out.below.trans (((Below.refl w19.heap.size w19).alloc (Nat.le_refl _) o20).mono HST.out.below.size)
  generalize w19.alloc o20 = w20 at hbl ⊢
  go_wp2_with fail
  go_ret
  exact ⟨rfl, hbl⟩

set_option maxRecDepth 100000 in
set_option maxHeartbeats 8000000 in
theorem clear_no (w : World) (a : Option Addr) (n c : Nat) (l : List Wd) (h : WRow w a n l) (hf : ∀ x ∈ l, FitsW x) (lo hi : Int) (hc : clrB l lo hi = false) (hn : n ≤ 1048576) :
    Calls Try.prog 3 #[.agg #[.slice a n c], .int .i64 lo, .int .i64 hi] w fun e w' => e = .returned (.bool true) ∧ Below w.heap.size w w' := by
  have Hsz := fun w => szM a n c 1048576 w rfl (by omega)
  simp only [if_pos hn] at Hsz
  have h64 : Hid (∀ x ∈ l, In64 x.s) := fun x hx => in64W (hf x hx).2.2.2.2.2
  have Hh : Hid (WRow w a n l) := h
  have Hl : Hid (l.length = n) := h.1
  clear hf h
  go_enter Try.func3, Try.ntmps3
  go_wp2_with fail
  refine (Hsz _).mono ?_
  rintro e w1 ⟨rfl, o1, rfl⟩
  obtain ⟨w1, e1⟩ : ∃ x, x = (w.alloc (.cells #[.slice a n c] 24)).alloc o1 := ⟨_, rfl⟩
  have hb1 : Below w.heap.size w w1 := by rw [e1]; exact ((Below.refl _ _).alloc (Nat.le_refl _) _).alloc (by simp) _
  have hm1 : w1.heap[w.heap.size]? = some (.cells #[.slice a n c] 24 (0, 0)) := by rw [e1, old_block (by simp)]; exact heap_alloc_new w _
  rw [← e1]
  clear e1 Hsz
  have hlt : ¬ ((1048576 : Int) - (n : Int) < 0) := by omega
  obtain ⟨m0, _⟩ := one_facts hm1
  have Hb1 : Hid (Below w.heap.size w w1) := hb1
  have Hm1 : Hid _ := hm1
  clear hb1 hm1
  go_wp2_with fail
  refine (toM a n c l w1 (Hh.out.below Hb1.out) hn).mono ?_
  rintro e w2 ⟨g2, rfl, hg2, hW2, hb2⟩
  have hb2' : Below w.heap.size w w2 := Hb1.out.trans (hb2.mono Hb1.out.size)
  have hm2 := (hb2.block _ (Array.getElem?_eq_some_iff.1 Hm1.out).1).trans Hm1.out
  clear hb2 m0 Hm1 Hb1
  have Hb2 : Hid (Below w.heap.size w w2) := hb2'
  have Hm2 : Hid _ := hm2
  clear hb2' hm2
  go_wp2_with fail
  refine (specClearNo ⟨g2, 0, none⟩ n n l lo hi w2 (hW2.row Hl.out) hn hc).mono ?_
  rintro e w3 ⟨rfl, hb3⟩
  have hb3' : Below w.heap.size w w3 := Hb2.out.trans (hb3.mono Hb2.out.size)
  have hm3 := (hb3.block _ (Array.getElem?_eq_some_iff.1 Hm2.out).1).trans Hm2.out
  have hsz23 : w2.heap.size ≤ w3.heap.size := hb3.size
  have hmlt : w.heap.size < w2.heap.size := (Array.getElem?_eq_some_iff.1 Hm2.out).1
  clear hb3 hW2 Hm2 Hb2
  go_upto_region 6 with fail
  obtain ⟨w4, e4⟩ : ∃ x, x = w3.alloc (.cells #[.slice none 0 0] 28) := ⟨_, rfl⟩
  have hb34 : Below w3.heap.size w3 w4 := by rw [e4]; exact (Below.refl _ _).alloc (Nat.le_refl _) _
  have h8 := heap_alloc_new w3 (.cells #[.slice none 0 0] 28)
  rw [← e4] at h8 ⊢
  have ho4 := h8
  have hm4 := (hb34.block _ (Array.getElem?_eq_some_iff.1 hm3).1).trans hm3
  have hb4' : Below w.heap.size w w4 := hb3'.trans (hb34.mono hb3'.size)
  obtain ⟨m0, _⟩ := one_facts hm4
  have Hb4 : Hid (Below w.heap.size w w4) := hb4'
  have Hm4 : Hid _ := hm4
  have H84 : Hid _ := h8
  have Ho4 : Hid _ := ho4
  have hsz34 : w3.heap.size < w4.heap.size := (Array.getElem?_eq_some_iff.1 h8).1
  clear e4 hb34 h8 ho4 hm4 hb4' hm3 hb3' 
  go_wp2_with fail
  refine (toM a n c l w4 (Hh.out.below Hb4.out) hn).mono ?_
  rintro e w5 ⟨g5, rfl, hg5, hW5, hb5⟩
  have hb5' : Below w.heap.size w w5 := Hb4.out.trans (hb5.mono Hb4.out.size)
  have hm5 := (hb5.block _ (Array.getElem?_eq_some_iff.1 Hm4.out).1).trans Hm4.out
  have h85 := (hb5.block _ (Array.getElem?_eq_some_iff.1 H84.out).1).trans H84.out
  have ho5 := (hb5.block _ (Array.getElem?_eq_some_iff.1 Ho4.out).1).trans Ho4.out
  have hsz45 : w4.heap.size ≤ w5.heap.size := hb5.size
  have hg5lt : g5 < w5.heap.size := (Array.getElem?_eq_some_iff.1 hW5).1
  clear hb5 Hm4 H84 Ho4 Hb4 m0
  go_upto_region 7 with fail
  obtain ⟨w6, e6⟩ : ∃ x, x = w5.alloc (.cells #[.slice (some ⟨g5, 0, none⟩) n n] 28) := ⟨_, rfl⟩
  have hb56 : Below w5.heap.size w5 w6 := by rw [e6]; exact (Below.refl _ _).alloc (Nat.le_refl _) _
  have h10 := heap_alloc_new w5 (.cells #[.slice (some ⟨g5, 0, none⟩) n n] 28)
  rw [← e6] at h10 ⊢
  have hW6 : WB w6 g5 l := WB.below hW5 hb56 hg5lt
  have hm6 := (hb56.block _ (Array.getElem?_eq_some_iff.1 hm5).1).trans hm5
  have h86 := (hb56.block _ (Array.getElem?_eq_some_iff.1 h85).1).trans h85
  have ho6 := (hb56.block _ (Array.getElem?_eq_some_iff.1 ho5).1).trans ho5
  have hb6' : Below w.heap.size w w6 := hb5'.trans (hb56.mono hb5'.size)
  have hsz56 : w5.heap.size < w6.heap.size := (Array.getElem?_eq_some_iff.1 h10).1
  obtain ⟨z0, _⟩ := one_facts h10
  have Hb6 : Hid (Below w.heap.size w w6) := hb6'
  have Hm6 : Hid _ := hm6
  have H86 : Hid _ := h86
  have Ho6 : Hid _ := ho6
  have H106 : Hid _ := h10
  have HW6 : Hid (WB w6 g5 l) := hW6
  clear e6 hb56 h10 hm5 h85 ho5 hm6 h86 ho6 hb6' hb5' hW5 hW6
  go_wp2_with fail
  refine (implClearNo ⟨g5, 0, none⟩ n n l lo hi w6 (HW6.out.row Hl.out) hn h64.out hc).mono ?_
  rintro e w7 ⟨rfl, hb7⟩
  have hsz67 : w6.heap.size ≤ w7.heap.size := hb7.size
  go_upto_region 8 with fail
  obtain ⟨w8, e8⟩ : ∃ x, x = w7.alloc (.cells #[.slice none 0 0] 28) := ⟨_, rfl⟩
  have hb78 : Below w7.heap.size w7 w8 := by rw [e8]; exact (Below.refl _ _).alloc (Nat.le_refl _) _
  have h11 := heap_alloc_new w7 (.cells #[.slice none 0 0] 28)
  rw [← e8] at h11 ⊢
  have hb68 := hb7.trans (hb78.mono hb7.size)
  have S8 : St w w8 w.heap.size w3.heap.size w5.heap.size w7.heap.size w3.heap.size g5 w7.heap.size _ _ _ _ _ _ _ :=
    ⟨(hb68.block _ (Array.getElem?_eq_some_iff.1 Hm6.out).1).trans Hm6.out, (hb68.block _ (Array.getElem?_eq_some_iff.1 H86.out).1).trans H86.out, (hb68.block _ (Array.getElem?_eq_some_iff.1 H106.out).1).trans H106.out, h11, (hb68.block _ (Array.getElem?_eq_some_iff.1 Ho6.out).1).trans Ho6.out, (hb68.block _ (Array.getElem?_eq_some_iff.1 HW6.out).1).trans HW6.out, h11, Hb6.out.trans (hb68.mono Hb6.out.size)⟩
  clear e8 hb78 hb68 h11 hb7 Hm6 H86 H106 Ho6 HW6 Hb6 z0 
  generalize hgm : w.heap.size = gm at *
  have Hg : Hid (w.heap.size = gm) := hgm
  clear hgm
  generalize w3.heap.size = g8 at *
  generalize w5.heap.size = g10 at *
  generalize w7.heap.size = g11 at *
  have HST : Hid _ := S8
  clear S8
  have hst := HST.out
  obtain ⟨cm, _⟩ := one_facts hst.m
  obtain ⟨c8, _⟩ := one_facts hst.b8
  obtain ⟨c10, _⟩ := one_facts hst.b10
  obtain ⟨c11, _⟩ := one_facts hst.b11
  clear hst
  go_wp2_with fail
  refine (eqM none 0 0 [] none 0 w8 (nil_row _) (nil_row _) (by omega)).mono ?_
  rintro e w9 ⟨rfl, hb_w9⟩
  have hst := HST.out.next hb_w9
  clear HST cm c8 c10 c11 hb_w9
  have HST : Hid _ := hst
  clear hst
  have hst := HST.out
  obtain ⟨cm, _⟩ := one_facts hst.m
  obtain ⟨c8, _⟩ := one_facts hst.b8
  obtain ⟨c10, _⟩ := one_facts hst.b10
  obtain ⟨c11, _⟩ := one_facts hst.b11
  clear hst
  go_wp2_with fail
  have HK : Hid (∀ {wx : World}, Below w9.heap.size w9 wx → St w wx gm g8 g10 g11 g8 g5 g11 _ _ _ _ _ _ _) := fun hb => HST.out.next hb
  have HKc : Hid (∀ {wx : World}, Below w9.heap.size w9 wx → wx.cell? ⟨g10, 0, none⟩ = some (.slice (some ⟨g5, 0, none⟩) n n) ∧ wx.cell? ⟨gm, 0, none⟩ = some (.slice a n c)) := fun hb => ⟨(one_facts (HK.out hb).b10).1, (one_facts (HK.out hb).m).1⟩
  refine wp_region_held_drew (S := fun wx => wx.cell? ⟨g10, 0, none⟩ = some (.slice (some ⟨g5, 0, none⟩) n n) ∧ wx.cell? ⟨gm, 0, none⟩ = some (.slice a n c)) (by kernel_rfl) (HKc.out (Below.refl _ _).drew) (fun hHeld => ?_)
  have hB0 : Below w9.heap.size w9 w9.drew := (Below.refl _ _).drew
  generalize w9.drew = wS at hB0 hHeld ⊢
  refine wpAnyH_take (i := 0) (oi := ?o506) (v := ?v506) ?i506 (by kernel_rfl) (by kernel_rfl) (by kernel_rfl) ?q506 ?y506 (hHeld) ?r506
  case i506 => exact rfl
  case q506 => exact (fun _ _ _ h => h)
  case y506 =>
    refine Or.inl ⟨by rfl, ?_⟩
    intro w hSw
    (try dsimp only at hSw)
    go_simp
    first | done | rfl
  try simp only [Act.put, List.getElem_toArray, List.getElem_cons_zero, List.getElem_cons_succ, List.setIfInBounds_toArray, List.set_cons_zero, List.set_cons_succ]
  refine wpAnyH_take (i := 1) (oi := ?o507) (v := ?v507) ?i507 (by kernel_rfl) (by kernel_rfl) (by kernel_rfl) ?q507 ?y507 (hHeld) ?r507
  case i507 => exact rfl
  case q507 => exact (fun _ _ _ h => h)
  case y507 =>
    refine Or.inl ⟨by rfl, ?_⟩
    intro w hSw
    (try dsimp only at hSw)
    go_simp
    first | done | rfl
  try simp only [Act.put, List.getElem_toArray, List.getElem_cons_zero, List.getElem_cons_succ, List.setIfInBounds_toArray, List.set_cons_zero, List.set_cons_succ]
  refine wpAnyH_ready (rs := [2]) (by kernel_rfl) (by simp) ?_
  refine AllReadyH.cons (i := 2) (o := ?o508) ?i508 (fun K hK => ?_) AllReadyH.nil
  case i508 => exact rfl
  go_simp
  (with_reducible refine (toM a n c l wS (Hh.out.below (HK.out hB0).below) hn).mono ?_)
  rintro e w10 ⟨ga, rfl, hga, hWa, hb10⟩
  have hB10 := hB0.trans (hb10.mono hB0.size)
  go_wp2_with fail
  refine hK.out _ _ (HKc.out hB10) (fun hHeld => ?_)
  clear hK K
  try simp only [Act.put, List.getElem_toArray, List.getElem_cons_zero, List.getElem_cons_succ, List.setIfInBounds_toArray, List.set_cons_zero, List.set_cons_succ]
  refine wpAnyH_ready (rs := [3]) (by kernel_rfl) (by simp) ?_
  refine AllReadyH.cons (i := 3) (o := ?o509) ?i509 (fun K hK => ?_) AllReadyH.nil
  case i509 => exact rfl
  go_simp
  (with_reducible refine (eqM (some ⟨g5, 0, none⟩) n n l (some ⟨ga, 0, none⟩) n w10 (WB.row (wb (HK.out hB10).b5) Hl.out) (hWa.row Hl.out) hn).mono ?_)
  rintro e w11 ⟨rfl, hb11⟩
  have hB11 := hB10.trans (hb11.mono hB10.size)
  go_wp2_with fail
  refine hK.out _ _ (HKc.out hB11) (fun hHeld => ?_)
  clear hK K
  try simp only [Act.put, List.getElem_toArray, List.getElem_cons_zero, List.getElem_cons_succ, List.setIfInBounds_toArray, List.set_cons_zero, List.set_cons_succ]
  refine wpAnyH_take (i := 4) (oi := ?o510) (v := ?v510) ?i510 (by kernel_rfl) (by kernel_rfl) (by kernel_rfl) ?q510 ?y510 (hHeld) ?r510
  case i510 => exact rfl
  case q510 => exact (fun _ _ _ h => h)
  case y510 =>
    refine Or.inl ⟨by rfl, ?_⟩
    intro w hSw
    (try dsimp only at hSw)
    go_simp
    first | done | rfl
  try simp only [Act.put, List.getElem_toArray, List.getElem_cons_zero, List.getElem_cons_succ, List.setIfInBounds_toArray, List.set_cons_zero, List.set_cons_succ]
  refine wpAnyH_done (by kernel_rfl) ?_ _
  have hst := HK.out hB11
  clear HST cm c8 c10 c11 HK HKc hB0 hb10 hB10 hb11 hB11 hHeld hWa hga
  have HST : Hid _ := hst
  clear hst
  have hst := HST.out
  obtain ⟨cm, _⟩ := one_facts hst.m
  obtain ⟨c8, _⟩ := one_facts hst.b8
  obtain ⟨c10, _⟩ := one_facts hst.b10
  obtain ⟨c11, _⟩ := one_facts hst.b11
  clear hst
  go_wp2_with fail
  refine (markM g5 n n l w11 (show WB w11 g5 l from HST.out.b5) Hl.out hn).mono ?_
  rintro e w12 ⟨rfl, hW12, hbut12⟩
  have hst := HST.out.but5 hbut12 hW12 (by rw [Hg.out]; omega) (by omega) (by omega) (by omega) (by omega) (by omega) (by omega)
  clear HST cm c8 c10 c11 hbut12 hW12
  have HST : Hid _ := hst
  clear hst
  have hpos : ¬ (1 + 7 * (n : Int) < 0) := by omega
  have hst := HST.out
  obtain ⟨cm, _⟩ := one_facts hst.m
  obtain ⟨c8, _⟩ := one_facts hst.b8
  obtain ⟨c10, _⟩ := one_facts hst.b10
  obtain ⟨c11, _⟩ := one_facts hst.b11
  clear hst
  go_wp2_with fail
  refine (eqM none 0 0 [] none 0 w12 (nil_row _) (nil_row _) (by omega)).mono ?_
  rintro e w13 ⟨rfl, hb_w13⟩
  have hst := HST.out.next hb_w13
  clear HST cm c8 c10 c11 hb_w13
  have HST : Hid _ := hst
  clear hst
  have hst := HST.out
  obtain ⟨cm, _⟩ := one_facts hst.m
  obtain ⟨c8, _⟩ := one_facts hst.b8
  obtain ⟨c10, _⟩ := one_facts hst.b10
  obtain ⟨c11, _⟩ := one_facts hst.b11
  clear hst
  go_wp2_with fail
  refine (markM0 none 0 w13).mono ?_
  rintro e w14 ⟨rfl, o14, rfl⟩
  have hb_w14 : Below w13.heap.size w13 (w13.alloc o14) := (Below.refl _ _).alloc (Nat.le_refl _) _
  generalize w13.alloc o14 = w14 at hb_w14 ⊢
  have hst := HST.out.next hb_w14
  clear HST cm c8 c10 c11 hb_w14
  have HST : Hid _ := hst
  clear hst
  have hst := HST.out
  obtain ⟨cm, _⟩ := one_facts hst.m
  obtain ⟨c8, _⟩ := one_facts hst.b8
  obtain ⟨c10, _⟩ := one_facts hst.b10
  obtain ⟨c11, _⟩ := one_facts hst.b11
  clear hst
  go_wp2_with fail
  refine (heldM0 none 0 w14).mono ?_
  rintro e w15 ⟨rfl, o15, rfl⟩
  have hb_w15 : Below w14.heap.size w14 (w14.alloc o15) := (Below.refl _ _).alloc (Nat.le_refl _) _
  generalize w14.alloc o15 = w15 at hb_w15 ⊢
  have hst := HST.out.next hb_w15
  clear HST cm c8 c10 c11 hb_w15
  have HST : Hid _ := hst
  clear hst
  have hst := HST.out
  obtain ⟨cm, _⟩ := one_facts hst.m
  obtain ⟨c8, _⟩ := one_facts hst.b8
  obtain ⟨c10, _⟩ := one_facts hst.b10
  obtain ⟨c11, _⟩ := one_facts hst.b11
  clear hst
  go_wp2_with fail
  refine (toM a n c l w15 (Hh.out.below HST.out.below) hn).mono ?_
  rintro e w16 ⟨gb, rfl, hgb, hW16, hb_w16⟩
  have hst := HST.out.next hb_w16
  clear HST cm c8 c10 c11 hb_w16
  have HST : Hid _ := hst
  clear hst
  have hst := HST.out
  obtain ⟨cm, _⟩ := one_facts hst.m
  obtain ⟨c8, _⟩ := one_facts hst.b8
  obtain ⟨c10, _⟩ := one_facts hst.b10
  obtain ⟨c11, _⟩ := one_facts hst.b11
  clear hst
  go_wp2_with fail
  refine (implClearNo ⟨gb, 0, none⟩ n n l lo hi w16 (hW16.row Hl.out) hn h64.out hc).mono ?_
  rintro e w17 ⟨rfl, hb_w17⟩
  have hst := HST.out.next hb_w17
  clear HST cm c8 c10 c11 hb_w17
  have HST : Hid _ := hst
  clear hst
  go_upto_region 25 with fail
  obtain ⟨w18, e18⟩ : ∃ x, x = w17.alloc (.cells #[.slice none 0 0] 28) := ⟨_, rfl⟩
  have hb_w18 : Below w17.heap.size w17 w18 := by rw [e18]; exact (Below.refl _ _).alloc (Nat.le_refl _) _
  have h16 := heap_alloc_new w17 (.cells #[.slice none 0 0] 28)
  rw [← e18] at h16 ⊢
  obtain ⟨c16, _⟩ := one_facts h16
  have hst := HST.out.next hb_w18
  clear HST hb_w18 e18 h16 hW16
  generalize w17.heap.size = g16 at *
  have HST : Hid _ := hst
  clear hst
  have hst := HST.out
  obtain ⟨cm, _⟩ := one_facts hst.m
  obtain ⟨c8, _⟩ := one_facts hst.b8
  obtain ⟨c10, _⟩ := one_facts hst.b10
  obtain ⟨c11, _⟩ := one_facts hst.b11
  clear hst
  go_wp2_with fail
  refine (eqM none 0 0 [] none 0 w18 (nil_row _) (nil_row _) (by omega)).mono ?_
  rintro e w19 ⟨rfl, hb_w19⟩
  have hst := HST.out.next hb_w19
  clear HST cm c8 c10 c11 hb_w19
  have HST : Hid _ := hst
  clear hst
  have hst := HST.out
  obtain ⟨cm, _⟩ := one_facts hst.m
  obtain ⟨c8, _⟩ := one_facts hst.b8
  obtain ⟨c10, _⟩ := one_facts hst.b10
  obtain ⟨c11, _⟩ := one_facts hst.b11
  clear hst
  go_wp2_with fail
  refine (heldM0 none 0 w19).mono ?_
  rintro e w20 ⟨rfl, o20, rfl⟩
  have hbl := HST.out.below.trans (((Below.refl w19.heap.size w19).alloc (Nat.le_refl _) o20).mono HST.out.below.size)
  generalize w19.alloc o20 = w20 at hbl ⊢
  go_wp2_with fail
  go_ret
  exact ⟨rfl, hbl⟩

set_option maxRecDepth 100000 in
set_option maxHeartbeats 4000000 in
theorem clear_walk (w : World) (a : Option Addr) (n c : Nat) (l : List Wd) (hnc : n ≤ c) (hcm : c ≤ maxLen) (h : WRow w a n l) (hf : ∀ x ∈ l, FitsW x) {Q1 Q2 : Prop} (lo : Int) (_ : Q1) (hi : Int) (_ : Q2) :
    Calls Try.prog 3 #[.agg #[.slice a n c], .int .i64 lo, .int .i64 hi] w fun e w' => e = .returned (.bool true) ∧ Below w.heap.size w w' := by
  by_cases hn : n ≤ 1048576
  · cases hc : clrB l lo hi
    · exact clear_no w a n c l h hf lo hi hc hn
    · obtain ⟨hm, x, y, rfl, rfl, h1, h2⟩ := clrB_yes hc
      rw [h.1] at h2
      exact clear_yes w a n c l h hf x y hm h1 h2 hn
  · have hn0 : n ≤ 9223372036854775807 := by unfold maxLen at hcm; omega
    have Hsz := fun w => szM a n c 1048576 w rfl hn0
    simp only [if_neg hn] at Hsz
    clear h hf hcm hnc
    go_enter Try.func3, Try.ntmps3
    go_wp2_with fail
    refine (Hsz _).mono ?_
    rintro e w1 ⟨rfl, o1, rfl⟩
    clear Hsz
    go_wp2_with fail
    go_ret
    exact ⟨rfl, ((Below.refl _ _).alloc (Nat.le_refl _) _).alloc (by simp) _⟩
end Go.Proofs.Ytchchigiafacbab

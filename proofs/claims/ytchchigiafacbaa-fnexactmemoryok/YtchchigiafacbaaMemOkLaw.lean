/- The law of MemoryOk returns true at every memory, and writes nothing that was there. -/
import Derived.Test.YtchchigiafacbaaMemImpl
import Derived.Test.YtchchigiafacbaaMemOpen
namespace Go.Proofs.Ytchchigiafacbaa
open Go.RowKit
set_option linter.unusedVariables false
set_option linter.unusedSimpArgs false

theorem WRow.drew {w : World} {a : Option Addr} {n : Nat} {l : List Wd} (h : WRow w a n l) : WRow w.drew a n l :=
  ⟨h.1, fun hn => by obtain ⟨b, off, e, hc⟩ := h.2 hn; exact ⟨b, off, e, fun k v hv => hc k v hv⟩⟩

theorem WRow.len {w : World} {a : Option Addr} {n : Nat} {l : List Wd} (h : WRow w a n l) : l.length = n := h.1

theorem in64W {n : Int} (h : (Lit.int .i64 n).wf = true) : In64 n := by
  have := (bounds_i64 h); exact ⟨this.1, this.2⟩

set_option maxRecDepth 100000 in
set_option maxHeartbeats 4000000 in
theorem memok_walk (w : World) (a : Option Addr) (n c : Nat) (l : List Wd) (hnc : n ≤ c) (hcm : c ≤ maxLen) (h : WRow w a n l) (hf : ∀ x ∈ l, FitsW x) :
    Calls Try.prog 4 #[.agg #[.slice a n c]] w fun e w' => e = .returned (.bool true) ∧ Below w.heap.size w w' := by
  have hn0 : n ≤ 9223372036854775807 := by unfold maxLen at hcm; omega
  have Hsz := fun w => szM a n c 1048576 w rfl hn0
  have h64 : ∀ x ∈ l, In64 x.s := fun x hx => in64W (hf x hx).2.2.2.2.2
  clear hcm hf
  by_cases hn : n ≤ 1048576
  · simp only [if_pos hn] at Hsz
    go_enter Try.func4, Try.ntmps4
    go_wp2_with fail
    refine (Hsz _).mono ?_
    rintro e w1 ⟨rfl, o1, rfl⟩
    obtain ⟨w1, e1⟩ : ∃ w1, w1 = (w.alloc (.cells #[.slice a n c] 36)).alloc o1 := ⟨_, rfl⟩
    have hb1 : Below w.heap.size w w1 := by rw [e1]; exact (by repeat (first | exact Below.refl _ _ | assumption | (refine below_drewN ?_ _) | apply Below.drew | (refine Below.alloc ?_ ?_ _) | (refine Below.setCell ?_ ?_ _) | omega | (simp; omega) | simp))
    have hs1 : w.heap.size < w1.heap.size := by rw [e1]; simp; omega
    have cm1 : w1.cell? ⟨w.heap.size, 0, none⟩ = some (.slice a n c) := by rw [e1, cell_alloc_old _ _ (by simp)]; simp [go_sem]
    rw [← e1]
    clear e1 Hsz
    have hlt : ¬ ((1048576 : Int) - (n : Int) < 0) := by omega
    go_wp2_with fail
    refine (toM a n c l w1 (h.below hb1) hn).mono ?_
    rintro e w2 ⟨g2, rfl, hg2, hW2, hb2⟩
    have cm2 : w2.cell? ⟨w.heap.size, 0, none⟩ = some (.slice a n c) := (hb2.cell hs1).trans cm1
    have hs2 : w.heap.size < w2.heap.size := Nat.lt_of_lt_of_le hs1 hb2.size
    replace hb2 : Below w.heap.size w w2 := hb1.trans (hb2.mono hb1.size)
    clear cm1
    go_wp2_with fail
    refine (specMemM _ n n l w2 (hW2.row h.1) hn).mono ?_
    rintro e w3 ⟨rfl, hb3⟩
    have cm3 : w3.cell? ⟨w.heap.size, 0, none⟩ = some (.slice a n c) := (hb3.cell hs2).trans cm2
    have hs3 : w.heap.size < w3.heap.size := Nat.lt_of_lt_of_le hs2 hb3.size
    replace hb3 : Below w.heap.size w w3 := hb2.trans (hb3.mono hb2.size)
    clear cm2
    go_wp2_with fail
    refine (toM a n c l w3 (h.below hb3) hn).mono ?_
    rintro e w4 ⟨g4, rfl, hg4, hW4, hb4⟩
    have cm4 : w4.cell? ⟨w.heap.size, 0, none⟩ = some (.slice a n c) := (hb4.cell hs3).trans cm3
    have hs4 : w.heap.size < w4.heap.size := Nat.lt_of_lt_of_le hs3 hb4.size
    replace hb4 : Below w.heap.size w w4 := hb3.trans (hb4.mono hb3.size)
    clear cm3
    go_wp2_with fail
    obtain ⟨w5, e5⟩ : ∃ w5, w5 = w4.alloc (.cells #[.slice (some ⟨g4, 0, none⟩) n n] 25) := ⟨_, rfl⟩
    have hb45 : Below w4.heap.size w4 w5 := by rw [e5]; exact (by repeat (first | exact Below.refl _ _ | assumption | (refine below_drewN ?_ _) | apply Below.drew | (refine Below.alloc ?_ ?_ _) | (refine Below.setCell ?_ ?_ _) | omega | (simp; omega) | simp))
    have cm5 : w5.cell? ⟨w.heap.size, 0, none⟩ = some (.slice a n c) := (hb45.cell hs4).trans cm4
    have hs5 : w.heap.size < w5.heap.size := Nat.lt_of_lt_of_le hs4 hb45.size
    have hb5 : Below w.heap.size w w5 := hb4.trans (hb45.mono hb4.size)
    have cx5 : w5.cell? ⟨w4.heap.size, 0, none⟩ = some (.slice (some ⟨g4, 0, none⟩) n n) := by rw [e5]; simp [go_sem]
    have hx5 : w4.heap.size < w5.heap.size := by rw [e5]; simp
    have hr5 : WRow w5 (some ⟨g4, 0, none⟩) n l := WRow.below (hW4.row h.1) hb45
    rw [← e5]
    clear e5 cm4 hb45 hW4 hW2
    generalize w4.heap.size = gx at *
    have Hh : Hid (WRow w a n l) := h
    have H5 : Hid (WRow w5 (some ⟨g4, 0, none⟩) n l) := hr5
    refine (implMemM _ n n l w5 hr5 h64 hn).mono ?_
    rintro e w6 ⟨rfl, hb6⟩
    have cm6 : w6.cell? ⟨w.heap.size, 0, none⟩ = some (.slice a n c) := (hb6.cell hs5).trans cm5
    have cx6 : w6.cell? ⟨gx, 0, none⟩ = some (.slice (some ⟨g4, 0, none⟩) n n) := (hb6.cell hx5).trans cx5
    have H6 : Hid (WRow w6 (some ⟨g4, 0, none⟩) n l) := WRow.below hr5 hb6
    have hs6 : w.heap.size < w6.heap.size := Nat.lt_of_lt_of_le hs5 hb6.size
    have hx6 : gx < w6.heap.size := Nat.lt_of_lt_of_le hx5 hb6.size
    replace hb6 : Below w.heap.size w w6 := hb5.trans (hb6.mono hb5.size)
    clear cm5 cx5 h hr5 H5
    go_wp2_with fail
    have HS0 : w6.drew.cell? ⟨w.heap.size, 0, none⟩ = some (.slice a n c) ∧ w6.drew.cell? ⟨gx, 0, none⟩ = some (.slice (some ⟨g4, 0, none⟩) n n) := ⟨cm6, cx6⟩
    refine wp_region_held_drew (S := fun wx => wx.cell? ⟨w.heap.size, 0, none⟩ = some (.slice a n c) ∧ wx.cell? ⟨gx, 0, none⟩ = some (.slice (some ⟨g4, 0, none⟩) n n)) (by kernel_rfl) HS0 (fun hHeld => ?_)
    refine wpAnyH_take (i := 0) (oi := ?o1) (v := ?v1) ?i1 (by kernel_rfl) (by kernel_rfl) (by kernel_rfl) ?q1 ?y1 (hHeld) ?r1
    case i1 => exact rfl
    case q1 => exact (fun _ _ _ h => h)
    case y1 =>
      refine Or.inl ⟨by rfl, ?_⟩
      intro w hSw
      (try dsimp only at hSw)
      go_simp
      first | done | rfl
    try simp only [Act.put, List.getElem_toArray, List.getElem_cons_zero, List.getElem_cons_succ, List.setIfInBounds_toArray, List.set_cons_zero, List.set_cons_succ]
    refine wpAnyH_take (i := 1) (oi := ?o2) (v := ?v2) ?i2 (by kernel_rfl) (by kernel_rfl) (by kernel_rfl) ?q2 ?y2 (hHeld) ?r2
    case i2 => exact rfl
    case q2 => exact (fun _ _ _ h => h)
    case y2 =>
      refine Or.inl ⟨by rfl, ?_⟩
      intro w hSw
      (try dsimp only at hSw)
      go_simp
      first | done | rfl
    try simp only [Act.put, List.getElem_toArray, List.getElem_cons_zero, List.getElem_cons_succ, List.setIfInBounds_toArray, List.set_cons_zero, List.set_cons_succ]
    refine wpAnyH_ready (rs := [2]) (by kernel_rfl) (by simp) ?_
    refine AllReadyH.cons (i := 2) (o := ?o3) ?i3 (fun K hK => ?_) AllReadyH.nil
    case i3 => exact rfl
    go_simp
    (with_reducible refine (toM a n c l w6.drew (WRow.below (show WRow w a n l from Hh.out) hb6.drew) hn).mono ?_)
    rintro e w7 ⟨g7, rfl, hg7, hW7, hb7⟩
    have HS7 : w7.cell? ⟨w.heap.size, 0, none⟩ = some (.slice a n c) ∧ w7.cell? ⟨gx, 0, none⟩ = some (.slice (some ⟨g4, 0, none⟩) n n) := ⟨(hb7.cell hs6).trans cm6, (hb7.cell hx6).trans cx6⟩
    go_wp2_with fail
    refine hK.out _ _ (HS7) (fun hHeld => ?_)
    clear hK K
    try simp only [Act.put, List.getElem_toArray, List.getElem_cons_zero, List.getElem_cons_succ, List.setIfInBounds_toArray, List.set_cons_zero, List.set_cons_succ]
    refine wpAnyH_ready (rs := [3]) (by kernel_rfl) (by simp) ?_
    refine AllReadyH.cons (i := 3) (o := ?o4) ?i4 (fun K hK => ?_) AllReadyH.nil
    case i4 => exact rfl
    go_simp
    (with_reducible refine (eqM (some ⟨g4, 0, none⟩) n n l (some ⟨g7, 0, none⟩) n w7 (WRow.below (WRow.drew H6.out) hb7) (hW7.row (WRow.len Hh.out)) hn).mono ?_)
    rintro e w8 ⟨rfl, hb8⟩
    have hs7 : w.heap.size < w7.heap.size := Nat.lt_of_lt_of_le hs6 hb7.size
    have hx7 : gx < w7.heap.size := Nat.lt_of_lt_of_le hx6 hb7.size
    have HS8 : w8.cell? ⟨w.heap.size, 0, none⟩ = some (.slice a n c) ∧ w8.cell? ⟨gx, 0, none⟩ = some (.slice (some ⟨g4, 0, none⟩) n n) := ⟨(hb8.cell hs7).trans ((hb7.cell hs6).trans cm6), (hb8.cell hx7).trans ((hb7.cell hx6).trans cx6)⟩
    go_wp2_with fail
    refine hK.out _ _ (HS8) (fun hHeld => ?_)
    clear hK K
    try simp only [Act.put, List.getElem_toArray, List.getElem_cons_zero, List.getElem_cons_succ, List.setIfInBounds_toArray, List.set_cons_zero, List.set_cons_succ]
    refine wpAnyH_take (i := 4) (oi := ?o5) (v := ?v5) ?i5 (by kernel_rfl) (by kernel_rfl) (by kernel_rfl) ?q5 ?y5 (hHeld) ?r5
    case i5 => exact rfl
    case q5 => exact (fun _ _ _ h => h)
    case y5 =>
      refine Or.inl ⟨by rfl, ?_⟩
      intro w hSw
      (try dsimp only at hSw)
      go_simp
      first | done | rfl
    try simp only [Act.put, List.getElem_toArray, List.getElem_cons_zero, List.getElem_cons_succ, List.setIfInBounds_toArray, List.set_cons_zero, List.set_cons_succ]
    refine wpAnyH_done (by kernel_rfl) ?_ _
    have hb9 : Below w.heap.size w w8 := (hb6.drew.trans (hb7.mono hb6.size)).trans (hb8.mono (Nat.le_of_lt hs7))
    go_wp2_with fail
    go_ret
    exact ⟨rfl, hb9⟩
  · simp only [if_neg hn] at Hsz
    go_enter Try.func4, Try.ntmps4
    go_wp2_with fail
    refine (Hsz _).mono ?_
    rintro e w1 ⟨rfl, o1, rfl⟩
    clear Hsz
    go_wp2_with fail
    go_ret
    exact ⟨rfl, (by repeat (first | exact Below.refl _ _ | assumption | (refine below_drewN ?_ _) | apply Below.drew | (refine Below.alloc ?_ ?_ _) | (refine Below.setCell ?_ ?_ _) | omega | (simp; omega) | simp))⟩
end Go.Proofs.Ytchchigiafacbaa

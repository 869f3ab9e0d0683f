/- Contracts of the laws' own helpers over memories: how large, a copy, a comparison. -/
import Derived.Test.YtchchigiafacbaaDoorMemLaw
namespace Go.Proofs.YtchchigiafacbaaDoor
open Go.RowKit
set_option linter.unusedVariables false

theorem szS (a : Option Addr) (n c : Nat) (k : Int) (w : World) (hk : k = 1048576) (hn : n ≤ 9223372036854775807) :
    Calls Tryd.prog 45 #[.slice a n c, .int .i64 k] w fun e w' => e = .returned (.int .i64 (if n ≤ 1048576 then 1048576 - (n : Int) else -1)) ∧ w' = w := by
  subst hk
  by_cases h : n ≤ 1048576
  · rw [if_pos h]
    go_enter Tryd.func45, Tryd.ntmps45
    go_wp2
    go_ret
    exact ⟨rfl, rfl⟩
  · rw [if_neg h]
    go_enter Tryd.func45, Tryd.ntmps45
    go_wp2
    go_ret
    exact ⟨rfl, rfl⟩

set_option maxHeartbeats 2000000 in
theorem szM (a : Option Addr) (n c : Nat) (k : Int) (w : World) (hk : k = 1048576) (hn : n ≤ 9223372036854775807) :
    Calls Tryd.prog 18 #[.agg #[.slice a n c], .int .i64 k] w fun e w' => e = .returned (.int .i64 (if n ≤ 1048576 then 1048576 - (n : Int) else -1)) ∧ ∃ o, w' = w.alloc o := by
  have H := fun w => szS a n c k w hk hn
  subst hk
  by_cases h : n ≤ 1048576
  · simp only [if_pos h] at H ⊢
    go_enter Tryd.func18, Tryd.ntmps18
    go_wp2_with fail
    refine (H _).mono ?_
    rintro e w1 ⟨rfl, rfl⟩
    clear H
    go_wp2
    go_ret
    exact ⟨rfl, _, rfl⟩
  · simp only [if_neg h] at H ⊢
    go_enter Tryd.func18, Tryd.ntmps18
    go_wp2_with fail
    refine (H _).mono ?_
    rintro e w1 ⟨rfl, rfl⟩
    clear H
    go_wp2
    go_ret
    exact ⟨rfl, _, rfl⟩

theorem one_facts {w : World} {k : Nat} {t : TypeId} {u : Value} (h : w.heap[k]? = some (.cells #[u] t (0, 0))) : w.cell? ⟨k, 0, none⟩ = some u ∧ w.frozen? ⟨k, 0, none⟩ = false :=
  ⟨by rw [cell_of_row w k 0 _ _ (0, 0) h]; rfl, frozen_of_row w k 0 _ _ h⟩

set_option maxRecDepth 100000 in
set_option maxHeartbeats 2000000 in
theorem toM (a : Option Addr) (n c : Nat) (l : List Wd) (w : World) (h : WRow w a n l) (hn : n ≤ 1048576) :
    Calls Tryd.prog 20 #[.agg #[.slice a n c]] w fun e w' => ∃ g, e = .returned (.agg #[.slice (some ⟨g, 0, none⟩) n n]) ∧ w.heap.size ≤ g ∧ WB w' g l ∧ Below w.heap.size w w' := by
  go_enter Tryd.func20, Tryd.ntmps20
  go_wp2_with fail
  have hB0 : Below w.heap.size w (((w.alloc (.cells #[.slice a n c] 46)).alloc (.cells #[.slice none 0 0] 33)).alloc (.cells #[.slice none 0 0] 33)) := (by repeat (first | exact Below.refl _ _ | assumption | (refine below_drewN ?_ _) | apply Below.drew | (refine Below.alloc ?_ ?_ _) | (refine Below.setCell ?_ ?_ _) | omega | (simp; omega) | simp))
  have hz1 : (((w.alloc (.cells #[.slice a n c] 46)).alloc (.cells #[.slice none 0 0] 33)).alloc (.cells #[.slice none 0 0] 33)).heap[w.heap.size + 1]? = some (.cells #[.slice none 0 0] 33 (0, 0)) := by
    rw [old_block (by simp)]
    have := heap_alloc_new (w.alloc (.cells #[.slice a n c] 46)) (.cells #[.slice none 0 0] 33)
    simpa using this
  have hz2 : (((w.alloc (.cells #[.slice a n c] 46)).alloc (.cells #[.slice none 0 0] 33)).alloc (.cells #[.slice none 0 0] 33)).heap[w.heap.size + 2]? = some (.cells #[.slice none 0 0] 33 (0, 0)) := by
    have := heap_alloc_new ((w.alloc (.cells #[.slice a n c] 46)).alloc (.cells #[.slice none 0 0] 33)) (.cells #[.slice none 0 0] 33)
    simpa using this
  have hsz : (((w.alloc (.cells #[.slice a n c] 46)).alloc (.cells #[.slice none 0 0] 33)).alloc (.cells #[.slice none 0 0] 33)).heap.size = w.heap.size + 3 := by simp
  refine (toWS a n c l _ (h.below hB0) hn).mono ?_
  rintro e w1 ⟨rfl, hw1, hb1⟩
  rw [hsz] at hw1 hb1 ⊢
  have hy1 := (hb1.block (w.heap.size + 1) (by omega)).trans hz1
  have hy2 := (hb1.block (w.heap.size + 2) (by omega)).trans hz2
  have hB1 : Below w.heap.size w w1 := hB0.trans (hb1.mono (by omega))
  obtain ⟨c1, f1⟩ := one_facts hy1
  obtain ⟨c2, f2⟩ := one_facts hy2
  clear hB0 hz1 hz2 hsz hb1 h
  go_wp2_with fail
  have hwW : WB ((w1.setCell ⟨w.heap.size + 1 + 1, 0, none⟩ (.slice (some ⟨w.heap.size + 3, 0, none⟩) n n)).setCell ⟨w.heap.size + 1, 0, none⟩ (.slice (some ⟨w.heap.size + 3, 0, none⟩) n n)) (w.heap.size + 3) l := (hw1.other (by omega)).other (by omega)
  have hBW : Below w.heap.size w ((w1.setCell ⟨w.heap.size + 1 + 1, 0, none⟩ (.slice (some ⟨w.heap.size + 3, 0, none⟩) n n)).setCell ⟨w.heap.size + 1, 0, none⟩ (.slice (some ⟨w.heap.size + 3, 0, none⟩) n n)) := (hB1.setCell (by simp; omega) _).setCell (by simp) _
  have hyW := heap_setCell_same (w1.setCell ⟨w.heap.size + 1 + 1, 0, none⟩ (.slice (some ⟨w.heap.size + 3, 0, none⟩) n n)) (w.heap.size + 1) 0 _ _ (.slice (some ⟨w.heap.size + 3, 0, none⟩) n n) ((heap_setCell_other w1 ⟨w.heap.size + 1 + 1, 0, none⟩ (w.heap.size + 1) _ (by simp)).trans hy1)
  obtain ⟨d, _⟩ := one_facts (show _ = some (Obj.cells #[.slice (some ⟨w.heap.size + 3, 0, none⟩) n n] 33 (0, 0)) from hyW)
  generalize (w1.setCell ⟨w.heap.size + 1 + 1, 0, none⟩ (.slice (some ⟨w.heap.size + 3, 0, none⟩) n n)).setCell ⟨w.heap.size + 1, 0, none⟩ (.slice (some ⟨w.heap.size + 3, 0, none⟩) n n) = W at hwW hBW d ⊢
  refine bodyPost_ret (v := .agg #[.slice (some ⟨w.heap.size + 3, 0, none⟩) n n]) (by simp [results, Tryd.results20, go_sem, d]) rfl ⟨_, rfl, by omega, hwW, hBW⟩

set_option maxRecDepth 100000 in
set_option maxHeartbeats 2000000 in
theorem eqM (a1 : Option Addr) (n c1 : Nat) (l : List Wd) (a2 : Option Addr) (c2 : Nat) (w : World) (h1 : WRow w a1 n l) (h2 : WRow w a2 n l) (hn : n ≤ 1048576) :
    Calls Tryd.prog 23 #[.agg #[.slice a1 n c1], .agg #[.slice a2 n c2]] w fun e w' => e = .returned (.bool true) ∧ Below w.heap.size w w' := by
  go_enter Tryd.func23, Tryd.ntmps23
  go_wp2_with fail
  have hB : Below w.heap.size w ((w.alloc (.cells #[.slice a1 n c1] 33)).alloc (.cells #[.slice a2 n c2] 33)) := (by repeat (first | exact Below.refl _ _ | assumption | (refine below_drewN ?_ _) | apply Below.drew | (refine Below.alloc ?_ ?_ _) | (refine Below.setCell ?_ ?_ _) | omega | (simp; omega) | simp))
  refine (eqWS a1 n c1 l a2 c2 _ (h1.below hB) (h2.below hB) hn).mono ?_
  rintro e w1 ⟨rfl, hb1⟩
  have hB1 : Below w.heap.size w w1 := hB.trans (hb1.mono hB.size)
  clear hB hb1 h1 h2
  go_wp2_with fail
  go_ret
  exact ⟨rfl, hB1⟩
end Go.Proofs.YtchchigiafacbaaDoor

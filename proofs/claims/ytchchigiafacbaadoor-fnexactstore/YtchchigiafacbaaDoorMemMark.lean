/- Marks laid into a row of words, and found there; words of a memory cleared. -/
import Derived.Test.YtchchigiafacbaaDoorCopyW
import Derived.Laws.AppendOwnNone
import Derived.Deep.Cut
namespace Go.Proofs.YtchchigiafacbaaDoor
open Go.RowKit
set_option linter.unusedVariables false
set_option linter.unusedSimpArgs false

/-- Nothing that was there has turned but block g. -/
structure But (w w' : World) (g : Nat) : Prop where
  below : Below g w w'
  rest : ∀ k, k < w.heap.size → k ≠ g → w'.heap[k]? = w.heap[k]?

theorem But.refl (w : World) (g : Nat) : But w w g := ⟨Below.refl _ _, fun _ _ _ => rfl⟩
theorem But.trans {w w1 w2 : World} {g : Nat} (h1 : But w w1 g) (h2 : But w1 w2 g) : But w w2 g :=
  ⟨h1.below.trans h2.below, fun k hk hne => (h2.rest k (Nat.lt_of_lt_of_le hk h1.below.size) hne).trans (h1.rest k hk hne)⟩
theorem But.set {w w1 : World} {g : Nat} (h : But w w1 g) (i : Nat) (v : Value) : But w (w1.setCell ⟨g, i, none⟩ v) g :=
  ⟨h.below.setCell (Nat.le_refl _) _, fun k hk hne => (heap_setCell_other w1 ⟨g, i, none⟩ k v hne).trans (h.rest k hk hne)⟩

/-- The marks: word number i from k on. -/
def markW (k : Int) : Wd := ⟨k % 3 == 0, k + 1, k + 2, k + 3, k + 4, k + 5, k + 6⟩
def marks (n : Nat) : List Wd := (List.range n).map fun (i : Nat) => markW (1 + 7 * (i : Int))

theorem marks_at {n i : Nat} (h : i < n) : (marks n)[i]? = some (markW (1 + 7 * (i : Int))) := by
  simp [marks, h]

theorem marks_step (l : List Wd) (n i : Nat) (hl : l.length = n) (h : i < n) : ((marks n).take i ++ l.drop i).set i (markW (1 + 7 * (i : Int))) = (marks n).take (i + 1) ++ l.drop (i + 1) :=
  wtake_set _ _ _ _ (marks_at h) (by omega)

theorem marks_all (l : List Wd) (n : Nat) (hl : l.length = n) : (marks n).take n ++ l.drop n = marks n := by
  rw [List.take_of_length_le (by simp [marks]), List.drop_of_length_le (by omega), List.append_nil]

set_option maxRecDepth 100000 in
set_option maxHeartbeats 4000000 in
theorem markS (g n c : Nat) (l : List Wd) (w : World) (h : WB w g l) (hl : l.length = n) (hn : n ≤ 1048576) :
    Calls Tryd.prog 51 #[.slice (some ⟨g, 0, none⟩) n c, .int .i64 1] w fun e w' => e = .returned (.int .i64 (1 + 7 * (n : Int))) ∧ WB w' g (marks n) ∧ But w w' g := by
  have Hl : Hid (l.length = n) := hl
  have H0 : Hid (WB w g ((marks n).take 0 ++ l.drop 0)) := by show WB _ _ _; simpa using h
  clear h hl
  go_enter Tryd.func51, Tryd.ntmps51
  go_wp2_with fail
  go_loopw [1, 5] (fun k i wr => ∃ j : Nat, j ≤ n ∧ i = .int .i64 j ∧ k = .int .i64 (1 + 7 * (j : Int)) ∧ Hid (WB wr g ((marks n).take j ++ l.drop j)) ∧ Hid (But w wr g)) (fun _ i _ => n - (intOf i).toNat)
  case atStart => exact ⟨0, Nat.zero_le _, rfl, rfl, H0, But.refl _ _⟩
  case round =>
    obtain ⟨j, hj, rfl, rfl, hw, hbut⟩ := hrel
    by_cases hlt : j < n
    · obtain ⟨y, hy⟩ : ∃ y, ((marks n).take j ++ l.drop j)[j]? = some y := ⟨_, List.getElem?_eq_getElem (by rw [List.length_append, List.length_take, List.length_drop, Hl.out]; simp [marks]; omega)⟩
      obtain ⟨c0, c1, c2, c3, c4, c5, c6⟩ := hw.out.word hy
      have f0 := hw.out.frozen (j * 7)
      have f1 := hw.out.frozen (j * 7 + 1)
      have f2 := hw.out.frozen (j * 7 + 2)
      have f3 := hw.out.frozen (j * 7 + 3)
      have f4 := hw.out.frozen (j * 7 + 4)
      have f5 := hw.out.frozen (j * 7 + 5)
      have f6 := hw.out.frozen (j * 7 + 6)
      clear hy
      go_wp2_with fail
      go_roundw
      case rel =>
        have hs := WB.set (k := j) hw.out (markW (1 + 7 * (j : Int))) (by rw [List.length_append, List.length_take, List.length_drop, Hl.out]; simp [marks]; omega)
        rw [marks_step l n j Hl.out hlt] at hs
        have hb := ((((((hbut.out.set (j * 7) (.bool ((1 + 7 * (j : Int)) % 3 == 0))).set (j * 7 + 1) (.int .i64 (1 + 7 * (j : Int) + 1))).set (j * 7 + 2) (.int .i64 (1 + 7 * (j : Int) + 2))).set (j * 7 + 3) (.int .i64 (1 + 7 * (j : Int) + 3))).set (j * 7 + 4) (.int .i64 (1 + 7 * (j : Int) + 4))).set (j * 7 + 5) (.int .i64 (1 + 7 * (j : Int) + 5))).set (j * 7 + 6) (.int .i64 (1 + 7 * (j : Int) + 6))
        exact ⟨j + 1, by omega, by go_num, by go_num, hs, hb⟩
      case measure => simp [intOf]; omega
    · have : j = n := by omega
      subst this
      go_wp2_with fail
      go_ret
      exact ⟨rfl, by have := hw.out; rwa [marks_all l j Hl.out] at this, hbut.out⟩

set_option maxRecDepth 100000 in
set_option maxHeartbeats 4000000 in
theorem heldS (g n c : Nat) (w : World) (h : WB w g (marks n)) (hn : n ≤ 1048576) :
    Calls Tryd.prog 52 #[.slice (some ⟨g, 0, none⟩) n c, .int .i64 1] w fun e w' => e = .returned (.int .i64 (1 + 7 * (n : Int))) ∧ w' = w := by
  have H0 : Hid (WB w g (marks n)) := h
  clear h
  go_enter Tryd.func52, Tryd.ntmps52
  go_wp2_with fail
  go_loop [1, 5] (fun k i => ∃ j : Nat, j ≤ n ∧ i = .int .i64 j ∧ k = .int .i64 (1 + 7 * (j : Int))) (fun _ i => n - (intOf i).toNat)
  case atStart => exact ⟨0, Nat.zero_le _, rfl, rfl⟩
  case round =>
    obtain ⟨j, hj, rfl, rfl⟩ := hrel
    by_cases hlt : j < n
    · obtain ⟨c0, c1, c2, c3, c4, c5, c6⟩ := H0.out.word (marks_at hlt)
      simp only [markW] at c0 c1 c2 c3 c4 c5 c6
      go_wp2_with fail
      go_round
      case rel => exact ⟨j + 1, by omega, by go_num, by go_num⟩
      case measure => simp [intOf]; omega
    · have : j = n := by omega
      subst this
      go_wp2_with fail
      go_ret
      exact ⟨rfl, rfl⟩

/-- Of no words: no mark. -/
theorem markS0 (a : Option Addr) (c : Nat) (w : World) :
    Calls Tryd.prog 51 #[.slice a 0 c, .int .i64 1] w fun e w' => e = .returned (.int .i64 1) ∧ w' = w := by
  go_enter Tryd.func51, Tryd.ntmps51
  go_wp2_with fail
  refine wp_loop_rounds 1 ?_
  rw [rounds_succ]
  go_wp2_with fail
  go_ret
  exact ⟨rfl, rfl⟩

theorem heldS0 (a : Option Addr) (c : Nat) (w : World) :
    Calls Tryd.prog 52 #[.slice a 0 c, .int .i64 1] w fun e w' => e = .returned (.int .i64 1) ∧ w' = w := by
  go_enter Tryd.func52, Tryd.ntmps52
  go_wp2_with fail
  refine wp_loop_rounds 1 ?_
  rw [rounds_succ]
  go_wp2_with fail
  go_ret
  exact ⟨rfl, rfl⟩

theorem But.alloc {w w1 : World} {g : Nat} {o : Obj} (h : But (w.alloc o) w1 g) (hg : g ≠ w.heap.size) (hlt : g < w.heap.size) : But w w1 g :=
  ⟨((Below.refl _ _).alloc (Nat.le_of_lt hlt) _).trans h.below, fun k hk hne => (h.rest k (by simp; omega) hne).trans (old_block hk)⟩

set_option maxRecDepth 100000 in
set_option maxHeartbeats 2000000 in
theorem markM (g n c : Nat) (l : List Wd) (w : World) (h : WB w g l) (hl : l.length = n) (hn : n ≤ 1048576) :
    Calls Tryd.prog 25 #[.agg #[.slice (some ⟨g, 0, none⟩) n c], .int .i64 1] w fun e w' => e = .returned (.int .i64 (1 + 7 * (n : Int))) ∧ WB w' g (marks n) ∧ But w w' g := by
  have hlt : g < w.heap.size := (Array.getElem?_eq_some_iff.1 h).1
  have H := markS g n c l (w.alloc (.cells #[.slice (some ⟨g, 0, none⟩) n c] 33)) ((old_block hlt).trans h) hl hn
  go_enter Tryd.func25, Tryd.ntmps25
  go_wp2_with fail
  refine H.mono ?_
  rintro e w1 ⟨rfl, hw1, hb1⟩
  have hb := hb1.alloc (Nat.ne_of_lt hlt) hlt
  clear H hb1
  go_wp2_with fail
  go_ret
  exact ⟨rfl, hw1, hb⟩

set_option maxRecDepth 100000 in
set_option maxHeartbeats 2000000 in
theorem heldM (g n c : Nat) (w : World) (h : WB w g (marks n)) (hn : n ≤ 1048576) :
    Calls Tryd.prog 26 #[.agg #[.slice (some ⟨g, 0, none⟩) n c], .int .i64 1] w fun e w' => e = .returned (.int .i64 (1 + 7 * (n : Int))) ∧ ∃ o, w' = w.alloc o := by
  have hlt : g < w.heap.size := (Array.getElem?_eq_some_iff.1 h).1
  have H := heldS g n c (w.alloc (.cells #[.slice (some ⟨g, 0, none⟩) n c] 33)) ((old_block hlt).trans h) hn
  have hpos : ¬ (1 + 7 * (n : Int) < 0) := by omega
  go_enter Tryd.func26, Tryd.ntmps26
  go_wp2_with fail
  refine H.mono ?_
  rintro e w1 ⟨rfl, rfl⟩
  clear H
  go_wp2_with fail
  go_ret
  exact ⟨rfl, _, rfl⟩

set_option maxHeartbeats 2000000 in
theorem markM0 (a : Option Addr) (c : Nat) (w : World) :
    Calls Tryd.prog 25 #[.agg #[.slice a 0 c], .int .i64 1] w fun e w' => e = .returned (.int .i64 1) ∧ ∃ o, w' = w.alloc o := by
  have H := fun w => markS0 a c w
  go_enter Tryd.func25, Tryd.ntmps25
  go_wp2_with fail
  refine (H _).mono ?_
  rintro e w1 ⟨rfl, rfl⟩
  clear H
  go_wp2_with fail
  go_ret
  exact ⟨rfl, _, rfl⟩

set_option maxHeartbeats 2000000 in
theorem heldM0 (a : Option Addr) (c : Nat) (w : World) :
    Calls Tryd.prog 26 #[.agg #[.slice a 0 c], .int .i64 1] w fun e w' => e = .returned (.int .i64 1) ∧ ∃ o, w' = w.alloc o := by
  have H := fun w => heldS0 a c w
  go_enter Tryd.func26, Tryd.ntmps26
  go_wp2_with fail
  refine (H _).mono ?_
  rintro e w1 ⟨rfl, rfl⟩
  clear H
  go_wp2_with fail
  go_ret
  exact ⟨rfl, _, rfl⟩
end Go.Proofs.YtchchigiafacbaaDoor

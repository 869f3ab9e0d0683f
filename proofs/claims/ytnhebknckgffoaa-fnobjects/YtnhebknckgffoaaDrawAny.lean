/- Any drawn int: it came back, the cursor stands, nothing else that was there has turned. -/
import Derived.Test.YtnhebknckgffoaaDraw2
namespace Go.Proofs.Ytnhebknckgffoaa
open Go.RowKit
set_option linter.unusedVariables false

theorem below_grows {w w' : World} {row : Option Nat} (h : Below w.heap.size w w') : w.grownBy w' row := ⟨h.os, h.tape, h.output, h.size, fun b hb _ => h.block b hb⟩

theorem Drawn.below {w w1 w2 : World} {g : Nat} (h : Drawn w w1 g) (hb : Below w1.heap.size w1 w2) : Drawn w w2 g :=
  ⟨h.1.kept (row := none) (below_grows hb) (by intro k hk; cases hk), grown_trans h.2 (below_grows hb)⟩

theorem Drawn.alloc {w w1 : World} {g : Nat} (h : Drawn w w1 g) (o : Obj) : Drawn w (w1.alloc o) g := h.below ((Below.refl _ _).alloc (Nat.le_refl _) _)

/-- The call's first world: its result's block laid. -/
theorem Cur.start {w : World} {g : Nat} (h : Cur w g) (o : Obj) : Drawn w (w.alloc o) g := ⟨h.alloc o, World.grownBy_alloc w o _⟩

theorem alloc_block {w : World} {o : Obj} {j : Nat} (hj : j < w.heap.size) : (w.alloc o).heap[j]? = w.heap[j]? := ((Below.refl w.heap.size w).alloc (Nat.le_refl _) o).block j hj

theorem Drawn.block {w w1 : World} {g k : Nat} (h : Drawn w w1 g) (hk : k < w.heap.size) (hne : g ≠ k) : w1.heap[k]? = w.heap[k]? := h.2.block k hk (by simpa using hne.symm)

set_option maxRecDepth 100000 in
set_option maxHeartbeats 4000000 in
theorem anyM (g : Nat) (w : World) (h : Cur w g) :
    Calls Try.prog 68 #[.pointer (some ⟨g, 0, none⟩)] w fun e w' => ∃ v, e = .returned (.int .i64 v) ∧ InInt v ∧ Drawn w w' g := by
  go_enter Try.func68, Try.ntmps68
  go_wp2_with fail
  refine (onceM g _ _ h (by omega)).mono ?_
  rintro e w1 ⟨b, rfl, hd1⟩
  have hl1 := hd1.1.lt
  clear h
  cases b
  · go_wp2_with fail
    refine (belowM g _ _ hd1.1 (by omega)).mono ?_
    rintro e w2 ⟨y, rfl, hy0, hy1, _, hd2⟩
    replace hy1 : y < 30 := hy1 (by omega)
    have hd := hd1.trans hd2
    clear hd1 hd2
    go_wp2
    go_ret
    exact ⟨_, rfl, ⟨by omega, by omega⟩, hd⟩
  · go_wp2_with fail
    refine (pickM g w1.heap.size 11 11 _ (hd1.1.alloc _) hl1 (by omega) (by omega) (ints_block w1 [0, 1, -1, 2147483647, -2147483648, 2147483648, -2147483649, 9223372036854775807, -9223372036854775808, 4294967296, 5] (inInt_all _ (by decide)))).mono ?_
    rintro e w2 ⟨v, rfl, hv, hd2⟩
    have hd : Drawn w w2 g := (hd1.alloc _).trans hd2
    clear hd1 hd2
    go_wp2
    go_ret
    exact ⟨_, rfl, hv, hd⟩

end Go.Proofs.Ytnhebknckgffoaa

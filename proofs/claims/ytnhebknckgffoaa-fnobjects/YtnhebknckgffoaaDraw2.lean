/- Numbers out of lists, and the drawn arguments of PutNum and PutText. -/
import Derived.Test.YtnhebknckgffoaaDraw1
namespace Go.Proofs.Ytnhebknckgffoaa
open Go.RowKit
set_option linter.unusedVariables false

def InInt (v : Int) : Prop := -9223372036854775808 ≤ v ∧ v ≤ 9223372036854775807

set_option maxRecDepth 100000 in
set_option maxHeartbeats 2000000 in
theorem pickM (g b : Nat) (n c : Nat) (w : World) (h : Cur w g) (hbg : g < b) (hn0 : 0 < n) (hn : n ≤ 1000) (hc : ∀ j, j < n → ∃ v, w.cell? ⟨b, j, none⟩ = some (.int .i64 v) ∧ InInt v) :
    Calls Try.prog 34 #[.pointer (some ⟨g, 0, none⟩), .slice (some ⟨b, 0, none⟩) n c] w fun e w' => ∃ v, e = .returned (.int .i64 v) ∧ InInt v ∧ Drawn w w' g := by
  go_enter Try.func34, Try.ntmps34
  go_wp2_with fail
  refine (belowM g _ _ h (by omega)).mono ?_
  rintro e w1 ⟨x, rfl, hx0, hx1, _, hd⟩
  replace hx1 : x < n := hx1 (by omega)
  obtain ⟨j, rfl⟩ := Int.eq_ofNat_of_zero_le hx0
  obtain ⟨v, hv, hin⟩ := hc j (by omega)
  have hv1 : w1.cell? ⟨b, j, none⟩ = some (.int .i64 v) := hd.2.cell hv (by simp; omega)
  clear hv hc h
  go_wp2
  go_ret
  exact ⟨_, rfl, hin, hd⟩

theorem ints_block (w : World) (cs : List Int) (hin : ∀ v ∈ cs, InInt v) : ∀ j, j < cs.length → ∃ v, (w.alloc (.cells (cs.map (Value.int .i64)).toArray 3)).cell? ⟨w.heap.size, j, none⟩ = some (.int .i64 v) ∧ InInt v := by
  intro j hj
  refine ⟨cs[j], ?_, hin _ (List.getElem_mem hj)⟩
  rw [cell_of_row _ w.heap.size j _ _ (0, 0) (heap_alloc_new w _)]
  simp [hj]

theorem inInt_all (cs : List Int) (h : cs.all (fun v => decide (-9223372036854775808 ≤ v) && decide (v ≤ 9223372036854775807)) = true) : ∀ v ∈ cs, InInt v := by
  intro v hv
  have := List.all_eq_true.1 h v hv
  simpa [InInt] using this

end Go.Proofs.Ytnhebknckgffoaa

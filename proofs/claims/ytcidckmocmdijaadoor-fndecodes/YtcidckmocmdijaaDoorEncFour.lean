/- A number of 32 bits as four bytes, low first: behind what was there (the model). -/
import Derived.Test.YtcidckmocmdijaaDoorInsHelp
import Derived.Test.YtcidckmocmdijaaDoorAppendB
namespace Go.Proofs.YtcidckmocmdijaaDoor
open Go.RowKit
set_option linter.unusedVariables false
set_option linter.unusedSimpArgs false
set_option maxRecDepth 100000

def four (n : Int) : List Int := [n % 256, n % 4294967296 / 256 % 256, n % 4294967296 / 65536 % 256, n % 4294967296 / 16777216]
def enc6 (x : In6) : List Int := [x.o % 256, x.a % 256, x.b % 256, x.c % 256] ++ (four x.n ++ four x.m)

/-- A new block of four bytes reads as these. -/
theorem four_row (w : World) (x0 x1 x2 x3 : Int) (h0 : 0 ≤ x0 ∧ x0 ≤ 255) (h1 : 0 ≤ x1 ∧ x1 ≤ 255) (h2 : 0 ≤ x2 ∧ x2 ≤ 255) (h3 : 0 ≤ x3 ∧ x3 ≤ 255) : BRow (w.alloc (.cells #[.int .u8 x0, .int .u8 x1, .int .u8 x2, .int .u8 x3] 5)) (some ⟨w.heap.size, 0, none⟩) 4 [x0, x1, x2, x3] := by
  refine ⟨rfl, ?_, fun _ => ⟨w.heap.size, 0, rfl, fun i hi => ?_⟩⟩
  · intro x hx
    simp only [List.mem_cons, List.not_mem_nil, or_false] at hx
    rcases hx with rfl | rfl | rfl | rfl <;> assumption
  · have : i = 0 ∨ i = 1 ∨ i = 2 ∨ i = 3 := by omega
    rcases this with rfl | rfl | rfl | rfl <;> simp

theorem four_bytes (n : Int) : (0 ≤ n % 256 ∧ n % 256 ≤ 255) ∧ (0 ≤ n % 4294967296 / 256 % 256 ∧ n % 4294967296 / 256 % 256 ≤ 255) ∧ (0 ≤ n % 4294967296 / 65536 % 256 ∧ n % 4294967296 / 65536 % 256 ≤ 255) ∧ (0 ≤ n % 4294967296 / 16777216 ∧ n % 4294967296 / 16777216 ≤ 255) := by omega

set_option maxHeartbeats 4000000 in
theorem fourM (base : Nat) (v : Value) (n : Nat) (l : List Int) (m : Int) (w wx : World) (h : Own w base v n l) (hb : Below base wx w) (hB : base ≤ w.heap.size) (hn : n ≤ 1073741824) :
    Calls Tryd.prog 31 #[v, .int .i64 m] w fun e w' => ∃ v', e = .returned v' ∧ Own w' base v' (n + 4) (l ++ four m) ∧ Below base wx w' ∧ base ≤ w'.heap.size := by
  obtain ⟨b0, b1, b2, b3⟩ := four_bytes m
  have HO : Hid (Own w base v n l) := h
  have HB : Hid (Below base wx w) := hb
  clear h hb
  go_enter Tryd.func31, Tryd.ntmps31
  go_wp2_with (at_builtin; refine wpList_appendB rfl _ _ rfl base _ n l rfl (HO.out.alloc _) _ 4 4 _ rfl (four_row _ _ _ _ _ b0 b1 b2 b3) (by intro hh; cases hh) (by omega) (by simp; omega) ?_)
  intro v2 w2 ho2 hg2
  have hb2 := (HO.out.alloc _).grown hg2 (HB.out.alloc hB _) (by simp; omega)
  have hs2 := hg2.size
  simp at hs2
  clear hg2
  go_wp2
  go_ret
  exact ⟨_, rfl, ho2, hb2, by omega⟩
end Go.Proofs.YtcidckmocmdijaaDoor

/- PutNum: the bytes of a number, behind what was there, in new memory; a number that is out of range adds nothing. -/
import Derived.Test.YthfknedokkccaaaRowOf
import Derived.Test.YthfknedokkccaaaPutSpec
namespace Go.Proofs.Ythfknedokkccaaa
open Go.RowKit

theorem nil_row (w : World) : BRow w none 0 [] := ⟨rfl, by simp, by omega⟩

theorem arr_row (w : World) (d : List Int) (h : d.length ≤ 5) (hby : ∀ x ∈ d, 0 ≤ x ∧ x ≤ 255) :
    BRow (w.alloc (.cells #[.int .u8 (d[0]?.getD 0), .int .u8 (d[1]?.getD 0), .int .u8 (d[2]?.getD 0), .int .u8 (d[3]?.getD 0), .int .u8 (d[4]?.getD 0), .int .i64 d.length] 76)) (some ⟨w.heap.size, 0, none⟩) d.length d := by
  refine ⟨rfl, hby, fun _ => ⟨w.heap.size, 0, rfl, fun i hi => ?_⟩⟩
  have : i = 0 ∨ i = 1 ∨ i = 2 ∨ i = 3 ∨ i = 4 := by omega
  rcases this with rfl | rfl | rfl | rfl | rfl <;> simp

set_option maxRecDepth 100000 in
theorem cut5 (b k : Nat) (hk : k ≤ 5) (wx : World) : (Instr.sliceAt 74 (.pointer (some ⟨b, 0, none⟩)) none (some (.int .i64 (k : Int))) none).run Try.prog wx = .ok (.slice (some ⟨b, 0, none⟩) k 5) wx := by
  have hal : Try.prog.arrayLen 74 = 5 := by kernel_rfl
  have hsz : ((sizeOf (Try.prog.elem 74)).run Try.prog wx) = .ok 1 wx := by kernel_rfl
  rw [run_sliceAt_array_h (P := Try.prog) wx (t := 74) (a := ⟨b, 0, none⟩) Try.underlying74 .i64 (k : Int) (by omega) (by rw [hal]; omega), hsz]
  simp [slicedAt, hal, Result.andThen, Addr.add]

/-- What PutNum puts behind what was there. -/
def putL (m : Int) : List Int := if 0 ≤ m ∧ m ≤ 2147483647 then num m.toNat else []

theorem putL_len (m : Int) : (putL m).length ≤ 5 := by
  unfold putL
  split
  · exact num_len5 _ (by omega)
  · simp

end Go.Proofs.Ythfknedokkccaaa

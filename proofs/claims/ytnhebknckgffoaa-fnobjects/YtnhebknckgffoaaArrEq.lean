/- Two arrays of five bytes, held against each other. -/
import Derived.Test.YtnhebknckgffoaaBase
import Derived.ChangeKeysEq
import Derived.Laws.StructEq
namespace Go.Proofs.Ytnhebknckgffoaa
open Go.RowKit

theorem part5_0 (x0 x1 x2 x3 x4 : Int) (w : World) : (part 5 #[.int .u8 x0, .int .u8 x1, .int .u8 x2, .int .u8 x3, .int .u8 x4] (0 * 1)).run Try.prog w = .ok (.int .u8 x0) w := by kernel_rfl
theorem part5_1 (x0 x1 x2 x3 x4 : Int) (w : World) : (part 5 #[.int .u8 x0, .int .u8 x1, .int .u8 x2, .int .u8 x3, .int .u8 x4] (1 * 1)).run Try.prog w = .ok (.int .u8 x1) w := by kernel_rfl
theorem part5_2 (x0 x1 x2 x3 x4 : Int) (w : World) : (part 5 #[.int .u8 x0, .int .u8 x1, .int .u8 x2, .int .u8 x3, .int .u8 x4] (2 * 1)).run Try.prog w = .ok (.int .u8 x2) w := by kernel_rfl
theorem part5_3 (x0 x1 x2 x3 x4 : Int) (w : World) : (part 5 #[.int .u8 x0, .int .u8 x1, .int .u8 x2, .int .u8 x3, .int .u8 x4] (3 * 1)).run Try.prog w = .ok (.int .u8 x3) w := by kernel_rfl
theorem part5_4 (x0 x1 x2 x3 x4 : Int) (w : World) : (part 5 #[.int .u8 x0, .int .u8 x1, .int .u8 x2, .int .u8 x3, .int .u8 x4] (4 * 1)).run Try.prog w = .ok (.int .u8 x4) w := by kernel_rfl

theorem arr5_eq (x0 x1 x2 x3 x4 y0 y1 y2 y3 y4 : Int) (w : World) :
    (Op.equalIn 9999 73 (.agg #[.int .u8 x0, .int .u8 x1, .int .u8 x2, .int .u8 x3, .int .u8 x4]) (.agg #[.int .u8 y0, .int .u8 y1, .int .u8 y2, .int .u8 y3, .int .u8 y4])).run Try.prog w =
      .ok ((x0 == y0) && ((x1 == y1) && ((x2 == y2) && ((x3 == y3) && (x4 == y4))))) w := by
  obtain ⟨i0, hi, _, _, _⟩ := info_parts info5
  have hu : Try.prog.underlying 73 = some (.array 5 5) := by kernel_rfl
  have hc : Try.prog.cellsOf 5 = 1 := by kernel_rfl
  have h5 : Try.prog.underlying 5 = some (.int .u8) := by kernel_rfl
  rw [run_equalIn_array w 9998 _ _ hu hi, hc, show List.range 5 = [0, 1, 2, 3, 4] from rfl]
  have s0 : ∀ is, (Op.eqItems 9998 5 1 #[.int .u8 x0, .int .u8 x1, .int .u8 x2, .int .u8 x3, .int .u8 x4] #[.int .u8 y0, .int .u8 y1, .int .u8 y2, .int .u8 y3, .int .u8 y4] (0 :: is)).run Try.prog w =
      if (x0 == y0) = true then (Op.eqItems 9998 5 1 #[.int .u8 x0, .int .u8 x1, .int .u8 x2, .int .u8 x3, .int .u8 x4] #[.int .u8 y0, .int .u8 y1, .int .u8 y2, .int .u8 y3, .int .u8 y4] is).run Try.prog w else .ok false w := by
    intro is
    simp only [Op.eqItems, Sem.run_bind, part5_0, Result.andThen_ok, run_equalIn_int w 9997 5 .u8 .u8 _ _ h5]
    generalize (x0 == y0) = r
    cases r <;> simp
  have s1 : ∀ is, (Op.eqItems 9998 5 1 #[.int .u8 x0, .int .u8 x1, .int .u8 x2, .int .u8 x3, .int .u8 x4] #[.int .u8 y0, .int .u8 y1, .int .u8 y2, .int .u8 y3, .int .u8 y4] (1 :: is)).run Try.prog w =
      if (x1 == y1) = true then (Op.eqItems 9998 5 1 #[.int .u8 x0, .int .u8 x1, .int .u8 x2, .int .u8 x3, .int .u8 x4] #[.int .u8 y0, .int .u8 y1, .int .u8 y2, .int .u8 y3, .int .u8 y4] is).run Try.prog w else .ok false w := by
    intro is
    simp only [Op.eqItems, Sem.run_bind, part5_1, Result.andThen_ok, run_equalIn_int w 9997 5 .u8 .u8 _ _ h5]
    generalize (x1 == y1) = r
    cases r <;> simp
  have s2 : ∀ is, (Op.eqItems 9998 5 1 #[.int .u8 x0, .int .u8 x1, .int .u8 x2, .int .u8 x3, .int .u8 x4] #[.int .u8 y0, .int .u8 y1, .int .u8 y2, .int .u8 y3, .int .u8 y4] (2 :: is)).run Try.prog w =
      if (x2 == y2) = true then (Op.eqItems 9998 5 1 #[.int .u8 x0, .int .u8 x1, .int .u8 x2, .int .u8 x3, .int .u8 x4] #[.int .u8 y0, .int .u8 y1, .int .u8 y2, .int .u8 y3, .int .u8 y4] is).run Try.prog w else .ok false w := by
    intro is
    simp only [Op.eqItems, Sem.run_bind, part5_2, Result.andThen_ok, run_equalIn_int w 9997 5 .u8 .u8 _ _ h5]
    generalize (x2 == y2) = r
    cases r <;> simp
  have s3 : ∀ is, (Op.eqItems 9998 5 1 #[.int .u8 x0, .int .u8 x1, .int .u8 x2, .int .u8 x3, .int .u8 x4] #[.int .u8 y0, .int .u8 y1, .int .u8 y2, .int .u8 y3, .int .u8 y4] (3 :: is)).run Try.prog w =
      if (x3 == y3) = true then (Op.eqItems 9998 5 1 #[.int .u8 x0, .int .u8 x1, .int .u8 x2, .int .u8 x3, .int .u8 x4] #[.int .u8 y0, .int .u8 y1, .int .u8 y2, .int .u8 y3, .int .u8 y4] is).run Try.prog w else .ok false w := by
    intro is
    simp only [Op.eqItems, Sem.run_bind, part5_3, Result.andThen_ok, run_equalIn_int w 9997 5 .u8 .u8 _ _ h5]
    generalize (x3 == y3) = r
    cases r <;> simp
  have s4 : ∀ is, (Op.eqItems 9998 5 1 #[.int .u8 x0, .int .u8 x1, .int .u8 x2, .int .u8 x3, .int .u8 x4] #[.int .u8 y0, .int .u8 y1, .int .u8 y2, .int .u8 y3, .int .u8 y4] (4 :: is)).run Try.prog w =
      if (x4 == y4) = true then (Op.eqItems 9998 5 1 #[.int .u8 x0, .int .u8 x1, .int .u8 x2, .int .u8 x3, .int .u8 x4] #[.int .u8 y0, .int .u8 y1, .int .u8 y2, .int .u8 y3, .int .u8 y4] is).run Try.prog w else .ok false w := by
    intro is
    simp only [Op.eqItems, Sem.run_bind, part5_4, Result.andThen_ok, run_equalIn_int w 9997 5 .u8 .u8 _ _ h5]
    generalize (x4 == y4) = r
    cases r <;> simp
  rw [s0, s1, s2, s3, s4]
  have e : (Op.eqItems 9998 5 1 #[.int .u8 x0, .int .u8 x1, .int .u8 x2, .int .u8 x3, .int .u8 x4] #[.int .u8 y0, .int .u8 y1, .int .u8 y2, .int .u8 y3, .int .u8 y4] []).run Try.prog w = .ok true w := by simp [Op.eqItems]
  rw [e]
  generalize (x0 == y0) = r0
  generalize (x1 == y1) = r1
  generalize (x2 == y2) = r2
  generalize (x3 == y3) = r3
  generalize (x4 == y4) = r4
  cases r0 <;> cases r1 <;> cases r2 <;> cases r3 <;> cases r4 <;> rfl

/-- Are two rows of five the same? -/
def arrB (x0 x1 x2 x3 x4 y0 y1 y2 y3 y4 : Int) : Bool := (x0 == y0) && ((x1 == y1) && ((x2 == y2) && ((x3 == y3) && (x4 == y4))))

theorem arr5_run (x0 x1 x2 x3 x4 y0 y1 y2 y3 y4 : Int) (w : World) :
    (Op.equalIn 9999 73 (.agg #[.int .u8 x0, .int .u8 x1, .int .u8 x2, .int .u8 x3, .int .u8 x4]) (.agg #[.int .u8 y0, .int .u8 y1, .int .u8 y2, .int .u8 y3, .int .u8 y4])).run Try.prog w =
      .ok (arrB x0 x1 x2 x3 x4 y0 y1 y2 y3 y4) w := arr5_eq ..

theorem arrB_same (y0 y1 y2 y3 y4 : Int) : arrB y0 y1 y2 y3 y4 y0 y1 y2 y3 y4 = true := by simp [arrB]
theorem arrB_eq {x0 x1 x2 x3 x4 y0 y1 y2 y3 y4 : Int} (h : arrB x0 x1 x2 x3 x4 y0 y1 y2 y3 y4 = true) : x0 = y0 ∧ x1 = y1 ∧ x2 = y2 ∧ x3 = y3 ∧ x4 = y4 := by simpa [arrB] using h
end Go.Proofs.Ytnhebknckgffoaa

/- sameBytes: are two rows of bytes the same? -/
import Derived.Test.YtnhebknckgffoaaBase
import Derived.Laws.BytesArg
namespace Go.Proofs.Ytnhebknckgffoaa
open Go.RowKit

theorem convM (a : Option Addr) (n c : Nat) (l : List Int) (w : World) (h : BRow w a n l) :
    (convert 22 9 (.slice a n c)).run Try.prog w = .ok (.string (strOfNums l)) w := by
  have he : Try.prog.underlying 5 = some (.int .u8) := by kernel_rfl
  have hd : Try.prog.underlying 9 = some .string := by kernel_rfl
  rcases Nat.eq_zero_or_pos n with h0 | hp
  · subst h0
    obtain rfl : l = [] := List.eq_nil_of_length_eq_zero h.1
    cases a with
    | none => exact run_convert_bytes_nil w 22 5 Try.underlying22 he 0 c 9 hd
    | some ad =>
      rw [run_convert_bytes_string w 22 9 5 _ 0 c Try.underlying22 he hd, run_bytesToString w ad 0 c [] (by simp [loadCells, loadCellsFrom])]
      rfl
  · obtain ⟨b, off, rfl, hc⟩ := h.2.2 hp
    refine run_convert_bytes_arg w 22 5 Try.underlying22 he b off n c l h.1 ?_ 9 hd
    intro i hi
    rw [hc i hi]
    simp [List.getD]

theorem strOfNums_inj {l1 l2 : List Int} (h1 : ∀ x ∈ l1, 0 ≤ x ∧ x ≤ 255) (h2 : ∀ x ∈ l2, 0 ≤ x ∧ x ≤ 255) (h : l1.map (fun n => UInt8.ofNat n.toNat) = l2.map (fun n => UInt8.ofNat n.toNat)) : l1 = l2 := by
  induction l1 generalizing l2 with
  | nil => cases l2 with
    | nil => rfl
    | cons y s => simp at h
  | cons x r ih =>
    cases l2 with
    | nil => simp at h
    | cons y s =>
      simp only [List.map_cons, List.cons.injEq] at h
      have hx := h1 x (by simp)
      have hy := h2 y (by simp)
      have e := congrArg UInt8.toNat h.1
      simp only [UInt8.toNat_ofNat'] at e
      have : x = y := by omega
      subst this
      rw [ih (fun z hz => h1 z (by simp [hz])) (fun z hz => h2 z (by simp [hz])) h.2]

set_option maxRecDepth 100000 in
set_option maxHeartbeats 1000000 in
theorem sameM (a1 : Option Addr) (n1 c1 : Nat) (l1 : List Int) (a2 : Option Addr) (n2 c2 : Nat) (l2 : List Int) (w : World) (h1 : BRow w a1 n1 l1) (h2 : BRow w a2 n2 l2) :
    Calls Try.prog 9 #[.slice a1 n1 c1, .slice a2 n2 c2] w fun e w' => e = .returned (.bool (decide (l1 = l2))) ∧ w' = w := by
  have k1 := convM a1 n1 c1 l1 w h1
  have k2 := convM a2 n2 c2 l2 w h2
  go_enter Try.func9, Try.ntmps9
  go_wp2
  go_ret
  refine ⟨ret_bool ?_, rfl⟩
  rw [Bool.eq_iff_iff, decide_eq_true_iff, beq_iff_eq]
  constructor
  · intro h
    refine strOfNums_inj h1.2.1 h2.2.1 ?_
    rw [← strOfNums_data, ← strOfNums_data]
    rw [ByteArray.toList_eq, ByteArray.toList_eq] at h
    exact h
  · intro h
    rw [h]
end Go.Proofs.Ytnhebknckgffoaa

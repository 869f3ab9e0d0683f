/- Words of the forms, and tokens' texts. By mkprex.py. -/
import Derived.Test.YtajnfknldofjlaaGreatDoorPrPure
import Derived.Lib.AppendIntMem
namespace Go.Proofs.YtajnfknldofjlaaGreatDoor
open Go.RowKit
set_option linter.unusedVariables false
set_option linter.unusedSimpArgs false
set_option maxRecDepth 100000

theorem exW0 : (exF 0).words = [[110, 117, 109]] := by decide
theorem exW1 : (exF 1).words = [[110, 97, 109, 101]] := by decide
theorem exW2 : (exF 2).words = [[110, 97, 109, 101], [91], [107, 105, 100], [93]] := by decide
theorem exW3 : (exF 3).words = [[40], [107, 105, 100], [111, 112], [107, 105, 100], [41]] := by decide
theorem exW4 : (exF 4).words = [[73, 78]] := by decide
theorem exW5 : (exF 5).words = [[76, 69, 78], [110, 97, 109, 101]] := by decide
theorem exW6 : (exF 6).words = [[109, 111, 100], [110, 97, 109, 101], [97, 114, 103, 115]] := by decide
theorem exW7 : (exF 7).words = [[64], [110, 97, 109, 101]] := by decide
theorem stW0 : (stF 0).words = [[110, 97, 109, 101], [58, 61], [107, 105, 100], [59]] := by decide
theorem stW1 : (stF 1).words = [[110, 97, 109, 101], [91], [107, 105, 100], [93], [58, 61], [107, 105, 100], [59]] := by decide
theorem stW2 : (stF 2).words = [[73, 70], [107, 105, 100], [84, 72, 69, 78], [98, 111, 100, 121], [69, 76, 83, 69], [101, 108, 115, 101], [69, 78, 68], [59]] := by decide
theorem stW3 : (stF 3).words = [[87, 72, 73, 76, 69], [107, 105, 100], [68, 79], [98, 111, 100, 121], [69, 78, 68], [59]] := by decide
theorem stW4 : (stF 4).words = [[82, 69, 84, 85, 82, 78], [107, 105, 100], [59]] := by decide
theorem stW5 : (stF 5).words = [[79, 85, 84], [107, 105, 100], [59]] := by decide
theorem stW6 : (stF 6).words = [[84, 82, 65, 80], [110, 117, 109], [59]] := by decide
theorem stW7 : (stF 7).words = [[67, 65, 76, 76], [99, 97, 108, 108], [59]] := by decide
theorem put_91 : putAll [⟨#[91]⟩] = [91, 32] := by simp [putAll, putT, sI, behI, lits, ByteArray.toList_eq]
theorem put_93 : putAll [⟨#[93]⟩] = [93, 32] := by simp [putAll, putT, sI, behI, lits, ByteArray.toList_eq]
theorem put_40 : putAll [⟨#[40]⟩] = [40, 32] := by simp [putAll, putT, sI, behI, lits, ByteArray.toList_eq]
theorem put_41 : putAll [⟨#[41]⟩] = [41, 32] := by simp [putAll, putT, sI, behI, lits, ByteArray.toList_eq]
theorem put_73_78 : putAll [⟨#[73, 78]⟩] = [73, 78, 32] := by simp [putAll, putT, sI, behI, lits, ByteArray.toList_eq]
theorem put_76_69_78 : putAll [⟨#[76, 69, 78]⟩] = [76, 69, 78, 32] := by simp [putAll, putT, sI, behI, lits, ByteArray.toList_eq]
theorem put_64 : putAll [⟨#[64]⟩] = [64, 32] := by simp [putAll, putT, sI, behI, lits, ByteArray.toList_eq]
theorem put_58_61 : putAll [⟨#[58, 61]⟩] = [58, 61, 32] := by simp [putAll, putT, sI, behI, lits, ByteArray.toList_eq]
theorem put_59 : putAll [⟨#[59]⟩] = [59, 10] := by simp [putAll, putT, sI, behI, lits, ByteArray.toList_eq]
theorem put_73_70 : putAll [⟨#[73, 70]⟩] = [73, 70, 32] := by simp [putAll, putT, sI, behI, lits, ByteArray.toList_eq]
theorem put_84_72_69_78 : putAll [⟨#[84, 72, 69, 78]⟩] = [84, 72, 69, 78, 10] := by simp [putAll, putT, sI, behI, lits, ByteArray.toList_eq]
theorem put_69_76_83_69 : putAll [⟨#[69, 76, 83, 69]⟩] = [69, 76, 83, 69, 10] := by simp [putAll, putT, sI, behI, lits, ByteArray.toList_eq]
theorem put_69_78_68 : putAll [⟨#[69, 78, 68]⟩] = [69, 78, 68, 32] := by simp [putAll, putT, sI, behI, lits, ByteArray.toList_eq]
theorem put_87_72_73_76_69 : putAll [⟨#[87, 72, 73, 76, 69]⟩] = [87, 72, 73, 76, 69, 32] := by simp [putAll, putT, sI, behI, lits, ByteArray.toList_eq]
theorem put_68_79 : putAll [⟨#[68, 79]⟩] = [68, 79, 10] := by simp [putAll, putT, sI, behI, lits, ByteArray.toList_eq]
theorem put_82_69_84_85_82_78 : putAll [⟨#[82, 69, 84, 85, 82, 78]⟩] = [82, 69, 84, 85, 82, 78, 32] := by simp [putAll, putT, sI, behI, lits, ByteArray.toList_eq]
theorem put_79_85_84 : putAll [⟨#[79, 85, 84]⟩] = [79, 85, 84, 32] := by simp [putAll, putT, sI, behI, lits, ByteArray.toList_eq]
theorem put_84_82_65_80 : putAll [⟨#[84, 82, 65, 80]⟩] = [84, 82, 65, 80, 32] := by simp [putAll, putT, sI, behI, lits, ByteArray.toList_eq]
theorem put_67_65_76_76 : putAll [⟨#[67, 65, 76, 76]⟩] = [67, 65, 76, 76, 32] := by simp [putAll, putT, sI, behI, lits, ByteArray.toList_eq]
theorem put_46 : putAll [⟨#[46]⟩] = [46, 32] := by simp [putAll, putT, sI, behI, lits, ByteArray.toList_eq]
theorem put_44 : putAll [⟨#[44]⟩] = [44, 32] := by simp [putAll, putT, sI, behI, lits, ByteArray.toList_eq]
theorem put_43 : putAll [⟨#[43]⟩] = [43, 32] := by simp [putAll, putT, sI, behI, lits, ByteArray.toList_eq]
theorem put_45 : putAll [⟨#[45]⟩] = [45, 32] := by simp [putAll, putT, sI, behI, lits, ByteArray.toList_eq]
theorem put_42 : putAll [⟨#[42]⟩] = [42, 32] := by simp [putAll, putT, sI, behI, lits, ByteArray.toList_eq]
theorem put_47 : putAll [⟨#[47]⟩] = [47, 32] := by simp [putAll, putT, sI, behI, lits, ByteArray.toList_eq]
theorem put_60 : putAll [⟨#[60]⟩] = [60, 32] := by simp [putAll, putT, sI, behI, lits, ByteArray.toList_eq]
theorem put_61 : putAll [⟨#[61]⟩] = [61, 32] := by simp [putAll, putT, sI, behI, lits, ByteArray.toList_eq]
theorem put_77_79_68_85_76_69 : putAll [⟨#[77, 79, 68, 85, 76, 69]⟩] = [77, 79, 68, 85, 76, 69, 32] := by simp [putAll, putT, sI, behI, lits, ByteArray.toList_eq]
theorem put_73_77_80_79_82_84 : putAll [⟨#[73, 77, 80, 79, 82, 84]⟩] = [73, 77, 80, 79, 82, 84, 32] := by simp [putAll, putT, sI, behI, lits, ByteArray.toList_eq]
theorem put_86_65_82 : putAll [⟨#[86, 65, 82]⟩] = [86, 65, 82, 32] := by simp [putAll, putT, sI, behI, lits, ByteArray.toList_eq]
theorem put_80_82_79_67 : putAll [⟨#[80, 82, 79, 67]⟩] = [80, 82, 79, 67, 32] := by simp [putAll, putT, sI, behI, lits, ByteArray.toList_eq]
theorem put_66_69_71_73_78 : putAll [⟨#[66, 69, 71, 73, 78]⟩] = [66, 69, 71, 73, 78, 10] := by simp [putAll, putT, sI, behI, lits, ByteArray.toList_eq]

theorem put_one_name {l : List Int} {g : Bool} (hb : ∀ x ∈ l, 0 ≤ x ∧ x ≤ 255) (h : nameOk l g = true) : putAll [strOfNums l] = l ++ [32] := by
  unfold putAll; rw [List.flatMap_singleton]; exact put_name hb h
theorem put_one_num (n : Int) : putAll [⟨(Lib.itoa n).toArray⟩] = numI n ++ [32] := by
  unfold putAll; rw [List.flatMap_singleton]; exact put_num n

theorem itoaC (n : Int) (h0 : -9223372036854775808 ≤ n) (h1 : n ≤ 9223372036854775807) (w : World) (ht : Tabs w) :
    Calls Tryz.prog 114 #[.int .i64 n] w fun e w' => e = .returned (.string ⟨(Lib.itoa n).toArray⟩) ∧ w.grownBy w' none := by
  refine (Tryz.strconv_Itoa n h0 h1 w ht.p10).mono ?_
  rintro e w' ⟨rfl, k, os, rfl⟩
  exact ⟨rfl, grown_below (Lib.below_grow w.heap.size w (Nat.le_refl _) k os) none⟩
end Go.Proofs.YtajnfknldofjlaaGreatDoor

/- spec.PutNum: the bytes of a number, behind what was there, in new memory. -/
import Derived.Test.YthfknedokkccaaaAppendB
import Derived.Test.YthfknedokkccaaaNum
namespace Go.Proofs.Ythfknedokkccaaa
open Go.RowKit

theorem num_next {m d : List Int} {n k : Nat} (h : d ++ num k = num n) (hk : ¬ k < 128) (e : m = d ++ [((k % 128 + 128 : Nat) : Int)]) : m ++ num (k / 128) = num n := by
  rw [e, List.append_assoc, List.singleton_append, ← num_ge hk]; exact h

end Go.Proofs.Ythfknedokkccaaa

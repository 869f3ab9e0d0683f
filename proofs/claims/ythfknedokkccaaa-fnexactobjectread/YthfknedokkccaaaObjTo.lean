/- Contracts of the laws' own helpers that copy exports and imports. -/
import Derived.Test.YthfknedokkccaaaRec3b
import Derived.Test.YthfknedokkccaaaBytes
import Derived.Deep.RegionHeld3
import Derived.Deep.Cut
import Derived.Deep.CutRange
namespace Go.Proofs.Ythfknedokkccaaa
open Go.RowKit
set_option linter.unusedVariables false
set_option maxRecDepth 100000

theorem bkE {lo hi g n : Nat} {p q : Int} (h1 : lo ≤ g) (h2 : g < hi) : Bk lo hi (R3.owns ⟨.slice (some ⟨g, 0, none⟩) n n, .int .i64 p, .int .i64 q⟩) := by
  refine ⟨fun k hk => ?_, ?_⟩
  · simp only [R3.owns, Value.ownBlock, List.mem_cons, List.not_mem_nil, or_false, Option.some.injEq, reduceCtorEq] at hk; omega
  · simp [R3.owns, Value.ownBlock]

theorem bkM {lo hi g g2 n m : Nat} {p : Int} (h1 : lo ≤ g) (h2 : g < g2) (h3 : g2 < hi) : Bk lo hi (R3.owns ⟨.slice (some ⟨g, 0, none⟩) n n, .slice (some ⟨g2, 0, none⟩) m m, .int .i64 p⟩) := by
  refine ⟨fun k hk => ?_, ?_⟩
  · simp only [R3.owns, Value.ownBlock, List.mem_cons, List.not_mem_nil, or_false, Option.some.injEq, reduceCtorEq] at hk; omega
  · simp [R3.owns, Value.ownBlock]; omega

end Go.Proofs.Ythfknedokkccaaa

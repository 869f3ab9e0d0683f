/- Where a word leads, by the specification; what is loaded there. -/
import Derived.Test.YtkiaglpgfgoaiaaDoorMemSpec
namespace Go.Proofs.YtkiaglpgfgoaiaaDoor
open Go.RowKit
set_option linter.unusedVariables false
set_option linter.unusedSimpArgs false

/-- Does the way lead to a place of n words? -/
def hitB (n : Nat) (l h a by_ : Int) : Bool := inR by_ (-16000) 16000 && (decide (l ≤ a + by_) && (decide (a + by_ < h) && decide (a + by_ < (n : Int))))

/-- The trap, or 0. -/
def trapV (n : Nat) (xt : Bool) (xn xl xh xa xp xs : Int) (by_ perm : Int) : Int :=
  bif (xt && (xs == 0)) then (bif bits .and .i64 xp perm == perm then (bif hitB n xl xh xa by_ then 0 else 2) else 3) else 1

def placeV (n : Nat) (xt : Bool) (xn xl xh xa xp xs : Int) (by_ perm : Int) : Int := bif trapV n xt xn xl xh xa xp xs by_ perm == 0 then xa + by_ else 0

end Go.Proofs.YtkiaglpgfgoaiaaDoor

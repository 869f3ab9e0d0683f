/- Words as values: narrowed and shifted: the program and the specification tell the same. -/
import Derived.Test.YtjojildjnafgiaaWords3
namespace Go.Proofs.Ytjojildjnafgiaa
open Go.RowKit
set_option linter.unusedVariables false
set_option linter.unusedSimpArgs false

theorem drewN_alloc1 (w : World) (a b : Obj) (d : Nat) : ((w.alloc a).alloc b).drewN d = ((w.drewN d).alloc a).alloc b := rfl
theorem drewN_alloc3 (w : World) (a b c : Obj) (d : Nat) : (((w.alloc a).alloc b).alloc c).drewN d = (((w.drewN d).alloc a).alloc b).alloc c := rfl

def nar0 (xt : Bool) (xl xh xs lo hi : Int) : Bool := (xt && (xs == 0)) && (decide (xl ≤ lo) && (decide (hi ≤ xh) && decide (lo ≤ hi)))
def narB (xt : Bool) (xn xl xh xa xp xs : Int) (lo hi : Int) : Bool := wayB xt xn xl xh xa xp xs && (decide (xl ≤ lo) && (decide (hi ≤ xh) && decide (lo ≤ hi)))

theorem nar_iff (xt : Bool) (xn xl xh xa xp xs : Int) (lo hi : Int) : (okB xt xn xl xh xa xp xs && nar0 xt xl xh xs lo hi) = narB xt xn xl xh xa xp xs lo hi := by rw [narB, ← way_iff, nar0]; simp only [Bool.and_assoc]




def shB (xt : Bool) (xn xl xh xa xp xs : Int) (by_ : Int) : Bool := wayB xt xn xl xh xa xp xs && (inR by_ (-8000) 8000 && inR (xa + by_) (-4000) 8000)




end Go.Proofs.Ytjojildjnafgiaa

/- A store, by the specification. -/
import Derived.Test.YtkiaglpgfgoaiaaDoorMemCopy
import Derived.Test.YtkiaglpgfgoaiaaDoorMemSpec3
import Derived.Deep.Cut
namespace Go.Proofs.YtkiaglpgfgoaiaaDoor
open Go.RowKit
set_option linter.unusedVariables false
set_option linter.unusedSimpArgs false

/-- May a word with these not be stored through a way with the permissions xp? -/
def barB (xp : Int) (yt : Bool) (yp : Int) : Bool := yt && ((bits .and .i64 xp 4 == 0) || ((bits .and .i64 yp 16 == 0) && (bits .and .i64 xp 8 == 0)))
def storeT (n : Nat) (xt : Bool) (xn xl xh xa xp xs : Int) (by_ : Int) (yt : Bool) (yp : Int) : Int := bif trapV n xt xn xl xh xa xp xs by_ 2 == 0 then (bif barB xp yt yp then 3 else 0) else trapV n xt xn xl xh xa xp xs by_ 2
def storeL (l : List Wd) (xt : Bool) (xn xl xh xa xp xs : Int) (by_ : Int) (y : Wd) : List Wd := bif storeT l.length xt xn xl xh xa xp xs by_ y.t y.p == 0 then l.set (xa + by_).toNat y else l

end Go.Proofs.YtkiaglpgfgoaiaaDoor

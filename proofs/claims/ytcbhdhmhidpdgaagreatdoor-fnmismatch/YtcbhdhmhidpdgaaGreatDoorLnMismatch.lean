import Derived.Test.YtcbhdhmhidpdgaaGreatDoorLnMisLaw
import Derived.Test.YtcbhdhmhidpdgaaGreatDoorPackV
namespace Go.Proofs.YtcbhdhmhidpdgaaGreatDoor
open Go.RowKit
theorem rR (a:Option Addr)(n c:Nat)(l:List Int)(w:World)(h:aV w a n l)(hn:n<=9223372036854775807):Calls Tryz.prog 3 #[.slice a n c] w fun e w'=>e=.returned (.bool true)/\Below w.heap.size w w':=aDq a n c l w h hn (aEy a n c l w h hn)
end Go.Proofs.YtcbhdhmhidpdgaaGreatDoor

import Derived.Test.YtcbhdhmhidpdgaaGreatPackV
import Derived.Test.YtcbhdhmhidpdgaaGreatPackW
namespace Go.Proofs.YtcbhdhmhidpdgaaGreat
open Go.RowKit
theorem aBy (a:Option Addr)(n c:Nat)(zs:List Int)(w:World)(w0:aN0 .u8 w a n c zs):Calls Tryz.prog 3 #[.slice a n c] w fun e w'=>e=.returned (.bool true)/\Below w.heap.size w w':=by
 obtain⟨hr,Tm,hm⟩:=w0.row;unfold maxLen at hm;exact aPe a n c w (aFe a n c _ w hr A0)
end Go.Proofs.YtcbhdhmhidpdgaaGreat

import Derived.Test.YtcbhdhmhidpdgaaGreatDoorEkE
namespace Go.Proofs.YtcbhdhmhidpdgaaGreatDoor
open Go.RowKit
set_option linter.unusedVariables false
set_option maxRecDepth 100000
namespace Eg
theorem aR9:ConOk (aMx):=bN (cn kOnce (cn fH (cn aVa (cn aO3 (cz))))) A1 aOw
end Eg
end Go.Proofs.YtcbhdhmhidpdgaaGreatDoor

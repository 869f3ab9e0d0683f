import Derived.Test.YtcbhdhmhidpdgaaGreatEkE
namespace Go.Proofs.YtcbhdhmhidpdgaaGreat
open Go.RowKit
set_option linter.unusedVariables false
set_option maxRecDepth 100000
namespace Eg
theorem aTa:ConOk (aNt):=bQ (cn kOnce (cn fU (cn aWf (cn aP0 (cz))))) A1 aPt
end Eg
end Go.Proofs.YtcbhdhmhidpdgaaGreat

import Derived.Test.YtcbhdhmhidpdgaaGreatPackL
namespace Go.Proofs.YtcbhdhmhidpdgaaGreat
open Go.RowKit
set_option linter.unusedVariables false
set_option maxRecDepth 100000
namespace Eg
theorem aH0:bL ⟨true,true,[0,1,4,5,6,7,8,9,10,11,27,63,88,116,123,141],[],[(22,.bt),(99,.ii),(145,.rc 5)],[dX,eV,cEx (-10) 0 5,nP,cFa],175⟩ (jR 1 6) Tryz.f95=true:=by kernel_rfl
theorem aHz:bL ⟨true,true,[0,1,4,5,6,7,8,9,10,11,27,63,88,116,123,141],[],[(22,.bt),(99,.ii),(145,.rc 6)],[dX,eV,cEx (-10) 0 6,nP,cFa],175⟩ (jR 1 7) Tryz.f95=true:=by kernel_rfl
theorem aHy:bL ⟨true,true,[0,1,4,5,6,7,8,9,10,11,27,63,88,116,123,141],[],[(22,.bt),(99,.ii),(145,.rc 6)],[dX,eV,cEx (-10) 0 6,nP,cFa],175⟩ (jR 2 7) Tryz.f95=true:=by kernel_rfl
theorem aHx:bL ⟨true,true,[0,1,4,5,6,7,8,9,10,11,27,63,88,116,123,141],[],[(22,.bt),(99,.ii),(145,.rc 7)],[dX,eV,cEx (-10) 0 7,nP,cFa],175⟩ (jR 2 8) Tryz.f95=true:=by kernel_rfl
theorem aHw:bL ⟨true,true,[0,1,4,5,6,7,8,9,10,11,27,63,88,116,123,141],[],[(22,.bt),(99,.ii),(145,.rc 7)],[dX,eV,cEx 1 1 7,nP,cFa],175⟩ (jR 3 8) Tryz.f95=true:=by kernel_rfl
end Eg
end Go.Proofs.YtcbhdhmhidpdgaaGreat

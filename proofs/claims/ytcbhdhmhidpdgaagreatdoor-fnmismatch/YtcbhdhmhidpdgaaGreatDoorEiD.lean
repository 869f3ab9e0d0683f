import Derived.Test.YtcbhdhmhidpdgaaGreatDoorPackL
namespace Go.Proofs.YtcbhdhmhidpdgaaGreatDoor
open Go.RowKit
set_option linter.unusedVariables false
set_option maxRecDepth 100000
namespace Eg
theorem aHi:bJ ⟨true,true,[0,1,4,5,6,7,8,9,10,11,27,63,88,116,123,141],[],[(22,.bt),(32,.ii),(174,.rc 5)],[dU,eP,cEx (-10) 0 5,nG,cFa],175⟩ (jI 1 6) Tryz.f142=true:=by kernel_rfl
theorem aHh:bJ ⟨true,true,[0,1,4,5,6,7,8,9,10,11,27,63,88,116,123,141],[],[(22,.bt),(32,.ii),(174,.rc 6)],[dU,eP,cEx (-10) 0 6,nG,cFa],175⟩ (jI 1 7) Tryz.f142=true:=by kernel_rfl
theorem aHg:bJ ⟨true,true,[0,1,4,5,6,7,8,9,10,11,27,63,88,116,123,141],[],[(22,.bt),(32,.ii),(174,.rc 6)],[dU,eP,cEx (-10) 0 6,nG,cFa],175⟩ (jI 2 7) Tryz.f142=true:=by kernel_rfl
theorem aHf:bJ ⟨true,true,[0,1,4,5,6,7,8,9,10,11,27,63,88,116,123,141],[],[(22,.bt),(32,.ii),(174,.rc 7)],[dU,eP,cEx (-10) 0 7,nG,cFa],175⟩ (jI 2 8) Tryz.f142=true:=by kernel_rfl
theorem aHe:bJ ⟨true,true,[0,1,4,5,6,7,8,9,10,11,27,63,88,116,123,141],[],[(22,.bt),(32,.ii),(174,.rc 7)],[dU,eP,cEx 1 1 7,nG,cFa],175⟩ (jI 3 8) Tryz.f142=true:=by kernel_rfl
end Eg
end Go.Proofs.YtcbhdhmhidpdgaaGreatDoor

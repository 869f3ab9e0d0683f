import Derived.Test.YtcbhdhmhidpdgaaGreatPackL
namespace Go.Proofs.YtcbhdhmhidpdgaaGreat
open Go.RowKit
set_option linter.unusedVariables false
set_option maxRecDepth 100000
namespace Eg
theorem aPo:bL ⟨true,true,[0,1,4,5,6,7,8,9,21,22,37,60,68,96,99,124,134,176,183,188,194,206],[(157,.rc 8)],[(22,.bt),(145,.rc 8),(109,.rc 9)],[dX,eV,aAz,cV,yE 8,cEx 3 3 8,cEx 2 2 8,jR 3 8],217⟩ (cSt 0 9) Tryz.f91=true:=by kernel_rfl
theorem aMd:bL ⟨true,true,[0,1,4,5,6,7,8,9,21,22,37,60,68,96,99,124,134,176,183,188,194,206],[(157,.rc 9)],[(22,.bt),(145,.rc 8),(109,.rc 10)],[dX,eV,aAz,cV,yE 8,cEx 3 3 8,cEx 2 2 8,jR 3 8],217⟩ (cSt 0 10) Tryz.f91=true:=by kernel_rfl
theorem aMc:bL ⟨true,true,[0,1,4,5,6,7,8,9,21,22,37,60,68,96,99,124,134,176,183,188,194,206],[(157,.rc 9)],[(22,.bt),(145,.rc 8),(109,.rc 10)],[dX,eV,aAz,cV,yE 8,cEx 3 3 8,cEx 2 2 8,jR 3 8,tD 1 0 9,tD 2 0 9],217⟩ (cSt 1 10) Tryz.f91=true:=by kernel_rfl
theorem aMb:bL ⟨true,true,[0,1,4,5,6,7,8,9,21,22,37,60,68,96,99,124,134,176,183,188,194,206],[(157,.rc 10)],[(22,.bt),(145,.rc 8),(109,.rc 11)],[dX,eV,aAz,cV,yE 8,cEx 3 3 8,cEx 2 2 8,jR 3 8,tD 1 1 10,tD 2 1 10,tD 2 0 10],217⟩ (cSt 2 11) Tryz.f91=true:=by kernel_rfl
end Eg
end Go.Proofs.YtcbhdhmhidpdgaaGreat

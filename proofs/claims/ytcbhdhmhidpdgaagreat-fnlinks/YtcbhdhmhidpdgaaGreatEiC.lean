import Derived.Test.YtcbhdhmhidpdgaaGreatPackL
namespace Go.Proofs.YtcbhdhmhidpdgaaGreat
open Go.RowKit
set_option linter.unusedVariables false
set_option maxRecDepth 100000
namespace Eg
theorem aMj:bL ⟨true,true,[0,1,4,5,6,7,8,24,37,66,67,75,93,100,110,136,142,149,167,175,191],[],[(22,.bt),(99,.ii),(145,.rc 5)],[aAz,cV,dX,eV],215⟩ (cEx (-10) 0 5) Tryz.f69=true:=by kernel_rfl
theorem aMi:bL ⟨true,true,[0,1,4,5,6,7,8,24,37,66,67,75,93,100,110,136,142,149,167,175,191],[],[(22,.bt),(99,.ii),(145,.rc 5)],[aAz,cV,dX,eV],215⟩ (cEx (-10) 0 6) Tryz.f69=true:=by kernel_rfl
theorem aMh:bL ⟨true,true,[0,1,4,5,6,7,8,24,37,66,67,75,93,100,110,136,142,149,167,175,191],[],[(22,.bt),(99,.ii),(145,.rc 5)],[aAz,cV,dX,eV],215⟩ (cEx (-10) 0 7) Tryz.f69=true:=by kernel_rfl
theorem aMo:bL ⟨true,true,[0,1,4,5,6,7,8,24,37,66,67,75,93,100,110,136,142,149,167,175,191],[],[(22,.bt),(99,.ii),(145,.rc 5)],[dX,eV,aAz,cV,yE 6,cEx (-10) 0 5,jR 1 6],215⟩ (cEx 1 1 6) Tryz.f69=true:=by kernel_rfl
theorem aMn:bL ⟨true,true,[0,1,4,5,6,7,8,24,37,66,67,75,93,100,110,136,142,149,167,175,191],[],[(22,.bt),(99,.ii),(145,.rc 6)],[dX,eV,aAz,cV,yE 7,cEx (-10) 0 6,jR 1 7],215⟩ (cEx 1 1 7) Tryz.f69=true:=by kernel_rfl
theorem aMm:bL ⟨true,true,[0,1,4,5,6,7,8,24,37,66,67,75,93,100,110,136,142,149,167,175,191],[],[(22,.bt),(99,.ii),(145,.rc 6)],[dX,eV,aAz,cV,yE 7,cEx 1 1 6,cEx (-10) 0 6,jR 2 7],215⟩ (cEx 2 2 7) Tryz.f69=true:=by kernel_rfl
theorem aMl:bL ⟨true,true,[0,1,4,5,6,7,8,24,37,66,67,75,93,100,110,136,142,149,167,175,191],[],[(22,.bt),(99,.ii),(145,.rc 7)],[dX,eV,aAz,cV,yE 8,cEx 1 1 7,cEx (-10) 0 7,jR 2 8],215⟩ (cEx 2 2 8) Tryz.f69=true:=by kernel_rfl
theorem aMk:bL ⟨true,true,[0,1,4,5,6,7,8,24,37,66,67,75,93,100,110,136,142,149,167,175,191],[],[(22,.bt),(99,.ii),(145,.rc 7)],[dX,eV,aAz,cV,yE 8,cEx 2 2 7,cEx 1 1 7,jR 3 8],215⟩ (cEx 3 3 8) Tryz.f69=true:=by kernel_rfl
end Eg
end Go.Proofs.YtcbhdhmhidpdgaaGreat

import Derived.Test.YtcbhdhmhidpdgaaGreatDoorPackL
namespace Go.Proofs.YtcbhdhmhidpdgaaGreatDoor
open Go.RowKit
set_option linter.unusedVariables false
set_option maxRecDepth 100000
namespace Eg
theorem aOz:bJ ⟨true,false,[0,1,4],[],[],[],9⟩ (dU) Tryz.f10=true:=by kernel_rfl
theorem aOx:bJ ⟨true,false,[0,1,4],[],[],[],12⟩ (eP) Tryz.f141=true:=by kernel_rfl
theorem aVh:bJ ⟨true,false,[0,2,3],[],[],[],4⟩ (c4b) Tryz.f101=true:=by kernel_rfl
theorem aSb:bJ ⟨true,false,[0,2],[],[(22,.bt)],[],5⟩ (aAn) Tryz.f140=true:=by kernel_rfl
theorem kV_:bJ ⟨true,false,[0,2],[],[(22,.bt)],[],5⟩ (cV) Tryz.f139=true:=by kernel_rfl
theorem aO9:bJ ⟨true,false,[0,1,2,4,5,6],[],[(174,.rc 5)],[],12⟩ (xT 6) Tryz.f143=true:=by kernel_rfl
theorem aO7:bJ ⟨true,false,[0,1,2,4,5,6],[],[(174,.rc 6)],[],12⟩ (xT 7) Tryz.f143=true:=by kernel_rfl
theorem aO6:bJ ⟨true,false,[0,1,2,4,5,6],[],[(174,.rc 7)],[],12⟩ (xT 8) Tryz.f143=true:=by kernel_rfl
theorem aLn:bJ ⟨true,false,[0,1,2,3,4,9],[],[(32,.ii)],[c4b],23⟩ (nG) Tryz.f51=true:=by kernel_rfl
theorem aHb:bJ ⟨true,true,[0,1,2,6,7,8,18],[],[],[dU,eP,cSt 0 9],27⟩ (sW 1 0 9) Tryz.f99=true:=by kernel_rfl
theorem aG8:bJ ⟨true,true,[0,1,2,6,7,8,18],[],[],[dU,eP,cSt 0 9],27⟩ (sW 2 0 9) Tryz.f99=true:=by kernel_rfl
theorem aDy:bJ ⟨true,true,[0,1,2,6,7,8,18],[],[],[dU,eP,cSt 0 10],27⟩ (sW 2 0 10) Tryz.f99=true:=by kernel_rfl
theorem aDz:bJ ⟨true,true,[0,1,2,6,7,8,18],[],[],[dU,eP,cSt 1 10],27⟩ (sW 1 1 10) Tryz.f99=true:=by kernel_rfl
theorem aDx:bJ ⟨true,true,[0,1,2,6,7,8,18],[],[],[dU,eP,cSt 1 10],27⟩ (sW 2 1 10) Tryz.f99=true:=by kernel_rfl
theorem aDw:bJ ⟨true,true,[0,1,2,6,7,8,18],[],[],[dU,eP,cSt 2 11],27⟩ (sW 5 2 11) Tryz.f99=true:=by kernel_rfl
theorem aO2:bJ ⟨true,false,[0,1,2,3,4,14,22],[],[(22,.bt),(78,.rc 3)],[nG],44⟩ (aIj) Tryz.f26=true:=by kernel_rfl
theorem aOw:bJ ⟨true,false,[0,1,4,5,6,7,8,9,10,16],[],[(130,.st),(48,.rc 13),(49,.rc 4)],[dU,eP,aAo,aIj],43⟩ (aMx) Tryz.f25=true:=by kernel_rfl
theorem aSf:bJ ⟨true,false,[0,2,4],[],[(32,.ii)],[dU,eP],11⟩ (aTo) Tryz.f187=true:=by kernel_rfl
theorem aLl:bJ ⟨true,false,[0,2],[],[],[aTo,vC],6⟩ (aE7) Tryz.f178=true:=by kernel_rfl
theorem aSc:bJ ⟨true,false,[0,2,3,20],[],[],[dU,aE7],25⟩ (aTk) Tryz.f156=true:=by kernel_rfl
theorem aLm:bJ ⟨true,false,[0,2,4,5,10,17,25,35,46,53],[],[],[dU,aTk],67⟩ (aE8) Tryz.f117=true:=by kernel_rfl
theorem aOy:bJ ⟨true,false,[0,1,2,3,4,5,6,7,23,46],[],[(22,.bt),(36,.rc 18),(37,.rc 19)],[],71⟩ (cOwnO) Tryz.f59=true:=by kernel_rfl
theorem aR8:bJ ⟨true,false,[0,1,2,4,6,7,8,9,10,11,12,13,17,32,74],[],[(22,.bt),(36,.rc 18),(37,.rc 19)],[dU,aTn,aMw],110⟩ (aTe) Tryz.f28=true:=by kernel_rfl
theorem aPa:bJ ⟨false,false,[0,1,4,5,8,15,22,34,44,50,70,74,80,84],[],[(22,.bt),(23,.rc 20),(37,.rc 19)],[dU],92⟩ (aP5) Tryz.f11=true:=by kernel_rfl
end Eg
end Go.Proofs.YtcbhdhmhidpdgaaGreatDoor

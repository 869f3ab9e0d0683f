import Derived.Test.YtcbhdhmhidpdgaaGreatPackL
namespace Go.Proofs.YtcbhdhmhidpdgaaGreat
open Go.RowKit
set_option linter.unusedVariables false
set_option maxRecDepth 100000
namespace Eg
theorem aPw:bL ⟨true,false,[0,1,4],[],[],[],9⟩ (dX) Tryz.f10=true:=by kernel_rfl
theorem aPu:bL ⟨true,false,[0,1,4],[],[],[],12⟩ (eV) Tryz.f94=true:=by kernel_rfl
theorem aWm:bL ⟨true,false,[0,2,3],[],[],[],4⟩ (c4b) Tryz.f70=true:=by kernel_rfl
theorem aTc:bL ⟨true,false,[0,2],[],[(22,.bt)],[],5⟩ (aAz) Tryz.f93=true:=by kernel_rfl
theorem kV_:bL ⟨true,false,[0,2],[],[(22,.bt)],[],5⟩ (cV) Tryz.f92=true:=by kernel_rfl
theorem aP6:bL ⟨true,false,[0,1,2,4,5,6],[],[(145,.rc 5)],[],12⟩ (yE 6) Tryz.f96=true:=by kernel_rfl
theorem aP4:bL ⟨true,false,[0,1,2,4,5,6],[],[(145,.rc 6)],[],12⟩ (yE 7) Tryz.f96=true:=by kernel_rfl
theorem aP3:bL ⟨true,false,[0,1,2,4,5,6],[],[(145,.rc 7)],[],12⟩ (yE 8) Tryz.f96=true:=by kernel_rfl
theorem aMg:bL ⟨true,false,[0,1,2,3,4,9],[],[(99,.ii)],[c4b],23⟩ (nP) Tryz.f44=true:=by kernel_rfl
theorem aHt:bL ⟨true,true,[0,1,2,6,7,8,18],[],[],[dX,eV,cSt 0 9],27⟩ (tD 1 0 9) Tryz.f68=true:=by kernel_rfl
theorem aHq:bL ⟨true,true,[0,1,2,6,7,8,18],[],[],[dX,eV,cSt 0 9],27⟩ (tD 2 0 9) Tryz.f68=true:=by kernel_rfl
theorem aEe:bL ⟨true,true,[0,1,2,6,7,8,18],[],[],[dX,eV,cSt 0 10],27⟩ (tD 2 0 10) Tryz.f68=true:=by kernel_rfl
theorem aEf:bL ⟨true,true,[0,1,2,6,7,8,18],[],[],[dX,eV,cSt 1 10],27⟩ (tD 1 1 10) Tryz.f68=true:=by kernel_rfl
theorem aEd:bL ⟨true,true,[0,1,2,6,7,8,18],[],[],[dX,eV,cSt 1 10],27⟩ (tD 2 1 10) Tryz.f68=true:=by kernel_rfl
theorem aEc:bL ⟨true,true,[0,1,2,6,7,8,18],[],[],[dX,eV,cSt 2 11],27⟩ (tD 5 2 11) Tryz.f68=true:=by kernel_rfl
theorem aPz:bL ⟨true,false,[0,1,2,3,4,14,22],[],[(22,.bt),(73,.rc 3)],[nP],44⟩ (aI3) Tryz.f23=true:=by kernel_rfl
theorem aPt:bL ⟨true,false,[0,1,4,5,6,7,8,9,10,16],[],[(106,.st),(47,.rc 13),(48,.rc 4)],[dX,eV,aA0,aI3],43⟩ (aNt) Tryz.f22=true:=by kernel_rfl
theorem aTg:bL ⟨true,false,[0,2,4],[],[(99,.ii)],[dX,eV],11⟩ (aUr) Tryz.f124=true:=by kernel_rfl
theorem aMe:bL ⟨true,false,[0,2],[],[],[aUr,vP],6⟩ (aFp) Tryz.f119=true:=by kernel_rfl
theorem aTd:bL ⟨true,false,[0,2,3,20],[],[],[dX,aFp],25⟩ (aUn) Tryz.f109=true:=by kernel_rfl
theorem aMf:bL ⟨true,false,[0,2,4,5,10,17,25,35,46,53],[],[],[dX,aUn],67⟩ (aFq) Tryz.f86=true:=by kernel_rfl
theorem aPv:bL ⟨true,false,[0,1,2,3,4,5,6,7,23,46],[],[(22,.bt),(33,.rc 18),(34,.rc 19)],[],71⟩ (cOwnO) Tryz.f52=true:=by kernel_rfl
theorem aS9:bL ⟨true,false,[0,1,2,4,6,7,8,9,10,11,12,13,17,32,74],[],[(22,.bt),(33,.rc 18),(34,.rc 19)],[dX,aUq,aNs],110⟩ (aUh) Tryz.f25=true:=by kernel_rfl
theorem aP7:bL ⟨false,false,[0,1,4,5,8,15,22,34,44,50,70,74,80,84],[],[(22,.bt),(23,.rc 20),(34,.rc 19)],[dX],92⟩ (aQ4) Tryz.f11=true:=by kernel_rfl
end Eg
end Go.Proofs.YtcbhdhmhidpdgaaGreat

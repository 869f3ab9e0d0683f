import Derived.Test.YtffphdacgblaoaaGreatDoorPackAF
namespace Go.Proofs.YtffphdacgblaoaaGreatDoor
open Go.RowKit
set_option linter.unusedVariables false
set_option maxRecDepth 100000
namespace Eg
theorem aOs:aGd ⟨true,false,[0,1,4],[],[],[],9⟩ (aJc) Tryz.f29=true:=by kernel_rfl
theorem aV2:aGd ⟨true,false,[0,1,4],[],[],[],12⟩ (aRx) Tryz.f71=true:=by kernel_rfl
theorem aWy:aGd ⟨true,false,[0,2,3],[],[],[],4⟩ (c4b) Tryz.f98=true:=by kernel_rfl
theorem aWm:aGd ⟨true,false,[0,2],[],[(22,.bt)],[],5⟩ (aTz) Tryz.f72=true:=by kernel_rfl
theorem kV_:aGd ⟨true,false,[0,2],[],[(22,.bt)],[],5⟩ (cV) Tryz.f122=true:=by kernel_rfl
theorem aWg:aGd ⟨true,false,[0,1,2,4,5,6],[],[(114,.rc 5)],[],12⟩ (aT0 6) Tryz.f124=true:=by kernel_rfl
theorem aWe:aGd ⟨true,false,[0,1,2,4,5,6],[],[(114,.rc 6)],[],12⟩ (aT0 7) Tryz.f124=true:=by kernel_rfl
theorem aWd:aGd ⟨true,false,[0,1,2,4,5,6],[],[(114,.rc 7)],[],12⟩ (aT0 8) Tryz.f124=true:=by kernel_rfl
theorem aVe:aGd ⟨true,false,[0,1,2,3,4,9],[],[(56,.ii)],[c4b],23⟩ (aTq) Tryz.f69=true:=by kernel_rfl
theorem aUq:aGd ⟨true,true,[0,1,2,6,7,8,18],[],[],[aJc,aRx,cSt 0 9],27⟩ (aTe 1 0 9) Tryz.f96=true:=by kernel_rfl
theorem aUn:aGd ⟨true,true,[0,1,2,6,7,8,18],[],[],[aJc,aRx,cSt 0 9],27⟩ (aTe 2 0 9) Tryz.f96=true:=by kernel_rfl
theorem aUf:aGd ⟨true,true,[0,1,2,6,7,8,18],[],[],[aJc,aRx,cSt 0 10],27⟩ (aTe 2 0 10) Tryz.f96=true:=by kernel_rfl
theorem aUg:aGd ⟨true,true,[0,1,2,6,7,8,18],[],[],[aJc,aRx,cSt 1 10],27⟩ (aTe 1 1 10) Tryz.f96=true:=by kernel_rfl
theorem aUe:aGd ⟨true,true,[0,1,2,6,7,8,18],[],[],[aJc,aRx,cSt 1 10],27⟩ (aTe 2 1 10) Tryz.f96=true:=by kernel_rfl
theorem aUd:aGd ⟨true,true,[0,1,2,6,7,8,18],[],[],[aJc,aRx,cSt 2 11],27⟩ (aTe 5 2 11) Tryz.f96=true:=by kernel_rfl
theorem aV8:aGd ⟨true,false,[0,1,2,3,4,14,22],[],[(22,.bt),(33,.rc 3)],[aTq],44⟩ (aUy) Tryz.f31=true:=by kernel_rfl
theorem aVd:aGd ⟨true,false,[0,1,2,3,4,22],[],[(22,.bt),(114,.rc 5)],[],37⟩ (aTo 5) Tryz.f99=true:=by kernel_rfl
theorem aVc:aGd ⟨true,false,[0,1,2,3,4,22],[],[(22,.bt),(114,.rc 5)],[aTo 5],37⟩ (aTo 6) Tryz.f99=true:=by kernel_rfl
theorem aVb:aGd ⟨true,false,[0,1,2,3,4,22],[],[(22,.bt),(114,.rc 6)],[aTo 6],37⟩ (aTo 7) Tryz.f99=true:=by kernel_rfl
theorem aVa:aGd ⟨true,false,[0,1,2,3,4,22],[],[(22,.bt),(114,.rc 7)],[aTo 7],37⟩ (aTo 8) Tryz.f99=true:=by kernel_rfl
theorem aV3:aGd ⟨true,false,[0,2,3,4,5,6,10,50],[],[(22,.bt),(114,.rc 8),(53,.rc 0)],[aTo 8],72⟩ (aUx) Tryz.f70=true:=by kernel_rfl
theorem aUi:aGd ⟨true,false,[0,2,3,4,5,6,10,50],[],[(22,.bt),(114,.rc 8),(53,.rc 9)],[aTo 8,aUx],72⟩ (aTp 9 1 9) Tryz.f70=true:=by kernel_rfl
theorem aUh:aGd ⟨true,false,[0,2,3,4,5,6,10,50],[],[(22,.bt),(114,.rc 8),(53,.rc 9)],[aTo 8,aUx],72⟩ (aTp 9 3 9) Tryz.f70=true:=by kernel_rfl
theorem aTy:aGd ⟨true,false,[0,2,3,4,5,6,10,50],[],[(22,.bt),(114,.rc 8),(53,.rc 10)],[aTo 8,aTp 9 1 9,aTp 9 3 9],72⟩ (aTp 10 2 10) Tryz.f70=true:=by kernel_rfl
theorem aTx:aGd ⟨true,false,[0,2,3,4,5,6,10,50],[],[(22,.bt),(114,.rc 8),(53,.rc 10)],[aTo 8,aTp 9 1 9,aTp 9 3 9],72⟩ (aTp 10 4 10) Tryz.f70=true:=by kernel_rfl
theorem aTu:aGd ⟨true,false,[0,2,3,4,5,6,10,50],[],[(22,.bt),(114,.rc 8),(53,.rc 14)],[aTo 8,aTp 10 2 10,aTp 10 4 10],72⟩ (aTp 11 11 14) Tryz.f70=true:=by kernel_rfl
theorem aWl:aGd ⟨true,false,[0,1,2,3,4,5,6,7,8,9,10,20,39,66,88,115],[],[(22,.bt),(23,.rc 0),(24,.rc 1),(25,.rc 15),(52,.rc 2)],[aTp 11 11 14],137⟩ (aWp) Tryz.f32=true:=by kernel_rfl
theorem aV1:aGd ⟨true,false,[0,1,4,5,6,7,8,9,10,16],[],[(108,.st),(67,.rc 13),(28,.rc 4)],[aJc,aRx,aT6,aUy],43⟩ (aVu) Tryz.f28=true:=by kernel_rfl
theorem aWc:aGd ⟨false,false,[0,2,3,4,5,6,7,8,19,36,46,48,55,59],[],[(22,.bt),(28,.rc 4)],[aJc,aRx,aUy,aVu,aWp,aVt],68⟩ (aWi) Tryz.f10=true:=by kernel_rfl
end Eg
end Go.Proofs.YtffphdacgblaoaaGreatDoor

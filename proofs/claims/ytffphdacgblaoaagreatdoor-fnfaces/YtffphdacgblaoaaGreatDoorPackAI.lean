import Derived.Test.YtffphdacgblaoaaGreatDoorPackAF
namespace Go.Proofs.YtffphdacgblaoaaGreatDoor
open Go.RowKit
set_option linter.unusedVariables false
set_option maxRecDepth 100000
namespace Eg
theorem aUv:aGd ⟨true,true,[0,1,4,5,6,7,8,9,10,11,27,63,88,116,123,141],[],[(22,.bt),(56,.ii),(114,.rc 5)],[aJc,aRx,cEx (-10) 0 5,aTq,cFa],175⟩ (aTl 1 6) Tryz.f123=true:=by kernel_rfl
theorem aUu:aGd ⟨true,true,[0,1,4,5,6,7,8,9,10,11,27,63,88,116,123,141],[],[(22,.bt),(56,.ii),(114,.rc 6)],[aJc,aRx,cEx (-10) 0 6,aTq,cFa],175⟩ (aTl 1 7) Tryz.f123=true:=by kernel_rfl
theorem aUt:aGd ⟨true,true,[0,1,4,5,6,7,8,9,10,11,27,63,88,116,123,141],[],[(22,.bt),(56,.ii),(114,.rc 6)],[aJc,aRx,cEx (-10) 0 6,aTq,cFa],175⟩ (aTl 2 7) Tryz.f123=true:=by kernel_rfl
theorem aUs:aGd ⟨true,true,[0,1,4,5,6,7,8,9,10,11,27,63,88,116,123,141],[],[(22,.bt),(56,.ii),(114,.rc 7)],[aJc,aRx,cEx (-10) 0 7,aTq,cFa],175⟩ (aTl 2 8) Tryz.f123=true:=by kernel_rfl
theorem aUr:aGd ⟨true,true,[0,1,4,5,6,7,8,9,10,11,27,63,88,116,123,141],[],[(22,.bt),(56,.ii),(114,.rc 7)],[aJc,aRx,cEx 1 1 7,aTq,cFa],175⟩ (aTl 3 8) Tryz.f123=true:=by kernel_rfl
end Eg
namespace Eg
theorem aVw:aGd ⟨false,false,[0,1,3,4,5,6,8,16,33,39,65,72,79,87,104,117,130,142,157],[(47,.rc 7)],[(22,.bt),(56,.ii),(108,.st),(23,.rc 0),(24,.rc 1),(25,.rc 15),(52,.rc 2),(53,.rc 14),(114,.rc 8)],[aJc,aRx,aTz],174⟩ (aVt) Tryz.f33=true:=by kernel_rfl
end Eg
end Go.Proofs.YtffphdacgblaoaaGreatDoor

import Derived.Test.YtffphdacgblaoaaGreatDoorPackAE
namespace Go.Proofs.YtffphdacgblaoaaGreatDoor
open Go.RowKit
set_option linter.unusedVariables false
set_option maxRecDepth 100000
namespace Eg
def aJc:Con:=⟨29,true,[.cur,.int mn 1000000],.bool,false⟩
def aRx:Con:=⟨71,true,[.cur,.sl .ii 1 100],.int mn mx,true⟩
def c4b:Con:=⟨98,true,[.bool],.int 0 1,true⟩
def aTz:Con:=⟨72,true,[.int mn mx],.num,true⟩
def cV:Con:=⟨122,true,[.sl .bt 0 4],.vr,true⟩
def aT0 (t:Nat):Con:=⟨124,true,[.int mn mx,.rc (t-1),.rc (t-1)],.rc t,true⟩
def cEx (lo hi:Int)(t:Nat):Con:=⟨97,true,[.gen,.int lo hi],.rc t,true⟩
def aTl (d:Int)(t:Nat):Con:=⟨123,true,[.gen,.int d d],.tb t,true⟩
def aTq:Con:=⟨69,true,[.rc 12],.sl .ii 0 3,true⟩
def cFa:Con:=⟨140,true,[.fa,.un],.ixf,true⟩
def cSt (d:Int)(S:Nat):Con:=⟨121,true,[.gen,.int d d],.sl (.rc S) 1 (if d<=0 then 1 else 2),true⟩
def aTe (N:Nat)(d:Int)(S:Nat):Con:=⟨96,true,[.gen,.int 0 N,.int d d],.sl (.rc S) 0 (N*(if d<=0 then 1 else 2)),true⟩
def aTo (t:Nat):Con:=⟨99,true,[.rc t],.rc t,true⟩
def aTp (S m O:Nat):Con:=⟨70,true,[.sl (.rc S) 0 m],.sl (.rc O) 0 m,true⟩
def aUx:Con:=⟨70,true,[.sl (.rc 0) 0 0],.sl (.rc 0) 0 0,true⟩
def aT6:Con:=⟨67,true,[.cur,.str,.sl (.rc 4) 0 2,.bool,.bool],.rc 13,true⟩
def aUy:Con:=⟨31,true,[.rc 13],.rc 4,true⟩
def aVu:Con:=⟨28,true,[.cur,.bool],.sl (.rc 13) 1 3,true⟩
def aWp:Con:=⟨32,true,[.rc 13],.rc 17,true⟩
def aVt:Con:=⟨33,false,[.cur,.rc 17],.rc 16,true⟩
def aWi:Con:=⟨10,false,[.cur],.ts 16 (.rc 4) 0 3,true⟩
theorem cn {k:Con}{l:List Con}(h:qK k)(hl:∀c ∈ l,qK c):∀c ∈ k :: l,qK c:=fun c hc=>by
  rcases zG3.1 hc with rfl|hc
  . exact h
  . exact hl c hc
theorem cz:∀c ∈ ([]:List Con),qK c:=fun c hc=>by cases hc
end Eg
namespace Eg
theorem aVy:aGd ⟨true,true,[0,1,4,5,6,7,8,9,21,22,37,60,68,96,99,124,134,176,183,188,194,206],[(157,.rc 8)],[(22,.bt),(114,.rc 8),(53,.rc 9)],[aJc,aRx,aTz,cV,aT0 8,cEx 3 3 8,cEx 2 2 8,aTl 3 8],217⟩ (cSt 0 9) Tryz.f121=true:=by kernel_rfl
theorem aU9:aGd ⟨true,true,[0,1,4,5,6,7,8,9,21,22,37,60,68,96,99,124,134,176,183,188,194,206],[(157,.rc 9)],[(22,.bt),(114,.rc 8),(53,.rc 10)],[aJc,aRx,aTz,cV,aT0 8,cEx 3 3 8,cEx 2 2 8,aTl 3 8],217⟩ (cSt 0 10) Tryz.f121=true:=by kernel_rfl
theorem aU8:aGd ⟨true,true,[0,1,4,5,6,7,8,9,21,22,37,60,68,96,99,124,134,176,183,188,194,206],[(157,.rc 9)],[(22,.bt),(114,.rc 8),(53,.rc 10)],[aJc,aRx,aTz,cV,aT0 8,cEx 3 3 8,cEx 2 2 8,aTl 3 8,aTe 1 0 9,aTe 2 0 9],217⟩ (cSt 1 10) Tryz.f121=true:=by kernel_rfl
theorem aU7:aGd ⟨true,true,[0,1,4,5,6,7,8,9,21,22,37,60,68,96,99,124,134,176,183,188,194,206],[(157,.rc 10)],[(22,.bt),(114,.rc 8),(53,.rc 11)],[aJc,aRx,aTz,cV,aT0 8,cEx 3 3 8,cEx 2 2 8,aTl 3 8,aTe 1 1 10,aTe 2 1 10,aTe 2 0 10],217⟩ (cSt 2 11) Tryz.f121=true:=by kernel_rfl
end Eg
namespace Eg
theorem aVh:aGd ⟨true,true,[0,1,4,5,6,7,8,24,37,66,67,75,93,100,110,136,142,149,167,175,191],[],[(22,.bt),(56,.ii),(114,.rc 5)],[aTz,cV,aJc,aRx],215⟩ (cEx (-10) 0 5) Tryz.f97=true:=by kernel_rfl
theorem aVg:aGd ⟨true,true,[0,1,4,5,6,7,8,24,37,66,67,75,93,100,110,136,142,149,167,175,191],[],[(22,.bt),(56,.ii),(114,.rc 5)],[aTz,cV,aJc,aRx],215⟩ (cEx (-10) 0 6) Tryz.f97=true:=by kernel_rfl
theorem aVf:aGd ⟨true,true,[0,1,4,5,6,7,8,24,37,66,67,75,93,100,110,136,142,149,167,175,191],[],[(22,.bt),(56,.ii),(114,.rc 5)],[aTz,cV,aJc,aRx],215⟩ (cEx (-10) 0 7) Tryz.f97=true:=by kernel_rfl
theorem aVm:aGd ⟨true,true,[0,1,4,5,6,7,8,24,37,66,67,75,93,100,110,136,142,149,167,175,191],[],[(22,.bt),(56,.ii),(114,.rc 5)],[aJc,aRx,aTz,cV,aT0 6,cEx (-10) 0 5,aTl 1 6],215⟩ (cEx 1 1 6) Tryz.f97=true:=by kernel_rfl
theorem aVl:aGd ⟨true,true,[0,1,4,5,6,7,8,24,37,66,67,75,93,100,110,136,142,149,167,175,191],[],[(22,.bt),(56,.ii),(114,.rc 6)],[aJc,aRx,aTz,cV,aT0 7,cEx (-10) 0 6,aTl 1 7],215⟩ (cEx 1 1 7) Tryz.f97=true:=by kernel_rfl
theorem aVk:aGd ⟨true,true,[0,1,4,5,6,7,8,24,37,66,67,75,93,100,110,136,142,149,167,175,191],[],[(22,.bt),(56,.ii),(114,.rc 6)],[aJc,aRx,aTz,cV,aT0 7,cEx 1 1 6,cEx (-10) 0 6,aTl 2 7],215⟩ (cEx 2 2 7) Tryz.f97=true:=by kernel_rfl
theorem aVj:aGd ⟨true,true,[0,1,4,5,6,7,8,24,37,66,67,75,93,100,110,136,142,149,167,175,191],[],[(22,.bt),(56,.ii),(114,.rc 7)],[aJc,aRx,aTz,cV,aT0 8,cEx 1 1 7,cEx (-10) 0 7,aTl 2 8],215⟩ (cEx 2 2 8) Tryz.f97=true:=by kernel_rfl
theorem aVi:aGd ⟨true,true,[0,1,4,5,6,7,8,24,37,66,67,75,93,100,110,136,142,149,167,175,191],[],[(22,.bt),(56,.ii),(114,.rc 7)],[aJc,aRx,aTz,cV,aT0 8,cEx 2 2 7,cEx 1 1 7,aTl 3 8],215⟩ (cEx 3 3 8) Tryz.f97=true:=by kernel_rfl
end Eg
end Go.Proofs.YtffphdacgblaoaaGreatDoor

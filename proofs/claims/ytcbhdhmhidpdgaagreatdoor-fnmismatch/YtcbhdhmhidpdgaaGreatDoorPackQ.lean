import Derived.Test.YtcbhdhmhidpdgaaGreatDoorEiD
import Derived.Test.YtcbhdhmhidpdgaaGreatDoorEiF
import Derived.Test.YtcbhdhmhidpdgaaGreatDoorPackN
namespace Go.Proofs.YtcbhdhmhidpdgaaGreatDoor
open Go.RowKit
set_option linter.unusedVariables false
set_option maxRecDepth 100000
set_option linter.unusedSimpArgs false
namespace Eg
theorem aOr:bJ ⟨true,true,[0,1,4,5,6,7,8,9,21,22,37,60,68,96,99,124,134,176,183,188,194,206],[(157,.rc 8)],[(22,.bt),(174,.rc 8),(133,.rc 9)],[dU,eP,aAn,cV,xT 8,cEx 3 3 8,cEx 2 2 8,jI 3 8],217⟩ (cSt 0 9) Tryz.f138=true:=by kernel_rfl
theorem aLk:bJ ⟨true,true,[0,1,4,5,6,7,8,9,21,22,37,60,68,96,99,124,134,176,183,188,194,206],[(157,.rc 9)],[(22,.bt),(174,.rc 8),(133,.rc 10)],[dU,eP,aAn,cV,xT 8,cEx 3 3 8,cEx 2 2 8,jI 3 8],217⟩ (cSt 0 10) Tryz.f138=true:=by kernel_rfl
theorem aLj:bJ ⟨true,true,[0,1,4,5,6,7,8,9,21,22,37,60,68,96,99,124,134,176,183,188,194,206],[(157,.rc 9)],[(22,.bt),(174,.rc 8),(133,.rc 10)],[dU,eP,aAn,cV,xT 8,cEx 3 3 8,cEx 2 2 8,jI 3 8,sW 1 0 9,sW 2 0 9],217⟩ (cSt 1 10) Tryz.f138=true:=by kernel_rfl
theorem aLi:bJ ⟨true,true,[0,1,4,5,6,7,8,9,21,22,37,60,68,96,99,124,134,176,183,188,194,206],[(157,.rc 10)],[(22,.bt),(174,.rc 8),(133,.rc 11)],[dU,eP,aAn,cV,xT 8,cEx 3 3 8,cEx 2 2 8,jI 3 8,sW 1 1 10,sW 2 1 10,sW 2 0 10],217⟩ (cSt 2 11) Tryz.f138=true:=by kernel_rfl
end Eg
namespace Eg
theorem aLq:bJ ⟨true,true,[0,1,4,5,6,7,8,24,37,66,67,75,93,100,110,136,142,149,167,175,191],[],[(22,.bt),(32,.ii),(174,.rc 5)],[aAn,cV,dU,eP],215⟩ (cEx (-10) 0 5) Tryz.f100=true:=by kernel_rfl
theorem aLp:bJ ⟨true,true,[0,1,4,5,6,7,8,24,37,66,67,75,93,100,110,136,142,149,167,175,191],[],[(22,.bt),(32,.ii),(174,.rc 5)],[aAn,cV,dU,eP],215⟩ (cEx (-10) 0 6) Tryz.f100=true:=by kernel_rfl
theorem aLo:bJ ⟨true,true,[0,1,4,5,6,7,8,24,37,66,67,75,93,100,110,136,142,149,167,175,191],[],[(22,.bt),(32,.ii),(174,.rc 5)],[aAn,cV,dU,eP],215⟩ (cEx (-10) 0 7) Tryz.f100=true:=by kernel_rfl
theorem aLv:bJ ⟨true,true,[0,1,4,5,6,7,8,24,37,66,67,75,93,100,110,136,142,149,167,175,191],[],[(22,.bt),(32,.ii),(174,.rc 5)],[dU,eP,aAn,cV,xT 6,cEx (-10) 0 5,jI 1 6],215⟩ (cEx 1 1 6) Tryz.f100=true:=by kernel_rfl
theorem aLu:bJ ⟨true,true,[0,1,4,5,6,7,8,24,37,66,67,75,93,100,110,136,142,149,167,175,191],[],[(22,.bt),(32,.ii),(174,.rc 6)],[dU,eP,aAn,cV,xT 7,cEx (-10) 0 6,jI 1 7],215⟩ (cEx 1 1 7) Tryz.f100=true:=by kernel_rfl
theorem aLt:bJ ⟨true,true,[0,1,4,5,6,7,8,24,37,66,67,75,93,100,110,136,142,149,167,175,191],[],[(22,.bt),(32,.ii),(174,.rc 6)],[dU,eP,aAn,cV,xT 7,cEx 1 1 6,cEx (-10) 0 6,jI 2 7],215⟩ (cEx 2 2 7) Tryz.f100=true:=by kernel_rfl
theorem aLs:bJ ⟨true,true,[0,1,4,5,6,7,8,24,37,66,67,75,93,100,110,136,142,149,167,175,191],[],[(22,.bt),(32,.ii),(174,.rc 7)],[dU,eP,aAn,cV,xT 8,cEx 1 1 7,cEx (-10) 0 7,jI 2 8],215⟩ (cEx 2 2 8) Tryz.f100=true:=by kernel_rfl
theorem aLr:bJ ⟨true,true,[0,1,4,5,6,7,8,24,37,66,67,75,93,100,110,136,142,149,167,175,191],[],[(22,.bt),(32,.ii),(174,.rc 7)],[dU,eP,aAn,cV,xT 8,cEx 2 2 7,cEx 1 1 7,jI 3 8],215⟩ (cEx 3 3 8) Tryz.f100=true:=by kernel_rfl
end Eg
namespace Eg
theorem aOp:bJ ⟨true,false,[0,1,2,6,7,8,9,10,11,12,13,14,26,35,58,78,89],[],[(22,.bt),(32,.ii),(192,.rc 22),(141,.rc 21),(36,.rc 18)],[dU,aE8,aJv,cL4 100,aTn],119⟩ (aMw) Tryz.f60=true:=by kernel_rfl
theorem aLf:bJ ⟨true,false,[0,1,4,5,6,7,8,9,10,11,12,13,14,15,22,53],[],[(23,.rc 20),(47,.rc 23),(48,.rc 24),(49,.rc 4)],[dU,aMx,aIj,vD,aTe],92⟩ (aJu) Tryz.f9=true:=by kernel_rfl
end Eg
namespace Eg
theorem kFa:ConOk cFa:=by
 intro τ w I vs hT Dm Ep Bs;obtain⟨v0,_,rfl,⟨rfl,hf,hf2⟩,v1,_,rfl,⟨hn,b,o,n,c,j,e0,hj,hc⟩,rfl⟩:=Bs;obtain⟨fs,hl,hR,_⟩:=aNz hT hf hf2;obtain⟨l,hb,_⟩:=rd_b (m:=ln v1) hT ⟨_,zB0 _,hn⟩;obtain⟨a',c',e1,hL⟩:=hR.list;obtain⟨ax,cx,e2,hB,_⟩:=hb;rw[e0]at e1;simp only[Value.slice.injEq]at e1;obtain⟨rfl,en,rfl⟩:=e1;rw[zB2]at en;show Calls Tryz.prog 105 #[I.fa,v1] w _
 rw[e0,e2];refine(pB fs _ n c w hL en.symm ax l.length cx l hB).mono ?_;rintro e w' ⟨rfl,hg⟩;have Fh:=aA hg;obtain⟨f,hfj⟩:∃f,fs[j]?=some f:=⟨_,zA0 A0⟩
 have hrec:=hL.el (show(fs.map Fa.fl)[j]?=some f.fl by rw[zA2,hfj];rfl);obtain⟨⟨v,hv,a,c2,e3,Cv,_⟩,_⟩:=hrec;rw[show o+j*2=o+2*j by omega,hc]at hv;cases hv;rw[e2]at e3;simp only[Value.slice.injEq]at e3;obtain⟨rfl,e4,rfl⟩:=e3;rw[<-e4]at Cv;have hx:=aE9 hB Cv;have hm:l ∈ fs.map Fa.name:=by rw[hx];exact List.mem_map_of_mem (zA3 hfj)
 cases hi:ix (fs.map Fa.name) l with
 | none=>exact absurd hm (aD3.1 hi)| some i=>
  have h2:=(wO hi).1;have h3:=(zC1.1 h2).1;rw[zB2]at h3;refine⟨_,τ,rfl,((Fr.refl (st:=true) (K:=[]) hT).below Fh).fr,fun _ h9=>h9,⟨(fun h9=>by cases h9),(fun h9=>by cases h9)⟩,i, ?_, ?_⟩
  .
   rw[cJ hi]
  .
   rw[e0];show i<n;omega
end Eg
namespace Eg
theorem kOnce:ConOk (dU):=bN (cz) A1 aOz
theorem fH:ConOk (eP):=bN (cz) A1 aOx
theorem k4b:ConOk (c4b):=bN (cz) A1 aVh
theorem aCl:ConOk (aAn):=bN (cz) A1 aSb
theorem kV:ConOk (cV):=bN (cz) A1 kV_
theorem aSe:ConOk (xT 6):=bN (cz) A1 aO9
theorem aO8:ConOk (xT 7):=bN (cz) A1 aO7
theorem aBr:ConOk (xT 8):=bN (cz) A1 aO6
theorem aSa:ConOk (cOwnO):=bN (cz) A1 aOy
theorem qN:ConOk (nG):=bN (cn k4b (cz)) A1 aLn
theorem aJk:ConOk (cEx (-10) 0 5):=bN (cn aCl (cn kV (cn kOnce (cn fH (cz))))) A1 aLq
theorem zO:ConOk (cEx (-10) 0 6):=bN (cn aCl (cn kV (cn kOnce (cn fH (cz))))) A1 aLp
theorem aJj:ConOk (cEx (-10) 0 7):=bN (cn aCl (cn kV (cn kOnce (cn fH (cz))))) A1 aLo
theorem aVg:ConOk (aTo):=bN (cn kOnce (cn fH (cz))) A1 aSf
theorem kBent:ConOk (aP5):=bN (cn kOnce (cz)) A1 aPa
theorem aLz:ConOk (jI 1 6):=bN (cn kOnce (cn fH (cn aJk (cn qN (cn kFa (cz)))))) A1 aHi
theorem aLy:ConOk (jI 1 7):=bN (cn kOnce (cn fH (cn zO (cn qN (cn kFa (cz)))))) A1 aHh
theorem aLx:ConOk (jI 2 7):=bN (cn kOnce (cn fH (cn zO (cn qN (cn kFa (cz)))))) A1 aHg
theorem aLw:ConOk (jI 2 8):=bN (cn kOnce (cn fH (cn aJj (cn qN (cn kFa (cz)))))) A1 aHf
theorem aO3:ConOk (aIj):=bN (cn qN (cz)) A1 aO2
theorem aOv:ConOk (aE7):=bN (cn aVg (cn aR6 (cz))) A1 aLl
theorem aO5:ConOk (cEx 1 1 6):=bN (cn kOnce (cn fH (cn aCl (cn kV (cn aSe (cn aJk (cn aLz (cz)))))))) A1 aLv
theorem aD1:ConOk (cEx 1 1 7):=bN (cn kOnce (cn fH (cn aCl (cn kV (cn aO8 (cn zO (cn aLy (cz)))))))) A1 aLu
theorem aVc:ConOk (aTk):=bN (cn kOnce (cn aOv (cz))) A1 aSc
theorem aO4:ConOk (cEx 2 2 7):=bN (cn kOnce (cn fH (cn aCl (cn kV (cn aO8 (cn aO5 (cn zO (cn aLx (cz))))))))) A1 aLt
theorem uH:ConOk (cEx 2 2 8):=bN (cn kOnce (cn fH (cn aCl (cn kV (cn aBr (cn aD1 (cn aJj (cn aLw (cz))))))))) A1 aLs
theorem pD:ConOk (jI 3 8):=bN (cn kOnce (cn fH (cn aD1 (cn qN (cn kFa (cz)))))) A1 aHe
theorem aO0:ConOk (aE8):=bN (cn kOnce (cn aVc (cz))) A1 aLm
theorem zP:ConOk (cEx 3 3 8):=bN (cn kOnce (cn fH (cn aCl (cn kV (cn aBr (cn aO4 (cn aD1 (cn pD (cz))))))))) A1 aLr
theorem aR7:ConOk (aMw):=bN (cn kOnce (cn aO0 (cn aOu (cn aO1 (cn aT5 (cz)))))) A1 aOp
theorem aOs:ConOk (cSt 0 9):=bN (cn kOnce (cn fH (cn aCl (cn kV (cn aBr (cn zP (cn uH (cn pD (cz))))))))) A1 aOr
theorem aOt:ConOk (cSt 0 10):=bN (cn kOnce (cn fH (cn aCl (cn kV (cn aBr (cn zP (cn uH (cn pD (cz))))))))) A1 aLk
theorem aU4:ConOk (aTe):=bN (cn kOnce (cn aT5 (cn aR7 (cz)))) A1 aR8
theorem aLh:ConOk (sW 1 0 9):=bN (cn kOnce (cn fH (cn aOs (cz)))) A1 aHb
theorem aLg:ConOk (sW 2 0 9):=bN (cn kOnce (cn fH (cn aOs (cz)))) A1 aG8
theorem aG9:ConOk (sW 2 0 10):=bN (cn kOnce (cn fH (cn aOt (cz)))) A1 aDy
theorem aJi:ConOk (cSt 1 10):=bN (cn kOnce (cn fH (cn aCl (cn kV (cn aBr (cn zP (cn uH (cn pD (cn aLh (cn aLg (cz))))))))))) A1 aLj
theorem aHa:ConOk (sW 1 1 10):=bN (cn kOnce (cn fH (cn aJi (cz)))) A1 aDz
theorem aG7:ConOk (sW 2 1 10):=bN (cn kOnce (cn fH (cn aJi (cz)))) A1 aDx
theorem aOq:ConOk (cSt 2 11):=bN (cn kOnce (cn fH (cn aCl (cn kV (cn aBr (cn zP (cn uH (cn pD (cn aHa (cn aG7 (cn aG9 (cz)))))))))))) A1 aLi
theorem aG6:ConOk (sW 5 2 11):=bN (cn kOnce (cn fH (cn aOq (cz)))) A1 aDw
end Eg
end Go.Proofs.YtcbhdhmhidpdgaaGreatDoor

import Derived.Test.YtffphdacgblaoaaGreatDoorFind
import Derived.Test.YtffphdacgblaoaaGreatDoorPackAI
import Derived.Test.YtffphdacgblaoaaGreatDoorEiF
namespace Go.Proofs.YtffphdacgblaoaaGreatDoor
open Go.RowKit
set_option linter.unusedVariables false
set_option linter.unusedSimpArgs false
set_option maxRecDepth 100000
namespace Eg
theorem kFa:qK cFa:=by
 intro τ w I vs hT hTg hEnv hArgs;obtain⟨v0,_,rfl,⟨rfl,hf,hf2⟩,v1,_,rfl,⟨hn,b,o,n,c,j,e0,hj,hc⟩,rfl⟩:=hArgs;obtain⟨fs,hl,hR,_⟩:=rdFas hT hf hf2;obtain⟨l,hb,_⟩:=aUb (m:=ln v1) hT ⟨_,zB0 _,hn⟩;obtain⟨a',c',e1,hL⟩:=hR.list;obtain⟨ax,cx,e2,hB,_⟩:=hb;rw[e0]at e1;simp only[Value.slice.injEq]at e1;obtain⟨rfl,en,rfl⟩:=e1;rw[zB2]at en
 show Calls Tryz.prog 140 #[I.fa,v1] w _
 rw[e0,e2];refine(aUc fs _ n c w hL en.symm ax l.length cx l hB).mono ?_;rintro e w' ⟨rfl,hg⟩;have hbw:=aA hg
 obtain⟨f,hfj⟩:∃f,fs[j]?=some f:=⟨_,zA0 Q0⟩
 have hrec:=hL.el (show(fs.map Fa.fl)[j]?=some f.fl by rw[zA2,hfj];rfl)
 obtain⟨⟨v,hv,a,c2,e3,hbr,_⟩,_⟩:=hrec
 rw[show o+j*2=o+2*j by omega,hc]at hv
 cases hv;rw[e2]at e3;simp only[Value.slice.injEq]at e3;obtain⟨rfl,e4,rfl⟩:=e3;rw[<-e4]at hbr;have hx:l=f.name:=aVv hB hbr
 have hm:l ∈ fs.map Fa.name:=by rw[hx];exact List.mem_map_of_mem (zA3 hfj)
 cases hi:ix (fs.map Fa.name) l with
 | none=>exact absurd hm (aWh.1 hi)
 | some i=>
  have h2:=(aWo hi).1;have h3:=(zC1.1 h2).1;rw[zB2]at h3
  refine⟨_,τ,rfl,((Fr.refl (st:=true) (K:=[]) hT).below hbw).fr,fun _ h9=>h9,⟨(fun h9=>by cases h9),(fun h9=>by cases h9)⟩,i, ?_, ?_⟩
  .
   rw[aT5 hi]
  .
   rw[e0];show i<n;omega
end Eg
namespace Eg
theorem aQ8:qK (aJc):=aPf (cz) Q80 aOs
theorem aTk:qK (aRx):=aPf (cz) Q80 aV2
theorem k4b:qK (c4b):=aPf (cz) Q80 aWy
theorem aT9:qK (aTz):=aPf (cz) Q80 aWm
theorem kV:qK (cV):=aPf (cz) Q80 kV_
theorem aWn:qK (aT0 6):=aPf (cz) Q80 aWg
theorem aWf:qK (aT0 7):=aPf (cz) Q80 aWe
theorem aUa:qK (aT0 8):=aPf (cz) Q80 aWd
theorem aV7:qK (aTo 5):=aPf (cz) Q80 aVd
theorem aTt:qK (aTq):=aPf (cn k4b (cz)) Q80 aVe
theorem aU3:qK (cEx (-10) 0 5):=aPf (cn aT9 (cn kV (cn aQ8 (cn aTk (cz))))) Q80 aVh
theorem aT3:qK (cEx (-10) 0 6):=aPf (cn aT9 (cn kV (cn aQ8 (cn aTk (cz))))) Q80 aVg
theorem aU2:qK (cEx (-10) 0 7):=aPf (cn aT9 (cn kV (cn aQ8 (cn aTk (cz))))) Q80 aVf
theorem aV6:qK (aTo 6):=aPf (cn aV7 (cz)) Q80 aVc
theorem aWj:qK (aVt):=aPf (cn aQ8 (cn aTk (cn aT9 (cz)))) Q80 aVw
theorem aVq:qK (aTl 1 6):=aPf (cn aQ8 (cn aTk (cn aU3 (cn aTt (cn kFa (cz)))))) Q80 aUv
theorem aVp:qK (aTl 1 7):=aPf (cn aQ8 (cn aTk (cn aT3 (cn aTt (cn kFa (cz)))))) Q80 aUu
theorem aVo:qK (aTl 2 7):=aPf (cn aQ8 (cn aTk (cn aT3 (cn aTt (cn kFa (cz)))))) Q80 aUt
theorem aVn:qK (aTl 2 8):=aPf (cn aQ8 (cn aTk (cn aU2 (cn aTt (cn kFa (cz)))))) Q80 aUs
theorem aV9:qK (aUy):=aPf (cn aTt (cz)) Q80 aV8
theorem aV5:qK (aTo 7):=aPf (cn aV6 (cz)) Q80 aVb
theorem aWb:qK (cEx 1 1 6):=aPf (cn aQ8 (cn aTk (cn aT9 (cn kV (cn aWn (cn aU3 (cn aVq (cz)))))))) Q80 aVm
theorem aUj:qK (cEx 1 1 7):=aPf (cn aQ8 (cn aTk (cn aT9 (cn kV (cn aWf (cn aT3 (cn aVp (cz)))))))) Q80 aVl
theorem aTs:qK (aTo 8):=aPf (cn aV5 (cz)) Q80 aVa
theorem aWa:qK (cEx 2 2 7):=aPf (cn aQ8 (cn aTk (cn aT9 (cn kV (cn aWf (cn aWb (cn aT3 (cn aVo (cz))))))))) Q80 aVk
theorem aTv:qK (cEx 2 2 8):=aPf (cn aQ8 (cn aTk (cn aT9 (cn kV (cn aUa (cn aUj (cn aU2 (cn aVn (cz))))))))) Q80 aVj
theorem aTr:qK (aTl 3 8):=aPf (cn aQ8 (cn aTk (cn aUj (cn aTt (cn kFa (cz)))))) Q80 aUr
theorem aV4:qK (aUx):=aPf (cn aTs (cz)) Q80 aV3
theorem aT4:qK (cEx 3 3 8):=aPf (cn aQ8 (cn aTk (cn aT9 (cn kV (cn aUa (cn aWa (cn aUj (cn aTr (cz))))))))) Q80 aVi
theorem aT2:qK (aTp 9 1 9):=aPf (cn aTs (cn aV4 (cz))) Q80 aUi
theorem aT1:qK (aTp 9 3 9):=aPf (cn aTs (cn aV4 (cz))) Q80 aUh
theorem aVz:qK (cSt 0 9):=aPf (cn aQ8 (cn aTk (cn aT9 (cn kV (cn aUa (cn aT4 (cn aTv (cn aTr (cz))))))))) Q80 aVy
theorem aV0:qK (cSt 0 10):=aPf (cn aQ8 (cn aTk (cn aT9 (cn kV (cn aUa (cn aT4 (cn aTv (cn aTr (cz))))))))) Q80 aU9
theorem aT8:qK (aTp 10 2 10):=aPf (cn aTs (cn aT2 (cn aT1 (cz)))) Q80 aTy
theorem aT7:qK (aTp 10 4 10):=aPf (cn aTs (cn aT2 (cn aT1 (cz)))) Q80 aTx
theorem aU6:qK (aTe 1 0 9):=aPf (cn aQ8 (cn aTk (cn aVz (cz)))) Q80 aUq
theorem aU5:qK (aTe 2 0 9):=aPf (cn aQ8 (cn aTk (cn aVz (cz)))) Q80 aUn
theorem aUo:qK (aTe 2 0 10):=aPf (cn aQ8 (cn aTk (cn aV0 (cz)))) Q80 aUf
theorem aTw:qK (aTp 11 11 14):=aPf (cn aTs (cn aT8 (cn aT7 (cz)))) Q80 aTu
theorem aU1:qK (cSt 1 10):=aPf (cn aQ8 (cn aTk (cn aT9 (cn kV (cn aUa (cn aT4 (cn aTv (cn aTr (cn aU6 (cn aU5 (cz))))))))))) Q80 aU8
theorem aWw:qK (aWp):=aPf (cn aTw (cz)) Q80 aWl
theorem aUp:qK (aTe 1 1 10):=aPf (cn aQ8 (cn aTk (cn aU1 (cz)))) Q80 aUg
theorem aUm:qK (aTe 2 1 10):=aPf (cn aQ8 (cn aTk (cn aU1 (cz)))) Q80 aUe
theorem aVx:qK (cSt 2 11):=aPf (cn aQ8 (cn aTk (cn aT9 (cn kV (cn aUa (cn aT4 (cn aTv (cn aTr (cn aUp (cn aUm (cn aUo (cz)))))))))))) Q80 aU7
theorem aUl:qK (aTe 5 2 11):=aPf (cn aQ8 (cn aTk (cn aVx (cz)))) Q80 aUd
end Eg
end Go.Proofs.YtffphdacgblaoaaGreatDoor

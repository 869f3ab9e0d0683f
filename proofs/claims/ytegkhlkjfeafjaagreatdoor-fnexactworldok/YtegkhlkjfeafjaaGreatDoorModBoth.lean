import Derived.Test.YtegkhlkjfeafjaaGreatDoorSpPrint
import Derived.Test.YtegkhlkjfeafjaaGreatDoorPackT
namespace Go.Proofs.YtegkhlkjfeafjaaGreatDoor
open Go.RowKit
set_option linter.unusedVariables false
set_option linter.unusedSimpArgs false
set_option maxRecDepth 100000
set_option maxHeartbeats 4000000 in
theorem aEa (m:Mo)(w:World)(vs:List Value)(h:aO w m.fl vs)(hs:aH m.fl<=1048576):
  Calls Tryz.prog 37 #[.agg vs.toArray] w fun e w'=>e=.returned (.bool (mX m))/\w.grownBy w' none:=by
 have yy:=aC w (.cells vs.toArray 48 (0,0)) none;have HP:=aJ0 m vs (w.alloc (.cells vs.toArray 48 (0,0))) (h.below (aA yy)) hs
 have HQ:bY m=true->∀w1,(w.alloc (.cells vs.toArray 48 (0,0))).grownBy w1 none->Calls Tryz.prog 71 #[agg vs] w1 fun e w'=>∃v,e=.returned v/\Own w' w1.heap.size v (prM m).length (prM m)/\w1.grownBy w' none:=fun hf w1 h1=>aEu m hf w1 vs ((h.below (aA yy)).below (aA h1)) hs
 have hl:bY m=true->(prM m).length<=500000000:=fun hf=>by
  obtain⟨_,_,p3,p4⟩:=dQ hf
  exact vW m hs p3 (fun x hx=>(p4 x hx).2)
 have x0:=Blk.new w 48 vs
 obtain⟨u0,u1,u2,u3,rfl⟩:=mO (h.len.trans (show m.fl.length=4 from rfl))
 simp only[agg]at HP HQ
 have HD:Hid (mX m=(bY m && decide ((prM m).length<=3000))):=rfl
 clear h hs;go_enter Tryz.func37,Tryz.ntmps37;go_upto_region 1 with fail;generalize w.alloc (.cells #[u0,u1,u2,u3] 48 (0,0))=w1 at *;obtain⟨q0,q1,q2,q3⟩:=x0.c4
 cases hf:bY m
 .
  have he:Hid (mX m=false):=by show _=_;rw[HD.out,hf];rfl
  rw[hf]at HP;clear HQ hl HD hf;go_wp2_with fail;refine HP.mono ?_;rintro e w2 ⟨rfl,hg⟩;go_wp2;go_ret;rw[he.out];exact⟨rfl,aD yy hg⟩
 .
  have HQ2:=HQ hf;have hl2:=hl hf
  have he:Hid (mX m=decide ((prM m).length<=3000)):=by show _=_;rw[HD.out,hf];rfl
  rw[hf]at HP;clear HQ hl HD hf;go_wp2_with fail;refine HP.mono ?_;rintro e w2 ⟨rfl,hg⟩;have H3:=HQ2 w2 hg;replace x0:=x0.below (aA hg) x0.lt;clear q0 q1 q2 q3 HP HQ2;obtain⟨q0,q1,q2,q3⟩:=x0.c4;go_wp2_with fail;refine H3.mono ?_;rintro e w3 ⟨v,rfl,ho,hg3⟩
  obtain⟨nL,hnL⟩:∃z,z=(prM m).length:=⟨_,rfl⟩
  rw[<-hnL]at ho hl2
  have HN:Hid ((prM m).length=nL):=hnL.symm
  clear hnL H3;obtain⟨a1,c1,rfl,_⟩:=ho.shape;have yf:=aD yy (aD hg hg3)
  by_cases h3:nL<=3000
  .
   have h3':(nL:Int)<=3000:=V6
   have hm:Hid (mX m=true):=by show _=_;rw[he.out,HN.out];exact zB3 h3
   clear ho;go_wp2;go_ret;rw[hm.out];exact⟨rfl,yf⟩
  .
   have h3':¬(nL:Int)<=3000:=V6
   have hm:Hid (mX m=false):=by show _=_;rw[he.out,HN.out];exact zC2 h3
   clear ho;go_wp2;go_ret;rw[hm.out];exact⟨aE (zC2 V6),yf⟩
end Go.Proofs.YtegkhlkjfeafjaaGreatDoor

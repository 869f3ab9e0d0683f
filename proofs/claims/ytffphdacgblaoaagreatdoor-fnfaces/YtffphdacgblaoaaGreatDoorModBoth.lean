import Derived.Test.YtffphdacgblaoaaGreatDoorSpPrint
import Derived.Test.YtffphdacgblaoaaGreatDoorPackT
namespace Go.Proofs.YtffphdacgblaoaaGreatDoor
open Go.RowKit
set_option linter.unusedVariables false
set_option linter.unusedSimpArgs false
set_option maxRecDepth 100000
set_option maxHeartbeats 4000000 in
theorem aHm (m:Mo)(w:World)(vs:List Value)(h:cC w m.fl vs)(hs:aL m.fl<=1048576):
  Calls Tryz.prog 6 #[.agg vs.toArray] w fun e w'=>e=.returned (.bool (lN m))/\w.grownBy w' none:=by
 have yy:=aB w (.cells vs.toArray 27 (0,0)) none;have HP:=aNo m vs (w.alloc (.cells vs.toArray 27 (0,0))) (h.below (aA yy)) hs
 have HQ:cH m=true->∀w1,(w.alloc (.cells vs.toArray 27 (0,0))).grownBy w1 none->Calls Tryz.prog 20 #[agg vs] w1 fun e w'=>∃v,e=.returned v/\Own w' w1.heap.size v (prM m).length (prM m)/\w1.grownBy w' none:=fun hf w1 h1=>aIh m hf w1 vs ((h.below (aA yy)).below (aA h1)) hs
 have hl:cH m=true->(prM m).length<=500000000:=fun hf=>by
  obtain⟨_,_,p3,p4⟩:=eQ hf
  exact zF m hs p3 (fun x hx=>(p4 x hx).2)
 have x0:=Blk.new w 27 vs
 obtain⟨u0,u1,u2,u3,rfl⟩:=xU (h.len.trans (show m.fl.length=4 from rfl))
 simp only[agg]at HP HQ
 have HD:Hid (lN m=(cH m && decide ((prM m).length<=3000))):=rfl
 clear h hs;go_enter Tryz.func6,Tryz.ntmps6;go_upto_region 1 with fail;generalize w.alloc (.cells #[u0,u1,u2,u3] 27 (0,0))=w1 at *;obtain⟨q0,q1,q2,q3⟩:=x0.c4
 cases hf:cH m
 .
  have he:Hid (lN m=false):=by show _=_;rw[HD.out,hf];rfl
  rw[hf]at HP;clear HQ hl HD hf;go_wp2_with fail;refine HP.mono ?_;rintro e w2 ⟨rfl,hg⟩;go_wp2;go_ret;rw[he.out];exact⟨rfl,aD yy hg⟩
 .
  have HQ2:=HQ hf;have hl2:=hl hf
  have he:Hid (lN m=decide ((prM m).length<=3000)):=by show _=_;rw[HD.out,hf];rfl
  rw[hf]at HP;clear HQ hl HD hf;go_wp2_with fail;refine HP.mono ?_;rintro e w2 ⟨rfl,hg⟩;have H3:=HQ2 w2 hg;replace x0:=x0.below (aA hg) x0.lt;clear q0 q1 q2 q3 HP HQ2;obtain⟨q0,q1,q2,q3⟩:=x0.c4;go_wp2_with fail;refine H3.mono ?_;rintro e w3 ⟨v,rfl,ho,hg3⟩
  obtain⟨nL,hnL⟩:∃z,z=(prM m).length:=⟨_,rfl⟩
  rw[<-hnL]at ho hl2
  have HN:Hid ((prM m).length=nL):=hnL.symm
  clear hnL H3;obtain⟨a1,c1,rfl,_⟩:=ho.shape;have yf:=aD yy (aD hg hg3)
  by_cases h3:nL<=3000
  .
   have h3':(nL:Int)<=3000:=Q0
   have hm:Hid (lN m=true):=by show _=_;rw[he.out,HN.out];exact zB3 h3
   clear ho;go_wp2;go_ret;rw[hm.out];exact⟨rfl,yf⟩
  .
   have h3':¬(nL:Int)<=3000:=Q0
   have hm:Hid (lN m=false):=by show _=_;rw[he.out,HN.out];exact zC2 h3
   clear ho;go_wp2;go_ret;rw[hm.out];exact⟨aE (zC2 Q0),yf⟩
end Go.Proofs.YtffphdacgblaoaaGreatDoor

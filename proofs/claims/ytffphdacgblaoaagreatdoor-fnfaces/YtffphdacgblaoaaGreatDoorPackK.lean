import Derived.Test.YtffphdacgblaoaaGreatDoorPackJ
import Derived.Test.YtffphdacgblaoaaGreatDoorAllE
import Derived.RangeFuncNested
import Derived.RangeFuncBound
import Derived.RangeFuncCalls
import Derived.RangeFuncLeaves
import Derived.Shelf.Abstract
import Derived.Shelf.RegionOpen
import Derived.WalkKit
import Derived.OwnWalkIn
import Derived.TacticsInMore
import Derived.LoopNIn
import Derived.LoopIn
namespace Go.Proofs.YtffphdacgblaoaaGreatDoor
open Go.RowKit
set_option linter.unusedVariables false
set_option linter.unusedSimpArgs false
set_option maxRecDepth 100000
theorem Q55{p:Prop}(h:p:=by simp only[results,Tryz.results151];simp[go_sem,e0,e1,e2]):p:=h
structure Me where
 name:List Int
 sort:Int
 kids:List Ex
set_option maxHeartbeats 2000000 in
theorem aIb (k n:Int)(mod name:List Int)(kids:List Ex)(a2:Option Addr)(c2:Nat)(a3:Option Addr)(c3:Nat)(a4:Option Addr)(n4' c4:Nat)(s:Int)(kv:Value)(hkv:kv=if k=6 then .slice a4 n4' c4 else .slice none 0 0)(w:World)
  (h2:eG w a2 mod.length mod) (h3:eG w a3 name.length name) (hn2:mod.length<=1048576) (hn3:name.length<=1048576):
  Calls Tryz.prog 151 #[.agg #[.int .i64 k,.int .i64 n,.slice a2 mod.length c2,.slice a3 name.length c3,.slice a4 n4' c4],.int .i64 s] w fun e w'=>e=.returned (.agg #[.string (strOfNums (jL mod name)),.int .i64 s,kv])/\w.grownBy w' none:=by
 have HKV:Hid (kv=if k=6 then .slice a4 n4' c4 else .slice none 0 0):=hkv
 clear hkv
 have e0:(w.alloc (.cells #[.int .i64 k,.int .i64 n,.slice a2 mod.length c2,.slice a3 name.length c3,.slice a4 n4' c4] 119 (0,0))).heap.size=w.heap.size+1:=by simp
 have y0:=aD (aB w (.cells #[.int .i64 k,.int .i64 n,.slice a2 mod.length c2,.slice a3 name.length c3,.slice a4 n4' c4] 119 (0,0)) none) (aB _ (.cells #[.string ⟨#[]⟩,.int .i64 0,.slice none 0 0] 132 (0,0)) none);have x0:=(Blk.new w 119 [.int .i64 k,.int .i64 n,.slice a2 mod.length c2,.slice a3 name.length c3,.slice a4 n4' c4]).old (o:=.cells #[.string ⟨#[]⟩,.int .i64 0,.slice none 0 0] 132 (0,0));have x1:=Blk.new (w.alloc (.cells #[.int .i64 k,.int .i64 n,.slice a2 mod.length c2,.slice a3 name.length c3,.slice a4 n4' c4] 119 (0,0))) 132 [.string ⟨#[]⟩,.int .i64 0,.slice none 0 0];simp only[List.toArray]at x0 x1;rw[e0]at x1;have HC:=wD a2 mod.length c2 mod a3 name.length c3 name _ (h2.below (aA y0)) (h3.below (aA y0)) hn2 hn3;clear e0;go_enter Tryz.func151,Tryz.ntmps151;go_upto_region 1 with fail
 have esz:((w.alloc (.cells #[.int .i64 k,.int .i64 n,.slice a2 mod.length c2,.slice a3 name.length c3,.slice a4 n4' c4] 119 (0,0))).alloc (.cells #[.string ⟨#[]⟩,.int .i64 0,.slice none 0 0] 132 (0,0))).heap.size=w.heap.size+2:=by simp
 generalize (w.alloc (.cells #[.int .i64 k,.int .i64 n,.slice a2 mod.length c2,.slice a3 name.length c3,.slice a4 n4' c4] 119 (0,0))).alloc (.cells #[.string ⟨#[]⟩,.int .i64 0,.slice none 0 0] 132 (0,0))=w1 at *;have q2:=x0.k 2;have q3:=x0.k 3;go_wp2_with fail;refine HC.mono ?_;rintro e w2 ⟨rfl,rfl⟩
 obtain⟨sn,hsn⟩:∃z,z=strOfNums (jL mod name):=⟨_,rfl⟩
 have HSN:Hid (sn=strOfNums (jL mod name)):=hsn
 rw[<-hsn];clear hsn;have y2:=aB w2 (.cells #[.string sn,.int .i64 s,.slice none 0 0] 132 (0,0)) none;have x2:=Blk.new w2 132 [.string sn,.int .i64 s,.slice none 0 0];simp only[List.toArray]at x2;rw[esz]at x2;clear HC q2 q3;go_upto_region 2 with fail;have X0:=x0.old (o:=.cells #[.string sn,.int .i64 s,.slice none 0 0] 132 (0,0));have X1:=x1.old (o:=.cells #[.string sn,.int .i64 s,.slice none 0 0] 132 (0,0))
 have B3:Below w.heap.size w (w2.alloc (.cells #[.string sn,.int .i64 s,.slice none 0 0] 132 (0,0))):=aA (aD y0 y2)
 generalize w2.alloc (.cells #[.string sn,.int .i64 s,.slice none 0 0] 132 (0,0))=w3 at *;clear x0 x1 y0 y2 esz;have k0:=X0.k 0
 have n1:w.heap.size ≠ w.heap.size+1:=by omega
 have n2:w.heap.size ≠ w.heap.size+2:=by omega
 have n3:w.heap.size+1 ≠ w.heap.size+2:=by omega
 have n4:w.heap.size+2 ≠ w.heap.size+1:=by omega
 by_cases hk:k=6
 .
  have HK:Hid (kv=.slice a4 n4' c4):=by rw[HKV.out,if_pos hk];rfl
  subst hk;have k4:=X0.k 4;have f2:=x2.free 2;have p2:=x2.k 2
  have x3:Blk (w3.setCell ⟨w.heap.size+2,2,none⟩ (.slice a4 n4' c4)) (w.heap.size+2) 132 [.string sn,.int .i64 s,.slice a4 n4' c4]:=x2.set (i:=2) _
  have X3:Blk (w3.setCell ⟨w.heap.size+2,2,none⟩ (.slice a4 n4' c4)) (w.heap.size+1) 132 [.string ⟨#[]⟩,.int .i64 0,.slice none 0 0]:=X1.other n3
  have B4:=B3.setCell (p:=⟨w.heap.size+2,2,none⟩) (by show w.heap.size<=w.heap.size+2;omega) (.slice a4 n4' c4)
  go_upto_region 4 with fail;generalize w3.setCell ⟨w.heap.size+2,2,none⟩ (.slice a4 n4' c4)=w4 at *;clear k4 f2 p2 x2 X1 X0 k0 B3;obtain⟨d0,d1,d2⟩:=x3.c3;obtain⟨g0,g1,g2⟩:=X3.c3;have f0:=X3.free 0;have f1:=X3.free 1;have f2:=X3.free 2
  have z9:Blk (((w4.setCell ⟨w.heap.size+1,0,none⟩ (.string sn)).setCell ⟨w.heap.size+1,1,none⟩ (.int .i64 s)).setCell ⟨w.heap.size+1,2,none⟩ (.slice a4 n4' c4)) (w.heap.size+1) 132 [.string sn,.int .i64 s,.slice a4 n4' c4]:=((X3.set (i:=0) _).set (i:=1) _).set (i:=2) _
  have B9:Below w.heap.size w (((w4.setCell ⟨w.heap.size+1,0,none⟩ (.string sn)).setCell ⟨w.heap.size+1,1,none⟩ (.int .i64 s)).setCell ⟨w.heap.size+1,2,none⟩ (.slice a4 n4' c4)):=((B4.setCell (Nat.le_succ _) _).setCell (Nat.le_succ _) _).setCell (Nat.le_succ _) _
  go_wp2_with fail;generalize ((w4.setCell ⟨w.heap.size+1,0,none⟩ (.string sn)).setCell ⟨w.heap.size+1,1,none⟩ (.int .i64 s)).setCell ⟨w.heap.size+1,2,none⟩ (.slice a4 n4' c4)=w9 at *;obtain⟨e0,e1,e2⟩:=z9.c3
  refine zI2 (v:=.agg #[.string sn,.int .i64 s,.slice a4 n4' c4]) Q55 rfl ⟨by rw[HK.out,HSN.out],aW B9 none⟩
 .
  have hkb:(k == 6)=false:=by simpa using hk
  have HK:Hid (kv=.slice none 0 0):=by rw[HKV.out,if_neg hk];rfl
  clear hk;obtain⟨d0,d1,d2⟩:=x2.c3;obtain⟨g0,g1,g2⟩:=X1.c3;have f0:=X1.free 0;have f1:=X1.free 1;have f2:=X1.free 2
  have z9:Blk (((w3.setCell ⟨w.heap.size+1,0,none⟩ (.string sn)).setCell ⟨w.heap.size+1,1,none⟩ (.int .i64 s)).setCell ⟨w.heap.size+1,2,none⟩ (.slice none 0 0)) (w.heap.size+1) 132 [.string sn,.int .i64 s,.slice none 0 0]:=((X1.set (i:=0) _).set (i:=1) _).set (i:=2) _
  have B9:Below w.heap.size w (((w3.setCell ⟨w.heap.size+1,0,none⟩ (.string sn)).setCell ⟨w.heap.size+1,1,none⟩ (.int .i64 s)).setCell ⟨w.heap.size+1,2,none⟩ (.slice none 0 0)):=((B3.setCell (Nat.le_succ _) _).setCell (Nat.le_succ _) _).setCell (Nat.le_succ _) _
  go_wp2_with fail;generalize ((w3.setCell ⟨w.heap.size+1,0,none⟩ (.string sn)).setCell ⟨w.heap.size+1,1,none⟩ (.int .i64 s)).setCell ⟨w.heap.size+1,2,none⟩ (.slice none 0 0)=w9 at *;obtain⟨e0,e1,e2⟩:=z9.c3
  refine zI2 (v:=.agg #[.string sn,.int .i64 s,.slice none 0 0]) Q55 rfl ⟨by rw[HK.out,HSN.out],aW B9 none⟩
end Go.Proofs.YtffphdacgblaoaaGreatDoor
namespace Go.Proofs.YtffphdacgblaoaaGreatDoor
open Go.RowKit Go.Shelf
set_option linter.unusedVariables false
set_option linter.unusedSimpArgs false
set_option maxRecDepth 100000
attribute [local go_sem] Oper.semAt_some
def vU (i:Nat):Int:=[0,1,2,0,0,2,3,2][i]?.getD 0
def wQ (i:Nat):Int:=[1,2][i]?.getD 0
mutual
def aE7:Ex->List Me
 | .mk k n mod name kids=>(if vU k.toNat=0 then [] else [⟨jL mod name,vU k.toNat,if k=6 then kids else []⟩])++dQ kids
def dQ:List Ex->List Me
 | []=>[]
 | e :: l=>aE7 e++dQ l
end
structure MeR (w0:World) where
 me:Me
 a:Option Addr
 c:Nat
 bt:Bt me.name
 nl:me.name.length<=3000000
 row:bQ w0 a c 5 (exs me.kids)
def MeR.enc {w0:World}(x:MeR w0):Value:=.agg #[.string (strOfNums x.me.name),.int .i64 x.me.sort,.slice x.a x.me.kids.length x.c]
theorem zU (w:World):bQ w none 0 5 (exs []):=⟨by simp[exs],by unfold maxLen;omega,fun _=>rfl,fun h=>by simp[exs]at h⟩
structure Yw (w0:World) (ly B n0 N:Nat) (X:Nat->Prop) (J Jx:List (MeR w0)->World->Prop):Prop where
 hJ:∀s A C,J s A->A.grownBy C none->J s C
 hY:∀m pre x W,J pre W->pre.length<N->YieldAt Fence.wide m Tryz.prog ly #[MeR.enc x] W fun e W'=>(e=.returned (.bool true)/\J (pre++[x]) W'/\Kc X n0 W W')\/(e=.returned (.bool false)/\Jx (pre++[x]) W')
 hX:∀k,X k->w0.heap.size<=k/\k<B
 h0:w0.heap.size<=n0
 ex:∀i,i<8->w0.cell? ⟨1,i,none⟩=some (.int .i64 (vU i))
 st:∀i,i<8->w0.cell? ⟨0,i,none⟩=some (.int .i64 (wQ i))
def Out {w0:World}(n0:Nat)(X:Nat->Prop)(J Jx:List (MeR w0)->World->Prop)(pre:List (MeR w0))(ms:List Me)(W:World):Ending->World->Prop:=fun e W'=>
 ∃b:Bool,e=.returned (.bool b)/\(b=true->(∃xs,xs.map MeR.me=ms/\J (pre++xs) W')/\Kc X n0 W W')/\(b=false->∃xs,xs.map MeR.me <+:ms/\Jx (pre++xs) W')
def InE (w0:World)(ly B n0 N:Nat)(X:Nat->Prop)(J Jx:List (MeR w0)->World->Prop)(l:List Ex):Prop:=
 ∀(pre:List (MeR w0)) (W:World) (a:Option Addr) (c:Nat),bQ w0 a c 5 (exs l)->Below w0.heap.size w0 W->B<=W.heap.size->J pre W->pre.length+(dQ l).length<=N →
  Calls Tryz.prog 137 #[.slice a l.length c,.func (.yield ly) #[] #[]] W (Out n0 X J Jx pre (dQ l) W)
set_option maxHeartbeats 4000000 in
theorem aO1 {w0:World}{ly B n0 N:Nat}{X:Nat->Prop}{J Jx:List (MeR w0)->World->Prop}(hy:Yw w0 ly B n0 N X J Jx)(kn:Nat)(hk:kn<8)(n:Int)(mod name:List Int)(kids:List Ex)(pre:List (MeR w0))(vs:List Value)(W:World)(gY:Nat)
  (h:cC w0 (Ex.fl (.mk kn n mod name kids)) vs) (hc:W.cell? ⟨gY,0,none⟩=some (.func (.yield ly) #[] #[])) (hgY:B<=gY) (hb:Below w0.heap.size w0 W) (hB:B<=W.heap.size) (hJ:J pre W) (hN:pre.length+(aE7 (.mk kn n mod name kids)).length<=N)
  (hn2:mod.length<=1048576) (hn3:name.length<=1048576) (IH:InE w0 ly B n0 N X J Jx kids):
  Calls Tryz.prog 150 #[agg vs,.pointer (some ⟨gY,0,none⟩)] W (Out n0 X J Jx pre (aE7 (.mk kn n mod name kids)) W):=by
 obtain⟨v0,_,rfl,rfl,v1,_,rfl,rfl,v2,_,rfl,⟨a2,c2,rfl,hb2,_⟩,v3,_,rfl,⟨a3,c3,rfl,hb3,_⟩,v4,_,rfl,h4,rfl⟩:=h;obtain⟨a4,c4,rfl,hL4⟩:=h4.list
 have e4:(exs kids).length=kids.length:=by simp[aQ]
 rw[e4]at *;have y0:=aB W (.cells #[.int .i64 kn,.int .i64 n,.slice a2 mod.length c2,.slice a3 name.length c3,.slice a4 kids.length c4] 119 (0,0)) none;have x0:=Blk.new W 119 [.int .i64 kn,.int .i64 n,.slice a2 mod.length c2,.slice a3 name.length c3,.slice a4 kids.length c4];simp only[List.toArray]at x0;have hb1:=hb.trans ((aA y0).mono hb.size);have t1:=aC (hy.ex kn hk) hb1;have c1:=aC hc (aA y0);have J1:=hy.hJ _ _ _ hJ y0;have hB1:=zF2 hB y0.size;simp only[agg]
 by_cases hs:vU kn=0
 .
  have HM:Hid (aE7 (.mk kn n mod name kids)=dQ kids):=by show _=_;unfold aE7;simp[hs]
  rw[HM.out]at hN ⊢;rw[hs]at t1;have Y1:=aW (zD2 (W.alloc (.cells #[.int .i64 kn,.int .i64 n,.slice a2 mod.length c2,.slice a3 name.length c3,.slice a4 kids.length c4] 119 (0,0))).heap.size (W.alloc (.cells #[.int .i64 kn,.int .i64 n,.slice a2 mod.length c2,.slice a3 name.length c3,.slice a4 kids.length c4] 119 (0,0)))).drew none;have H4:=IH pre (W.alloc (.cells #[.int .i64 kn,.int .i64 n,.slice a2 mod.length c2,.slice a3 name.length c3,.slice a4 kids.length c4] 119 (0,0))).drew a4 c4 hL4 hb1.drew hB1 (hy.hJ _ _ _ J1 Y1) hN;clear hb hc hJ IH hL4 h4 hb2 hb3 J1;have Y0:=hid (aD y0 Y1);clear Y1 y0;go_enter Tryz.func150,Tryz.ntmps150;go_upto_region 1 with fail;generalize W.alloc (.cells #[.int .i64 kn,.int .i64 n,.slice a2 mod.length c2,.slice a3 name.length c3,.slice a4 kids.length c4] 119 (0,0))=w1 at *;have k0:=x0.k 0
  have k4:w1.drew.cell? ⟨W.heap.size,4,none⟩=some (.slice a4 kids.length c4):=x0.k 4
  have c1':w1.drew.cell? ⟨gY,0,none⟩=some (.func (.yield ly) #[] #[]):=c1
  go_wp2_with fail;clear k0 t1
  refine zK1 (S:=fun wl=>True) Q3 trivial (fun Aa=>?_)
  refine M917 ?_;refine sa 3 ?_;refine sa 4 ?_;refine sa 5 ?_;try simp only[nrm]
  refine sa 6 ?_;refine sa 7 ?_;refine sa 8 ?_;try simp only[nrm]
  refine ta 9 ?_;try simp only[nrm]
  refine zK2 Q3 ?_ _;generalize w1.drew=w2 at *;go_wp2_with fail;refine H4.mono ?_;rintro e w3 ⟨b,rfl,ht,hf⟩
  have HT:Hid ((b=true->(∃xs,xs.map MeR.me=dQ kids/\J (pre++xs) w3)/\Kc X n0 W w3)/\(b=false->∃xs,xs.map MeR.me <+:dQ kids/\Jx (pre++xs) w3)):=⟨fun e=>⟨(ht e).1,(Kc.grown Y0.out).trans (ht e).2⟩,hf⟩
  clear H4 ht hf;go_wp2;go_ret;exact⟨b,rfl,HT.out⟩
 .
  obtain⟨x,kv,hxm,hkv,hxe⟩:∃(x:MeR w0) (kv:Value),x.me=⟨jL mod name,vU kn,if (kn:Int)=6 then kids else []⟩/\(kv=if (kn:Int)=6 then .slice a4 kids.length c4 else .slice none 0 0)/\x.enc=.agg #[.string (strOfNums (jL mod name)),.int .i64 (vU kn),kv]:=by
   by_cases h6:(kn:Int)=6
   .
    exact⟨⟨⟨jL mod name,vU kn,kids⟩,a4,c4,tK hb2.2.1 hb3.2.1,zF2 qI (by show _<=3000000;omega),hL4⟩,.slice a4 kids.length c4,by rw[if_pos h6],by rw[if_pos h6],rfl⟩
   .
    exact⟨⟨⟨jL mod name,vU kn,[]⟩,none,0,tK hb2.2.1 hb3.2.1,zF2 qI (by show _<=3000000;omega),zU w0⟩,.slice none 0 0,by rw[if_neg h6],by rw[if_neg h6],rfl⟩
  have HM:Hid (aE7 (.mk kn n mod name kids)=x.me :: dQ kids):=by show _=_;unfold aE7;rw[hxm];simp[hs]
  rw[HM.out]at hN ⊢;rw[zB1]at hN
  have hnx:∀k,B<=k->¬X k:=fun k hk hx=>by have:=(hy.hX k hx).2;omega
  have Y1:=aW (zD2 (W.alloc (.cells #[.int .i64 kn,.int .i64 n,.slice a2 mod.length c2,.slice a3 name.length c3,.slice a4 kids.length c4] 119 (0,0))).heap.size (W.alloc (.cells #[.int .i64 kn,.int .i64 n,.slice a2 mod.length c2,.slice a3 name.length c3,.slice a4 kids.length c4] 119 (0,0)))).drew none
  have x1:Blk (W.alloc (.cells #[.int .i64 kn,.int .i64 n,.slice a2 mod.length c2,.slice a3 name.length c3,.slice a4 kids.length c4] 119 (0,0))).drew W.heap.size 119 [.int .i64 kn,.int .i64 n,.slice a2 mod.length c2,.slice a3 name.length c3,.slice a4 kids.length c4]:=x0
  have cd:(W.alloc (.cells #[.int .i64 kn,.int .i64 n,.slice a2 mod.length c2,.slice a3 name.length c3,.slice a4 kids.length c4] 119 (0,0))).drew.cell? ⟨gY,0,none⟩=some (.func (.yield ly) #[] #[]):=c1
  have HMN:=(aIb kn n mod name kids a2 c2 a3 c3 a4 kids.length c4 (vU kn) kv hkv (W.alloc (.cells #[.int .i64 kn,.int .i64 n,.slice a2 mod.length c2,.slice a3 name.length c3,.slice a4 kids.length c4] 119 (0,0))).drew (hb2.below hb1.drew) (hb3.below hb1.drew) hn2 hn3).mono (R':=fun e w2=>e=.returned x.enc/\w2.cell? ⟨gY,0,none⟩=some (.func (.yield ly) #[] #[]) ∧
    YieldAt Fence.wide 0 Tryz.prog ly #[x.enc] w2 fun e w3=>∃be:Bool,e=.returned (.bool be)/\Hid ((be=true->(w3.cell? ⟨gY,0,none⟩=some (.func (.yield ly) #[] #[])/\w3.cell? ⟨W.heap.size,4,none⟩=some (.slice a4 kids.length c4)) ∧
     Calls Tryz.prog 137 #[.slice a4 kids.length c4,.func (.yield ly) #[] #[]] w3 (Out n0 X J Jx pre (x.me :: dQ kids) W))/\(be=false->Jx (pre++[x]) w3))) (by
   rintro e w2 ⟨rfl,hg2⟩;have hW2:=aD (aD y0 Y1) hg2;have J2:=hy.hJ _ _ _ hJ hW2;have b2:=hb.trans ((aA hW2).mono hb.size)
   refine⟨by rw[hxe],aC hc (aA hW2), ?_⟩
   refine YieldAt.mono (hy.hY 0 pre x w2 J2 Q0) ?_
   rintro e w3 (⟨rfl,hJ3,hk3⟩|⟨rfl,hJx⟩)
   .
    have b3:=Kc.below b2 hk3 hy.h0 (fun k hx=>(hy.hX k hx).1)
    have q4:=aC (x0.k 4) (aA (aD Y1 hg2))
    refine⟨true,rfl,fun _=>⟨⟨hk3.cell (hnx _ hgY) (aC hc (aA hW2)),hk3.cell (hnx _ hB) q4⟩, ?_⟩,fun e=> Q68⟩
    refine(IH (pre++[x]) w3 a4 c4 hL4 b3 (zF2 hB (zF2 hW2.size hk3.size)) hJ3 (by simp only[zA1,List.length_singleton];omega)).mono ?_
    rintro e w4 ⟨b,rfl,ht,hf⟩
    refine⟨b,rfl,fun e=>?_,fun e=>?_⟩
    .
     obtain⟨⟨xs,e1,e2⟩,hk4⟩:=ht e
     exact⟨⟨x :: xs,by rw[zH2,e1],by simpa using e2⟩,(Kc.grown hW2).trans (hk3.trans hk4)⟩
    .
     obtain⟨xs,e1,e2⟩:=hf e
     exact⟨x :: xs,by rw[zH2];exact List.cons_prefix_cons.2 ⟨rfl,e1⟩,by simpa using e2⟩
   .
    exact⟨false,rfl,fun e=> Q68,fun _=>hJx⟩)
  have HO:Hid (∀w3,Jx (pre++[x]) w3->Out n0 X J Jx pre (x.me :: dQ kids) W (.returned (.bool false)) w3):=fun w3 h=>⟨false,rfl,fun e=> Q68,fun _=>⟨[x],by simp,h⟩⟩
  have hsb:(vU kn != 0)=true:=by simpa using hs
  clear hb hc hJ IH hL4 h4 hb2 hb3 J1 hxe hkv hxm Y1 y0 hnx hs hb1 hy
  refine callsIn_wide (n:=0) |>.1 ?_
  refine callsIn_of_wp Tryz.func150 rfl trivial ?_ rfl;simp only[Tryz.ntmps150,List.size_toArray,zB1,zC3,Nat.reduceAdd,Nat.reduceSub,Array.replicate_succ,Array.replicate_zero,List.push_toArray,List.append_toArray,List.nil_append,List.cons_append];have k0:=x0.k 0
  gi_wp2_with fail
  obtain⟨q0,q1,q2,q3,q4⟩:=x1.c5;clear x0 x1 k0 t1 c1 hB1;generalize (W.alloc (.cells #[.int .i64 kn,.int .i64 n,.slice a2 mod.length c2,.slice a3 name.length c3,.slice a4 kids.length c4] 119 (0,0)))=w1 at *
  have hmo:Tryz.prog.follows .mixedOrders=true:=by kernel_rfl
  gi_region_with_o (first
   | (refine⟨trivial,rfl, ?_⟩;gi_at_call 151;refine(callsIn_wide.2 HMN).mono ?_;rintro e w2 ⟨rfl,cY,fn,tmps,assign,body,hyl,hR⟩)
   | (refine⟨rfl, ?_⟩;refine hR.mono ?_;rintro e w3 ⟨be,rfl,HB⟩))
  all_goals
   cases be
   .
    have HJX:=HO.out _ (HB.out.2 rfl);have HJ9:=hid HJX;clear HB HMN hR HJX HO
    gi_wp2_with fail
    go_ret;exact HJ9.out
   .
    obtain⟨⟨cY3,c43⟩,H9⟩:=HB.out.1 rfl;clear HB HMN hR HO
    gi_wp2_with (refine⟨trivial,rfl, ?_⟩;gi_at_call 137;refine(callsIn_wide.2 H9).mono ?_;clear H9;rintro e w4 ⟨b,rfl,HT⟩;replace HT:Hid _:=HT)
    go_ret;exact⟨b,rfl,HT.out⟩
end Go.Proofs.YtffphdacgblaoaaGreatDoor
namespace Go.Proofs.YtffphdacgblaoaaGreatDoor
open Go.RowKit
set_option linter.unusedVariables false
set_option linter.unusedSimpArgs false
set_option maxRecDepth 100000
theorem Q75{p:Prop}(h:p:=by simpa using hb'):p:=h
theorem U17{p:Prop}(h:p:=by
 rintro e w' ⟨b,rfl,ht,hf⟩
 refine⟨b,rfl,fun hb'=>?_,fun hb'=>?_⟩
 .
  obtain⟨⟨ys,e1,e2⟩,hk⟩:=ht Q75
  exact⟨⟨⟨xs++ys,by rw[List.map_append,hxs,e1,m1],by rw[<-zD0];exact e2⟩,Kc.below hb2 hk hy.h0 (fun k hx=>(hy.hX k hx).1),hk.cell (hnx _ hB) hc2,zF2 hB2 hk.size⟩,hk⟩
 .
  obtain⟨ys,e1,e2⟩:=hf Q75
  refine⟨xs++ys, ?_,by rw[<-zD0];exact e2⟩
  rw[List.map_append,hxs,m2,zD0]
  exact(List.prefix_append_right_inj _).2 (e1.trans (List.prefix_append _ _))):p:=h
theorem U57{p:Prop}(h:p:=by
 refine⟨r,rfl,fun e=>?_,hf⟩
 obtain⟨⟨⟨xs,h1,h2⟩,_⟩,hk⟩:=ht e
 rw[List.take_length]at h1
 exact⟨⟨xs,h1,h2⟩,(Kc.grown Y0.out).trans hk⟩):p:=h
theorem M952{p q:Prop}(k:q)(h:Kx q->p:=by
 intro kQ
 intro pre W a c hL hb hB hJ hN
 have hmf:∀(fn:Fn) (first cap:Array Value) (w:World),(Instr.makeFunc fn first cap).run Tryz.prog w=.ok (.func fn first cap) w:=fun _ _ _ _=>rfl
 have y0:=aB W (.cells #[.func (.yield ly) #[] #[]] 151 (0,0)) none
 have x0:=Blk.new W 151 [.func (.yield ly) #[] #[]]
 simp only[List.toArray]at x0
 have hb1:=hb.trans ((aA y0).mono hb.size)
 have J1:=hy.hJ _ _ _ hJ y0
 have hnx:∀k,B<=k->¬X k:=fun k hk hx=>by have:=(hy.hX k hx).2;omega
 revert hnx;revert J1;revert hb1;revert x0;revert y0;revert hmf;revert hN;revert hJ;revert hB;revert hb;revert hL;revert c;revert a;revert W;revert pre
 exact kQ.o):p:=h ⟨k⟩
mutual
def wfE:Ex->Prop
 | .mk k n mod name kids=>(0<=k/\k<8/\mod.length<=1048576/\name.length<=1048576)/\aG2 kids
def aG2:List Ex->Prop
 | []=>True
 | e :: l=>wfE e/\aG2 l
end
theorem aG8:∀{l:List Ex},aG2 l->∀e ∈ l,wfE e:=by
 intro l
 induction l with
 | nil=>intro _ e he;simp at he
 | cons x l ih=>
  intro h e he;unfold aG2 at h
  rcases zG3.1 he with rfl|he
  .
   exact h.1
  .
   exact ih h.2 e he
theorem oG (l r:List Ex):dQ (l++r)=dQ l++dQ r:=by
 induction l with
 | nil=>simp[dQ]
 | cons x l ih=>simp[dQ,ih]
theorem aId {l:List Ex}{j:Nat}{e:Ex}(h:l[j]?=some e):dQ (l.take (j+1))=dQ (l.take j)++aE7 e/\∃r,dQ l=dQ (l.take j)++aE7 e++r:=by
 obtain⟨hj,rfl⟩:=zC1.1 h
 have e1:dQ (l.take (j+1))=dQ (l.take j)++aE7 l[j]:=by
  rw[zF1 hj,oG]
  simp[dQ]
 refine⟨e1,dQ (l.drop (j+1)), ?_⟩;rw[<-e1,<-oG,List.take_append_drop]
def Ex.yk:Ex->List Ex
 | .mk _ _ _ _ ks=>ks
set_option maxHeartbeats 4000000 in
theorem aFg {w0:World}{ly B n0 N:Nat}{X:Nat->Prop}{J Jx:List (MeR w0)->World->Prop}(hy:Yw w0 ly B n0 N X J Jx)(l:List Ex)(hwf:aG2 l)(IH:∀e ∈ l,InE w0 ly B n0 N X J Jx e.yk):InE w0 ly B n0 N X J Jx l:=by
 refine M952 ?_;intro pre W a c hL hb hB hJ hN hmf y0 x0 hb1 J1 hnx
 have A:∀W1:World,lS false 150 #[.pointer (some ⟨W.heap.size,0,none⟩)] X n0 agg a c 5 (exs l) (fun j wr=>(∃xs:List (MeR w0),xs.map MeR.me=dQ (l.take j)/\J (pre++xs) wr)/\Below w0.heap.size w0 wr/\wr.cell? ⟨W.heap.size,0,none⟩=some (.func (.yield ly) #[] #[])/\B<=wr.heap.size) (fun wr=>∃xs:List (MeR w0),xs.map MeR.me <+:dQ l/\Jx (pre++xs) wr):=by
  intro W1
  refine⟨cQ Tryz.func150 rfl rfl,fun j wr hi=>hL.below hi.2.1,by intro r hr;rw[aQ]at hr;obtain⟨y,_,rfl⟩:=zE1.1 hr;cases y;rfl, ?_⟩
  rintro j r wr vs hr ⟨⟨xs,hxs,hJ2⟩,hb2,hc2,hB2⟩ Ai hcs;have hvl:vs.length=r.length:=Ai.len;have hv0:=jM hL hb2 hr hvl hcs;rw[aQ,zA2]at hr;obtain⟨e,he,rfl⟩:=zF0.1 hr;have hwe:=aG8 hwf e (zA3 he);have ihe:=IH e (zA3 he);obtain⟨m1,rst,m2⟩:=aId he
  have hxl:xs.length=(dQ (l.take j)).length:=by rw[<-hxs,zB2]
  have hN2:(pre++xs).length+(aE7 e).length<=N:=by
   rw[m2]at hN;simp only[zA1]at hN ⊢
   omega
  obtain⟨k,n,mod,name,kids⟩:=e;unfold wfE at hwe;obtain⟨⟨k0,k8,hm,hn⟩,_⟩:=hwe
  obtain⟨kn,rfl⟩:∃kn:Nat,k=kn:=⟨k.toNat,by omega⟩
  refine(aO1 hy kn Q0 n mod name kids (pre++xs) vs wr W.heap.size hv0 hc2 hB hb2 hB2 hJ2 hN2 hm hn ihe).mono ?_;exact U17
 have e5:(exs l).length=l.length:=by rw[aQ,zB2]
 have H1:=aJl 150 #[.pointer (some ⟨W.heap.size,0,none⟩)] X n0 a l.length c (exs l) _ _ _ (A (W.alloc (.cells #[.func (.yield ly) #[] #[]] 151 (0,0)))) e5 ⟨⟨[],by simp[dQ],by simpa using J1⟩,hb1,x0.k 0,zF2 hB y0.size⟩ (by
  rintro j w w' ⟨⟨xs,h1,h2⟩,h3,h4,h5⟩ hg
  exact⟨⟨xs,h1,hy.hJ _ _ _ h2 hg⟩,h3.trans ((aA hg).mono h3.size),aC h4 (aA hg),zF2 h5 hg.size⟩) (hnx _ (zF2 hB y0.size))
 have Y0:Hid (W.grownBy _ none):=y0
 clear A hb hJ J1 hb1 x0 y0 hL IH hwf hN e5 hnx hy;go_enter Tryz.func137,Tryz.ntmps137;go_upto_region 1 with fail;generalize W.alloc (.cells #[.func (.yield ly) #[] #[]] 151 (0,0))=w1 at *;go_wp2_with fail;refine H1.mono ?_;rintro e w2 ⟨r,rfl,ht,hf⟩
 have HT:Hid (Out n0 X J Jx pre (dQ l) W (.returned (.bool r)) w2):=by
  exact U57
 clear H1 ht hf;go_wp2;go_ret;exact HT.out
mutual
theorem aO2 {w0:World}{ly B n0 N:Nat}{X:Nat->Prop}{J Jx:List (MeR w0)->World->Prop}(hy:Yw w0 ly B n0 N X J Jx):∀e:Ex,wfE e->InE w0 ly B n0 N X J Jx e.yk
 | .mk k n mod name kids,h=>aFg hy kids (by unfold wfE at h;exact h.2) (aMc hy kids (by unfold wfE at h;exact h.2))
theorem aMc {w0:World}{ly B n0 N:Nat}{X:Nat->Prop}{J Jx:List (MeR w0)->World->Prop}(hy:Yw w0 ly B n0 N X J Jx):∀l:List Ex,aG2 l->∀e ∈ l,InE w0 ly B n0 N X J Jx e.yk
 | [],_,e,he=>by simp at he
 | x :: l,h,e,he=>by
  unfold aG2 at h;have h1:=aO2 hy x h.1;have h2:=aMc hy l h.2
  rcases zG3.1 he with rfl|he
  .
   exact h1
  .
   exact h2 e he
end
theorem aIp {w0:World}{ly B n0 N:Nat}{X:Nat->Prop}{J Jx:List (MeR w0)->World->Prop}(hy:Yw w0 ly B n0 N X J Jx)(l:List Ex)(h:aG2 l):InE w0 ly B n0 N X J Jx l:=aFg hy l h (aMc hy l h)
end Go.Proofs.YtffphdacgblaoaaGreatDoor
namespace Go.Proofs.YtffphdacgblaoaaGreatDoor
open Go.RowKit Go.Shelf
set_option maxHeartbeats 4000000
set_option linter.unusedVariables false
set_option linter.unusedSimpArgs false
set_option maxRecDepth 100000
attribute [local go_sem] Oper.semAt_some
mutual
def aE6:St->List Me
 | .mk k n name kids body els=>(if wQ k.toNat=0 then [] else [⟨name,wQ k.toNat,[]⟩])++(dQ kids++(cU body++cU els))
def cU:List St->List Me
 | []=>[]
 | s :: l=>aE6 s++cU l
end
def InS (w0:World)(ly B n0 N:Nat)(X:Nat->Prop)(J Jx:List (MeR w0)->World->Prop)(l:List St):Prop:=
 ∀(pre:List (MeR w0)) (W:World) (a:Option Addr) (c:Nat),bQ w0 a c 6 (sts l)->Below w0.heap.size w0 W->B<=W.heap.size->J pre W->pre.length+(cU l).length<=N →
  Calls Tryz.prog 116 #[.slice a l.length c,.func (.yield ly) #[] #[]] W (Out n0 X J Jx pre (cU l) W)
structure Sn {w0:World} (B n0:Nat) (X:Nat->Prop) (J:List (MeR w0)->World->Prop) (pre:List (MeR w0)) (W:World) (ms0:List Me) (W1:World):Prop where
 ex:∃xs:List (MeR w0),xs.map MeR.me=ms0/\J (pre++xs) W1
 kc:Kc X n0 W W1
 b:Below w0.heap.size w0 W1
 sz:B<=W1.heap.size
theorem aEp {w0:World}{n0:Nat}{X:Nat->Prop}{J Jx:List (MeR w0)->World->Prop}{pre:List (MeR w0)}{W W2:World}{ms0 ms1 ms:List Me}(hm:ms0++ms1 <+:ms){xs:List (MeR w0)}(h0:xs.map MeR.me=ms0)(h:∃ys:List (MeR w0),ys.map MeR.me <+:ms1/\Jx (pre++xs++ys) W2):Out n0 X J Jx pre ms W (.returned (.bool false)) W2:=by
 obtain⟨ys,e1,e2⟩:=h
 refine⟨false,rfl,fun e=> Q68,fun _=>⟨xs++ys, ?_,by rw[<-zD0];exact e2⟩⟩
 rw[List.map_append,h0];exact((List.prefix_append_right_inj _).2 e1).trans hm
theorem Sn.step {w0:World}{B n0:Nat}{X:Nat->Prop}{J:List (MeR w0)->World->Prop}{pre:List (MeR w0)}{W W1 W2:World}{ms0 ms1:List Me}(h:Sn B n0 X J pre W ms0 W1){xs:List (MeR w0)}(hxs:xs.map MeR.me=ms0)(h0:w0.heap.size<=n0)(hX:∀k,X k->w0.heap.size<=k)
  (h2:(∃ys:List (MeR w0),ys.map MeR.me=ms1/\J (pre++xs++ys) W2)/\Kc X n0 W1 W2):Sn B n0 X J pre W (ms0++ms1) W2:=by
 obtain⟨⟨ys,e1,e2⟩,hk⟩:=h2
 exact⟨⟨xs++ys,by rw[List.map_append,hxs,e1],by rw[<-zD0];exact e2⟩,h.kc.trans hk,Kc.below h.b hk h0 hX,zF2 h.sz hk.size⟩
def Bo (P:Prop)(Q:Prop)(b:Bool):Prop:=(b=true->P)/\(b=false->Q)
theorem Bo.split {P Q:Prop}{b:Bool}(h:Bo P Q b):(b=true/\P)\/(b=false/\Hid Q):=by
 cases b
 .
  exact .inr ⟨rfl,h.2 rfl⟩
 .
  exact .inl ⟨rfl,h.1 rfl⟩
theorem aN4 {w0:World}{ly B n0 N:Nat}{X:Nat->Prop}{J Jx:List (MeR w0)->World->Prop}(hy:Yw w0 ly B n0 N X J Jx)(kids:List Ex)(body els:List St)(pre:List (MeR w0))(ms0:List Me)(W W1:World)(gY gS:Nat)(a3 a4 a5:Option Addr)(c3 c4 c5:Nat)
  (h3:bQ w0 a3 c3 5 (exs kids)) (h4:bQ w0 a4 c4 6 (sts body)) (h5:bQ w0 a5 c5 6 (sts els)) (IHk:InE w0 ly B n0 N X J Jx kids) (IHb:InS w0 ly B n0 N X J Jx body) (IHe:InS w0 ly B n0 N X J Jx els)
  (hN:pre.length+(ms0++(dQ kids++(cU body++cU els))).length<=N) (h:Sn B n0 X J pre W ms0 W1) (hgY:B<=gY) (hgS:B<=gS) (cY:W1.cell? ⟨gY,0,none⟩=some (.func (.yield ly) #[] #[])) (k4:W1.cell? ⟨gS,4,none⟩=some (.slice a4 body.length c4)) (k5:W1.cell? ⟨gS,5,none⟩=some (.slice a5 els.length c5)):
  Calls Tryz.prog 137 #[.slice a3 kids.length c3,.func (.yield ly) #[] #[]] W1 fun e w2=>∃b:Bool,e=.returned (.bool b)/\Hid (Bo
   ((w2.cell? ⟨gY,0,none⟩=some (.func (.yield ly) #[] #[])/\w2.cell? ⟨gS,4,none⟩=some (.slice a4 body.length c4))/\Calls Tryz.prog 116 #[.slice a4 body.length c4,.func (.yield ly) #[] #[]] w2 fun e w3=>∃b:Bool,e=.returned (.bool b)/\Hid (Bo
    ((w3.cell? ⟨gY,0,none⟩=some (.func (.yield ly) #[] #[])/\w3.cell? ⟨gS,5,none⟩=some (.slice a5 els.length c5))/\Calls Tryz.prog 116 #[.slice a5 els.length c5,.func (.yield ly) #[] #[]] w3 (Out n0 X J Jx pre (ms0++(dQ kids++(cU body++cU els))) W))
    (Out n0 X J Jx pre (ms0++(dQ kids++(cU body++cU els))) W (.returned (.bool false)) w3) b))
   (Out n0 X J Jx pre (ms0++(dQ kids++(cU body++cU els))) W (.returned (.bool false)) w2) b):=by
 have hnx:∀k,B<=k->¬X k:=fun k hk hx=>by have:=(hy.hX k hx).2;omega
 have hX0:∀k,X k->w0.heap.size<=k:=fun k hx=>(hy.hX k hx).1
 simp only[zA1]at hN;obtain⟨xs,e1,e2⟩:=h.ex
 have hl1:xs.length=ms0.length:=by rw[<-e1,zB2]
 refine(IHk (pre++xs) W1 a3 c3 h3 h.b h.sz e2 (by simp only[zA1];omega)).mono ?_
 rintro e w2 ⟨b,rfl,ht,hf⟩
 refine⟨b,rfl,fun hb=>?_,fun hb=>?_⟩
 .
  have s2:=h.step e1 hy.h0 hX0 (ht hb);have hk2:=(ht hb).2;have cY2:=hk2.cell (hnx _ hgY) cY;have k42:=hk2.cell (hnx _ hgS) k4;have k52:=hk2.cell (hnx _ hgS) k5;refine⟨⟨cY2,k42⟩, ?_⟩;obtain⟨ys,e3,e4⟩:=s2.ex
  have hl2:ys.length=ms0.length+(dQ kids).length:=by rw[<-zB2 (f:=MeR.me),e3,zA1]
  refine(IHb (pre++ys) w2 a4 c4 h4 s2.b s2.sz e4 (by simp only[zA1];omega)).mono ?_
  rintro e w3 ⟨b,rfl,ht,hf⟩
  refine⟨b,rfl,fun hb=>?_,fun hb=>?_⟩
  .
   have s3:=s2.step e3 hy.h0 hX0 (ht hb);have hk3:=(ht hb).2;refine⟨⟨hk3.cell (hnx _ hgY) cY2,hk3.cell (hnx _ hgS) k52⟩, ?_⟩;obtain⟨zs,e5,e6⟩:=s3.ex
   have hl3:zs.length=ms0.length+(dQ kids).length+(cU body).length:=by rw[<-zB2 (f:=MeR.me),e5,zA1,zA1]
   refine(IHe (pre++zs) w3 a5 c5 h5 s3.b s3.sz e6 (by simp only[zA1];omega)).mono ?_
   rintro e w4 ⟨b,rfl,ht,hf⟩;cases b
   .
    exact aEp Q9 e5 (hf rfl)
   .
    have s4:=s3.step e5 hy.h0 hX0 (ht rfl)
    refine⟨true,rfl,fun _=>⟨?_,s4.kc⟩,fun e=> Q68⟩
    obtain⟨us,e7,e8⟩:=s4.ex
    exact⟨us,by rw[e7];simp,e8⟩
  .
   exact aEp (ms1:=cU body) (by simp only[zD0];exact(List.prefix_append_right_inj _).2 ((List.prefix_append_right_inj _).2 (List.prefix_append _ _))) e3 (hf hb)
 .
  exact aEp (ms1:=dQ kids) ((List.prefix_append_right_inj _).2 (List.prefix_append _ _)) e1 (hf hb)
theorem aO0 {w0:World}{ly B n0 N:Nat}{X:Nat->Prop}{J Jx:List (MeR w0)->World->Prop}(hy:Yw w0 ly B n0 N X J Jx)(kn:Nat)(hk:kn<8)(n:Int)(name:List Int)(kids:List Ex)(body els:List St)(pre:List (MeR w0))(vs:List Value)(W:World)(gY:Nat)
  (h:cC w0 (St.fl (.mk kn n name kids body els)) vs) (hc:W.cell? ⟨gY,0,none⟩=some (.func (.yield ly) #[] #[])) (hgY:B<=gY) (hb:Below w0.heap.size w0 W) (hB:B<=W.heap.size) (hJ:J pre W) (hN:pre.length+(aE6 (.mk kn n name kids body els)).length<=N)
  (hn2:name.length<=1048576) (IHk:InE w0 ly B n0 N X J Jx kids) (IHb:InS w0 ly B n0 N X J Jx body) (IHe:InS w0 ly B n0 N X J Jx els):
  Calls Tryz.prog 136 #[agg vs,.pointer (some ⟨gY,0,none⟩)] W (Out n0 X J Jx pre (aE6 (.mk kn n name kids body els)) W):=by
 obtain⟨v0,_,rfl,rfl,v1,_,rfl,rfl,v2,_,rfl,⟨a2,c2,rfl,hb2,_⟩,v3,_,rfl,h3,v4,_,rfl,h4,v5,_,rfl,h5,rfl⟩:=h;obtain⟨a3,c3,rfl,hL3⟩:=h3.list;obtain⟨a4,c4,rfl,hL4⟩:=h4.list;obtain⟨a5,c5,rfl,hL5⟩:=h5.list
 rw[show(exs kids).length=kids.length by simp[aQ],show(sts body).length=body.length by simp[bL],show(sts els).length=els.length by simp[bL]]
 have y0:=aB W (.cells #[.int .i64 kn,.int .i64 n,.slice a2 name.length c2,.slice a3 kids.length c3,.slice a4 body.length c4,.slice a5 els.length c5] 116 (0,0)) none;have x0:=Blk.new W 116 [.int .i64 kn,.int .i64 n,.slice a2 name.length c2,.slice a3 kids.length c3,.slice a4 body.length c4,.slice a5 els.length c5];simp only[List.toArray]at x0;have hb1:=hb.trans ((aA y0).mono hb.size);have t1:=aC (hy.st kn hk) hb1;have c1:=aC hc (aA y0);have J1:=hy.hJ _ _ _ hJ y0;have hB1:=zF2 hB y0.size;simp only[agg]
 by_cases hs:wQ kn=0
 .
  have HM:Hid (aE6 (.mk kn n name kids body els)=[]++(dQ kids++(cU body++cU els))):=by show _=_;unfold aE6;simp[hs]
  rw[HM.out]at hN ⊢;rw[hs]at t1
  have H4:=aN4 hy kids body els pre [] W (W.alloc (.cells #[.int .i64 kn,.int .i64 n,.slice a2 name.length c2,.slice a3 kids.length c3,.slice a4 body.length c4,.slice a5 els.length c5] 116 (0,0))) gY W.heap.size a3 a4 a5 c3 c4 c5 hL3 hL4 hL5 IHk IHb IHe hN ⟨⟨[],rfl,by simpa using J1⟩,Kc.grown y0,hb1,hB1⟩ hgY hB c1 (x0.k 4) (x0.k 5)
  clear hb hc hJ IHk IHb IHe hL3 hL4 hL5 h3 h4 h5 hb2 J1 hy hb1;go_enter Tryz.func136,Tryz.ntmps136;go_upto_region 1 with fail;generalize (W.alloc (.cells #[.int .i64 kn,.int .i64 n,.slice a2 name.length c2,.slice a3 kids.length c3,.slice a4 body.length c4,.slice a5 els.length c5] 116 (0,0)))=w1 at *;have k0:=x0.k 0;have k3:=x0.k 3;clear y0 hB1;go_wp2_with fail;refine H4.mono ?_;rintro e w2 ⟨b,rfl,HB⟩;clear H4 k0 k3 t1 c1 x0;cases b
  .
   have HO:Hid (Out n0 X J Jx pre ([]++(dQ kids++(cU body++cU els))) W (.returned (.bool false)) w2):=HB.out.2 rfl
   clear HB;go_wp2;go_ret;exact HO.out
  .
   obtain⟨⟨c2',k4'⟩,H5⟩:=HB.out.1 rfl;clear HB;go_wp2_with fail;refine H5.mono ?_;rintro e w3 ⟨b,rfl,HB⟩;clear H5 c2' k4';cases b
   .
    have HO:Hid (Out n0 X J Jx pre ([]++(dQ kids++(cU body++cU els))) W (.returned (.bool false)) w3):=HB.out.2 rfl
    clear HB;go_wp2;go_ret;exact HO.out
   .
    obtain⟨⟨c3',k5'⟩,H6⟩:=HB.out.1 rfl;clear HB;go_wp2_with fail;refine H6.mono ?_;rintro e w4 ⟨b,rfl,HT⟩
    replace HT:Hid _:=HT
    clear H6 c3' k5';go_wp2;go_ret;exact⟨b,rfl,HT.out⟩
 .
  obtain⟨x,hxm,hxe⟩:∃(x:MeR w0),x.me=⟨name,wQ kn,[]⟩/\x.enc=.agg #[.string (strOfNums name),.int .i64 (wQ kn),.slice none 0 0]:=⟨⟨⟨name,wQ kn,[]⟩,none,0,hb2.2.1,zF2 hn2 Q6,zU w0⟩,rfl,rfl⟩
  have HM:Hid (aE6 (.mk kn n name kids body els)=[x.me]++(dQ kids++(cU body++cU els))):=by show _=_;unfold aE6;rw[hxm];simp[hs]
  rw[HM.out]at hN ⊢
  have hnx:∀k,B<=k->¬X k:=fun k hk hx=>by have:=(hy.hX k hx).2;omega
  have HYA:YieldAt Fence.wide 0 Tryz.prog ly #[x.enc] (W.alloc (.cells #[.int .i64 kn,.int .i64 n,.slice a2 name.length c2,.slice a3 kids.length c3,.slice a4 body.length c4,.slice a5 els.length c5] 116 (0,0))) fun e w3=>∃be:Bool,e=.returned (.bool be)/\Hid (Bo ((w3.cell? ⟨gY,0,none⟩=some (.func (.yield ly) #[] #[])/\w3.cell? ⟨W.heap.size,3,none⟩=some (.slice a3 kids.length c3)) ∧
    Calls Tryz.prog 137 #[.slice a3 kids.length c3,.func (.yield ly) #[] #[]] w3 fun e w2=>∃b:Bool,e=.returned (.bool b)/\Hid (Bo
   ((w2.cell? ⟨gY,0,none⟩=some (.func (.yield ly) #[] #[])/\w2.cell? ⟨W.heap.size,4,none⟩=some (.slice a4 body.length c4))/\Calls Tryz.prog 116 #[.slice a4 body.length c4,.func (.yield ly) #[] #[]] w2 fun e w3=>∃b:Bool,e=.returned (.bool b)/\Hid (Bo
    ((w3.cell? ⟨gY,0,none⟩=some (.func (.yield ly) #[] #[])/\w3.cell? ⟨W.heap.size,5,none⟩=some (.slice a5 els.length c5))/\Calls Tryz.prog 116 #[.slice a5 els.length c5,.func (.yield ly) #[] #[]] w3 (Out n0 X J Jx pre ([x.me]++(dQ kids++(cU body++cU els))) W))
    (Out n0 X J Jx pre ([x.me]++(dQ kids++(cU body++cU els))) W (.returned (.bool false)) w3) b))
   (Out n0 X J Jx pre ([x.me]++(dQ kids++(cU body++cU els))) W (.returned (.bool false)) w2) b)) (Out n0 X J Jx pre ([x.me]++(dQ kids++(cU body++cU els))) W (.returned (.bool false)) w3) be):=by
   refine YieldAt.mono (hy.hY 0 pre x _ J1 (by simp only[zA1,List.length_singleton]at hN;omega)) ?_
   rintro e w3 (⟨rfl,hJ3,hk3⟩|⟨rfl,hJx⟩)
   .
    refine⟨true,rfl,fun _=>⟨⟨hk3.cell (hnx _ hgY) c1,hk3.cell (hnx _ hB) (x0.k 3)⟩, ?_⟩,fun e=> Q68⟩
    exact aN4 hy kids body els pre [x.me] W w3 gY W.heap.size a3 a4 a5 c3 c4 c5 hL3 hL4 hL5 IHk IHb IHe hN ⟨⟨[x],rfl,hJ3⟩,(Kc.grown y0).trans hk3,Kc.below hb1 hk3 hy.h0 (fun k hx=>(hy.hX k hx).1),zF2 hB1 hk3.size⟩ hgY hB (hk3.cell (hnx _ hgY) c1) (hk3.cell (hnx _ hB) (x0.k 4)) (hk3.cell (hnx _ hB) (x0.k 5))
   .
    exact⟨false,rfl,fun e=> Q68,fun _=>⟨false,rfl,fun e=> Q68,fun _=>⟨[x],by simp,hJx⟩⟩⟩
  obtain⟨fn,tmps,assign,body',hyl,hR⟩:=HYA;rw[hxe]at hyl;have kc:=bP c2 (hb2.below hb1)
  have hsb:(wQ kn != 0)=true:=by simpa using hs
  clear hb hc hJ IHk IHb IHe hL3 hL4 hL5 h3 h4 h5 hb2 J1 hy hb1 hxe hxm hnx hs y0 hB1
  refine callsIn_wide (n:=0) |>.1 ?_
  refine callsIn_of_wp Tryz.func136 rfl trivial ?_ rfl;simp only[Tryz.ntmps136,List.size_toArray,zB1,zC3,Nat.reduceAdd,Nat.reduceSub,Array.replicate_succ,Array.replicate_zero,List.push_toArray,List.append_toArray,List.nil_append,List.cons_append];have k0:=x0.k 0;have k2:=x0.k 2
  gi_wp2_with (first
   | (refine⟨rfl, ?_⟩;refine hR.mono ?_;clear hR;rintro e w3 ⟨be,rfl,HB⟩;rcases Bo.split HB.out with⟨rfl,⟨cY3,k33⟩,H4⟩|⟨rfl,HO⟩)
   | (refine⟨trivial,rfl, ?_⟩;gi_at_call 137;refine(callsIn_wide.2 H4).mono ?_;clear H4;rintro e w4 ⟨be4,rfl,HB4⟩;rcases Bo.split HB4.out with⟨rfl,⟨cY4,k44⟩,H5⟩|⟨rfl,HO⟩)
   | (refine⟨trivial,rfl, ?_⟩;gi_at_call 116;refine(callsIn_wide.2 H5).mono ?_;clear H5;rintro e w5 ⟨be5,rfl,HB5⟩;rcases Bo.split HB5.out with⟨rfl,⟨cY5,k55⟩,H6⟩|⟨rfl,HO⟩)
   | (refine⟨trivial,rfl, ?_⟩;gi_at_call 116;refine(callsIn_wide.2 H6).mono ?_;clear H6;rintro e w6 ⟨be6,rfl,HT⟩;replace HT:Hid _:=HT))
  all_goals first
   | (go_ret;exact⟨be6,rfl,HT.out⟩)
   | (go_ret;exact HO.out)
   | (refine⟨trivial, ?_⟩;gi_wp2_with fail;go_ret;exact HO.out)
   | (refine⟨trivial, ?_⟩;gi_wp2_with fail;refine⟨trivial, ?_⟩;gi_wp2_with fail;go_ret;exact HO.out)
mutual
def wfS:St->Prop
 | .mk k n name kids body els=>(0<=k/\k<8/\name.length<=1048576)/\aG2 kids/\yM body/\yM els
def yM:List St->Prop
 | []=>True
 | s :: l=>wfS s/\yM l
end
theorem aG7:∀{l:List St},yM l->∀e ∈ l,wfS e:=by
 intro l
 induction l with
 | nil=>intro _ e he;simp at he
 | cons x l ih=>
  intro h e he;unfold yM at h
  rcases zG3.1 he with rfl|he
  .
   exact h.1
  .
   exact ih h.2 e he
theorem oF (l r:List St):cU (l++r)=cU l++cU r:=by
 induction l with
 | nil=>simp[cU]
 | cons x l ih=>simp[cU,ih]
theorem aIc {l:List St}{j:Nat}{e:St}(h:l[j]?=some e):cU (l.take (j+1))=cU (l.take j)++aE6 e/\∃r,cU l=cU (l.take j)++aE6 e++r:=by
 obtain⟨hj,rfl⟩:=zC1.1 h
 have e1:cU (l.take (j+1))=cU (l.take j)++aE6 l[j]:=by
  rw[zF1 hj,oF]
  simp[cU]
 refine⟨e1,cU (l.drop (j+1)), ?_⟩;rw[<-e1,<-oF,List.take_append_drop]
def St.yb:St->List St
 | .mk _ _ _ _ b _=>b
def St.ye:St->List St
 | .mk _ _ _ _ _ e=>e
theorem xO {w0:World}{ly B n0 N:Nat}{X:Nat->Prop}{J Jx:List (MeR w0)->World->Prop}(hy:Yw w0 ly B n0 N X J Jx)(l:List St)(hwf:yM l)(IH:∀e ∈ l,InS w0 ly B n0 N X J Jx e.yb/\InS w0 ly B n0 N X J Jx e.ye):InS w0 ly B n0 N X J Jx l:=by
 refine M952 ?_;intro pre W a c hL hb hB hJ hN hmf y0 x0 hb1 J1 hnx
 have A:∀W1:World,lS false 136 #[.pointer (some ⟨W.heap.size,0,none⟩)] X n0 agg a c 6 (sts l) (fun j wr=>(∃xs:List (MeR w0),xs.map MeR.me=cU (l.take j)/\J (pre++xs) wr)/\Below w0.heap.size w0 wr/\wr.cell? ⟨W.heap.size,0,none⟩=some (.func (.yield ly) #[] #[])/\B<=wr.heap.size) (fun wr=>∃xs:List (MeR w0),xs.map MeR.me <+:cU l/\Jx (pre++xs) wr):=by
  intro W1
  refine⟨cQ Tryz.func136 rfl rfl,fun j wr hi=>hL.below hi.2.1,by intro r hr;rw[bL]at hr;obtain⟨y,_,rfl⟩:=zE1.1 hr;cases y;rfl, ?_⟩
  rintro j r wr vs hr ⟨⟨xs,hxs,hJ2⟩,hb2,hc2,hB2⟩ Ai hcs;have hvl:=Ai.len;have hv0:=jM hL hb2 hr hvl hcs;rw[bL,zA2]at hr;obtain⟨e,he,rfl⟩:=zF0.1 hr;have hwe:=aG7 hwf e (zA3 he);have ihe:=IH e (zA3 he);obtain⟨m1,rst,m2⟩:=aIc he
  have hxl:xs.length=(cU (l.take j)).length:=by rw[<-hxs,zB2]
  have hN2:(pre++xs).length+(aE6 e).length<=N:=by
   rw[m2]at hN;simp only[zA1]at hN ⊢
   omega
  obtain⟨k,n,name,kids,body,els⟩:=e;unfold wfS at hwe;obtain⟨⟨k0,k8,hn⟩,hwk,_⟩:=hwe
  obtain⟨kn,rfl⟩:∃kn:Nat,k=kn:=⟨k.toNat,by omega⟩
  refine(aO0 hy kn Q0 n name kids body els (pre++xs) vs wr W.heap.size hv0 hc2 hB hb2 hB2 hJ2 hN2 hn (aIp hy kids hwk) ihe.1 ihe.2).mono ?_;exact U17
 have e5:(sts l).length=l.length:=by rw[bL,zB2]
 have H1:=aJk 136 #[.pointer (some ⟨W.heap.size,0,none⟩)] X n0 a l.length c (sts l) _ _ _ (A (W.alloc (.cells #[.func (.yield ly) #[] #[]] 151 (0,0)))) e5 ⟨⟨[],by simp[cU],by simpa using J1⟩,hb1,x0.k 0,zF2 hB y0.size⟩ (by
  rintro j w w' ⟨⟨xs,h1,h2⟩,h3,h4,h5⟩ hg
  exact⟨⟨xs,h1,hy.hJ _ _ _ h2 hg⟩,h3.trans ((aA hg).mono h3.size),aC h4 (aA hg),zF2 h5 hg.size⟩) (hnx _ (zF2 hB y0.size))
 have Y0:=hid y0;clear A hb hJ J1 hb1 x0 y0 hL IH hwf hN e5 hnx hy;go_enter Tryz.func116,Tryz.ntmps116;go_upto_region 1 with fail;generalize W.alloc (.cells #[.func (.yield ly) #[] #[]] 151 (0,0))=w1 at *;go_wp2_with fail;refine H1.mono ?_;rintro e w2 ⟨r,rfl,ht,hf⟩
 have HT:Hid (Out n0 X J Jx pre (cU l) W (.returned (.bool r)) w2):=by
  exact U57
 clear H1 ht hf;go_wp2;go_ret;exact HT.out
mutual
theorem aIq {w0:World}{ly B n0 N:Nat}{X:Nat->Prop}{J Jx:List (MeR w0)->World->Prop}(hy:Yw w0 ly B n0 N X J Jx):∀e:St,wfS e->InS w0 ly B n0 N X J Jx e.yb/\InS w0 ly B n0 N X J Jx e.ye
 | .mk k n name kids body els,h=>⟨xO hy body (by unfold wfS at h;exact h.2.2.1) (aAc hy body (by unfold wfS at h;exact h.2.2.1)),xO hy els (by unfold wfS at h;exact h.2.2.2) (aAc hy els (by unfold wfS at h;exact h.2.2.2))⟩
theorem aAc {w0:World}{ly B n0 N:Nat}{X:Nat->Prop}{J Jx:List (MeR w0)->World->Prop}(hy:Yw w0 ly B n0 N X J Jx):∀l:List St,yM l->∀e ∈ l,InS w0 ly B n0 N X J Jx e.yb/\InS w0 ly B n0 N X J Jx e.ye
 | [],_,e,he=>by simp at he
 | x :: l,h,e,he=>by
  unfold yM at h;have h1:=aIq hy x h.1;have h2:=aAc hy l h.2
  rcases zG3.1 he with rfl|he
  .
   exact h1
  .
   exact h2 e he
end
theorem aIo {w0:World}{ly B n0 N:Nat}{X:Nat->Prop}{J Jx:List (MeR w0)->World->Prop}(hy:Yw w0 ly B n0 N X J Jx)(l:List St)(h:yM l):InS w0 ly B n0 N X J Jx l:=xO hy l h (aAc hy l h)
theorem xI (w0 w:World)(m n0 B gB:Nat)(X:Nat->Prop)(body:List St)(a:Option Addr)(c:Nat)(hL:bQ w0 a c 6 (sts body))(hwf:yM body)(hb:Below w0.heap.size w0 w)(hB:B<=w.heap.size)(hX:∀k,X k->w0.heap.size<=k/\k<B)(h0:w0.heap.size<=n0)
  (hex:∀i,i<8->w0.cell? ⟨1,i,none⟩=some (.int .i64 (vU i))) (hst:∀i,i<8->w0.cell? ⟨0,i,none⟩=some (.int .i64 (wQ i))) (hgB:w.cell? ⟨gB,0,none⟩=some (.slice a body.length c)):
  SeqStopsK Fence.wide m Tryz.prog 115 #[.pointer (some ⟨gB,0,none⟩)] (fun x:MeR w0=>#[x.enc]) (Kc X n0) (fun xs=>xs.map MeR.me=cU body) (fun xs=>xs.map MeR.me <+:cU body) (cU body).length w:=by
 intro l J Jx W hW hJ hJx hY hI
 have hyw:Yw w0 l B n0 (cU body).length X J Jx:=⟨fun s A C h hg=>hJ s A C none h hg (fun r e=>by cases e),fun m' pre x W1 h1 h2=>by
   obtain⟨fn,tmps,assign,bdy,hy,hR⟩:=hY pre x W1 h1 h2
   exact⟨fn,tmps,assign,bdy,hy,hR.1,fun c cs _=>hR.2 c cs (room_wide _)⟩,hX,h0,hex,hst⟩
 have H:=aIo hyw body hwf [] W a c hL (hb.trans (hW.mono hb.size)) (zF2 hB hW.size) hI Q9;have cB:=aC hgB hW;refine callsIn_wide.2 ?_;clear hyw hY hI hJ hJx;go_enter Tryz.func115,Tryz.ntmps115;go_wp2_with fail;refine H.mono ?_;rintro e w2 ⟨b,rfl,ht,hf⟩
 have HT:Hid ((∃xs:List (MeR w0),xs.map MeR.me=cU body/\J xs w2)\/(∃xs:List (MeR w0),xs.map MeR.me <+:cU body/\Jx xs w2)):=by
  cases b
  .
   exact .inr (by simpa using hf rfl)
  .
   exact .inl (by simpa using (ht rfl).1)
 clear H ht hf;go_wp2_with fail;exact bodyPost_end (results_none rfl _ _ _) rfl ⟨⟨_,rfl⟩,HT.out⟩
end Go.Proofs.YtffphdacgblaoaaGreatDoor

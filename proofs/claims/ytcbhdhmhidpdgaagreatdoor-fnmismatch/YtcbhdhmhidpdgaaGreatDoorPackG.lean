import Derived.Test.YtcbhdhmhidpdgaaGreatDoorPackF
import Derived.Test.YtcbhdhmhidpdgaaGreatDoorSpEx
import Derived.Deep.AppendLies
namespace Go.Proofs.YtcbhdhmhidpdgaaGreatDoor
open Go.RowKit
set_option linter.unusedVariables false
set_option linter.unusedSimpArgs false
set_option maxRecDepth 100000
set_option maxHeartbeats 8000000
section
theorem A18{p:Prop}(h:p:=by rw[Am.out];exact zB0 _):p:=h
theorem A27{p:Prop}(h:p:=by rw[Am.out];exact Ad):p:=h
theorem A28{p:Prop}(h:p:=by rw[gK,if_neg (by decide),if_pos (by decide),if_neg (by rw[hv];decide)]):p:=h
theorem A40{p:Prop}(h:p:=by rw[gK,if_neg (by decide),if_pos (by decide),if_pos hv]):p:=h
theorem A85{p:Prop}(h:p:=by rw[hv];decide):p:=h
theorem QA13{p:Prop}(h:p:=by
 rw[hv]at H1
 clear hv
 go_wp2_with fail
 refine H1.mono ?_
 rintro r w2 ⟨rfl,hg⟩
 clear H1 n0 n3 k0 k1 k2 k3 q0 q1 q2 q3 q4 z0 z1 z2
 go_wp2_with fail
 exact Qz.out 0 w2 _ _ _ _ _ _ _ _ _ _ _ _ _ _ _ _ _ _ _ _ _ _ _ _ _ _ _ _ _ _ _ _ _ _ _ _ _ _ _ _ _ _ _ _ _ _ _ _ _ _ _ _ _ _ _ _ _ _ _ _ _ _ _ _ _ _ hg HF.out):p:=h
theorem QA16{p:Prop}(h:p:=by
 rw[hv]at H1
 clear hv Qz
 go_wp2_with fail
 refine H1.mono ?_
 rintro r w2 ⟨rfl,hg⟩
 have yg:=aC y0 hg
 clear H1 n0 n3 k0 k1 k2 k3 q0 q1 q2 q3 q4 z0 z1 z2 hg
 go_wp2
 go_ret
 exact⟨bY HF.out.symm,yg⟩):p:=h
theorem QA50{p:Prop}(h:p:=by
 go_enter Tryz.func107,Tryz.ntmps107
 go_wp2
 go_ret
 exact⟨bY HF.out.symm,rfl⟩):p:=h
theorem QA56{p:Prop}(h:p:=by
 go_wp2_with fail
 exact Qz.out z wr _ _ _ _ _ _ _ _ _ _ _ _ _ _ _ _ _ _ _ _ _ _ _ _ _ _ _ _ _ _ _ _ _ _ _ _ _ _ _ _ _ _ _ _ _ _ _ _ _ _ _ _ _ _ _ _ _ _ _ _ _ _ _ _ _ _ Hg.out Tp.out):p:=h
theorem QA88{p:Prop}(h:p:=by
 clear Ae
 go_wp2_with fail
 exact H0 _ _ _ _ _ _ _ _ _ _ _ _ _ _ _ _ _ _ _ _ _ _ _ _ _ _ _ _ _ _ _ _ _ _ _ _ _):p:=h
theorem M974{p q:Prop}(k:q)(h:Kx q->p:=by
 intro kQz
 have n0:=z2.k 0
 have n3:=z2.k 3
 obtain⟨k0,k1,k2,k3⟩:=z0.c4
 obtain⟨q0,q1,q2,q3,q4⟩:=z1.c5
 have H1:=oC m p _ _ w1 (HE.out.rm.below (aA y0)) (HE.out.rp.below (aA y0)) an name.length cn name (aV.below Mk.out (aA y0))
 revert H1;revert q4;revert q3;revert q2;revert q1;revert q0;revert k3;revert k2;revert k1;revert k0;revert n3;revert n0
 exact kQz.o):p:=h ⟨k⟩
theorem M954{p q:Prop}(k:q)(h:Kx q->p:=by
 intro kQz
 have r0:=aB (Ab 0 _ rfl) bw
 have r1:=aB (Ab 1 _ rfl) bw
 have r2:=aB (Ab 2 _ rfl) bw
 have r3:=aB (Ab 3 _ rfl) bw
 have r4:=aB (Ab 4 _ rfl) bw
 revert r4;revert r3;revert r2;revert r1;revert r0
 exact kQz.o):p:=h ⟨k⟩
theorem M957{p q:Prop}(k:q)(h:Kx q->p:=by
 intro kQz
 rintro r w4 ⟨rfl,Af⟩
 have b4:Below wr.heap.size wr w4:=(zD2 wr.heap.size wr).drew.trans (aA Af)
 have Cn:=HS b4
 revert Cn;revert b4;revert Af;revert w4
 exact kQz.o):p:=h ⟨k⟩
variable{c:Int}{kids:List Ex}{fs:List Fa}{m:Mo}{p:Pr}
def dH (a b:Int):Int:=if a=2\/b=2 then 2 else if b<a then a else b
def Ex.kd:Ex->Int
 | .mk k _ _ _ _=>k
def kY (ks:List Int)(kids:List Ex)(i:Nat):Bool:=(List.range i).any fun j=>(ks[j]?.getD 0 == 1) != ((kids[j]?.map Ex.kd).getD 0 == 7)
def aOf (ks:List Int)(kids:List Ex):Bool:=decide (ks.length ≠ kids.length) || kY ks kids (min ks.length kids.length)
def hdC (m:Mo)(fs:List Fa)(p:Pr):Ex->Option Int
 | .mk k _ mod name kids=>
  if k=1 then (if sgl m p name=true then some 0 else none)
  else if k=2\/k=5\/k=7 then (if arq m p name=true then some 0 else none)
  else if k=6 then (fE m fs mod name).map fun ks=>if aOf ks kids=true then 4 else 0
  else some 0
theorem gK (m:Mo)(fs:List Fa)(p:Pr)(k n:Int)(mod name:List Int)(kids:List Ex):hdC m fs p (.mk k n mod name kids) =
  if k=1 then (if sgl m p name=true then some 0 else none)
  else if k=2\/k=5\/k=7 then (if arq m p name=true then some 0 else none)
  else if k=6 then (fE m fs mod name).map fun ks=>if aOf ks kids=true then 4 else 0
  else some 0:=rfl
mutual
def exC (m:Mo)(fs:List Fa)(p:Pr):Ex->Int
 | .mk k n mod name kids=>match hdC m fs p (.mk k n mod name kids) with
  | none=>2| some c=>jA m fs p c kids
def jA (m:Mo)(fs:List Fa)(p:Pr):Int->List Ex->Int
 | c,[]=>c| c,e :: l=>jA m fs p (dH c (exC m fs p e)) l
end
theorem xK (m:Mo)(fs:List Fa)(p:Pr)(c:Int)(l r:List Ex):jA m fs p c (l++r)=jA m fs p (jA m fs p c l) r:=by
 induction l generalizing c with
 | nil=>simp[jA]| cons e l ih=>simp[jA,ih]
theorem uZ{l:List Ex}{j:Nat}{e:Ex}(h:l[j]?=some e):jA m fs p c (l.take (j+1))=dH (jA m fs p c (l.take j)) (exC m fs p e):=by
 obtain⟨hj,rfl⟩:=zC1.1 h;rw[zF1 hj,xK];simp[jA]
theorem kS{k n:Int}{mod name:List Int}(h:hdC m fs p (.mk k n mod name kids)=none):exC m fs p (.mk k n mod name kids)=2:=by unfold exC;rw[h]
theorem jH{k n:Int}{mod name:List Int}(h:hdC m fs p (.mk k n mod name kids)=some c):exC m fs p (.mk k n mod name kids)=jA m fs p c kids:=by unfold exC;rw[h]
theorem wI (ks:List Int)(kids:List Ex)(i:Nat):kY ks kids (i+1)=(kY ks kids i || ((ks[i]?.getD 0 == 1) != ((kids[i]?.map Ex.kd).getD 0 == 7))):=by
 unfold kY;rw[List.range_succ,List.any_append];simp
theorem bdn{B:Nat}{a w:World}(h:Below B a w)(n:Nat):Below B a (w.drewN n):=h.trans ⟨rfl,rfl,rfl,zB0 _,fun _ _=>rfl⟩
theorem sY (a b:Int)(w:World):Calls Tryz.prog 107 #[.int .i64 a,.int .i64 b] w fun e w'=>e=.returned (.int .i64 (dH a b))/\w'=w:=by
 by_cases h1:a=2
 .
  have HF:Hid (dH a b=2):=if_pos (.inl h1);subst h1;exact QA50
 .
  have g1:(a == 2)=false:=by simpa using h1
  by_cases h2:b=2
  .
   have HF:Hid (dH a b=2):=if_pos (.inr h2);subst h2;exact QA50
  .
   have g2:(b == 2)=false:=by simpa using h2
   by_cases h3:b<a
   .
    have HF:Hid (dH a b=a):=(if_neg A0).trans (if_pos h3);clear h1 h2;exact QA50
   .
    have HF:Hid (dH a b=b):=(if_neg A0).trans (if_neg h3);clear h1 h2;exact QA50
structure Env (w:World) (m:Mo) (fs:List Fa) (p:Pr) (vs us:List Value) (b:Option Addr) (nf d:Nat):Prop where
 rm:aL w m.fl vs
 rp:aL w p.fl us
 rf:aW w b d 2 (fs.map Fa.fl)
 fl:fs.length=nf
 pl:∀q ∈ m.procs,q.params.length<=1048576
theorem Env.below {w w':World}{m:Mo}{fs:List Fa}{p:Pr}{vs us:List Value}{b:Option Addr}{nf d:Nat}(h:Env w m fs p vs us b nf d)(hb:Below w.heap.size w w'):Env w' m fs p vs us b nf d:=
 ⟨h.rm.below hb,h.rp.below hb,h.rf.below hb,h.fl,h.pl⟩
def aQ0 (m:Mo)(fs:List Fa)(p:Pr)(e:Ex):Prop:=∀(w:World) (vs us es:List Value) (b:Option Addr) (nf d:Nat),Env w m fs p vs us b nf d->aL w e.fl es →
 Calls Tryz.prog 153 #[agg vs,.slice b nf d,agg us,agg es] w fun r w'=>r=.returned (.int .i64 (exC m fs p e))/\w.grownBy w' none
set_option maxHeartbeats 16000000 in
theorem aLb (m:Mo)(fs:List Fa)(p:Pr)(x0 x1:Int)(mod name:List Int)(kids:List Ex)(IH:∀e ∈ kids,aQ0 m fs p e):aQ0 m fs p (.mk x0 x1 mod name kids):=by
 intro w vs us es b nf d hE he;obtain⟨v0,v1,v2,v3,rfl⟩:=xD (hE.rm.len.trans (show m.fl.length=4 from rfl));obtain⟨u0,u1,u2,u3,u4,rfl⟩:=dT (hE.rp.len.trans (show p.fl.length=5 from rfl));have he0:=he;obtain⟨e0,_,rfl,rfl,e1,_,rfl,rfl,e2,_,rfl,⟨am,cm,rfl,Es,_⟩,e3,_,rfl,⟨an,cn,rfl,Be,_⟩,e4,_,rfl,hk,rfl⟩:=he;obtain⟨ak,ck,rfl,hK⟩:=hk.list;have Ju:=hK.len9;have Dp:(exs kids).length=kids.length:=by simp[aX]
 rw[Dp]at Ju he0 ⊢;obtain⟨nk,hnk⟩:=zx (kids.length);have Am:=hid hnk.symm;rw[<-hnk]at Ju he0 ⊢;have HE:=hid hE;have HX:=hid he0;have HK:=hid hK;have Mk:=hid Be;have HI:=hid IH;clear hE he0 hK Es Be IH hk Dp hnk;have z0:=((Blk.new w 86 [v0,v1,v2,v3]).old (o:=.cells #[u0,u1,u2,u3,u4] 135 (0,0))).old (o:=.cells #[.int .i64 x0,.int .i64 x1,.slice am mod.length cm,.slice an name.length cn,.slice ak nk ck] 176 (0,0));have z1:=(Blk.new (w.alloc (.cells #[v0,v1,v2,v3] 86 (0,0))) 135 [u0,u1,u2,u3,u4]).old (o:=.cells #[.int .i64 x0,.int .i64 x1,.slice am mod.length cm,.slice an name.length cn,.slice ak nk ck] 176 (0,0));have z2:=Blk.new ((w.alloc (.cells #[v0,v1,v2,v3] 86 (0,0))).alloc (.cells #[u0,u1,u2,u3,u4] 135 (0,0))) 176 [.int .i64 x0,.int .i64 x1,.slice am mod.length cm,.slice an name.length cn,.slice ak nk ck];have hg1:(w.alloc (.cells #[v0,v1,v2,v3] 86 (0,0))).heap.size=w.heap.size+1:=by simp
 have hg2:((w.alloc (.cells #[v0,v1,v2,v3] 86 (0,0))).alloc (.cells #[u0,u1,u2,u3,u4] 135 (0,0))).heap.size=w.heap.size+1+1:=by simp
 have y0:w.grownBy (((w.alloc (.cells #[v0,v1,v2,v3] 86 (0,0))).alloc (.cells #[u0,u1,u2,u3,u4] 135 (0,0))).alloc (.cells #[.int .i64 x0,.int .i64 x1,.slice am mod.length cm,.slice an name.length cn,.slice ak nk ck] 176 (0,0))) none:=aC (aC (aE w _ none) (aE _ _ none)) (aE _ _ none);simp only[List.toArray]at z0 z1 z2;rw[hg1]at z1;rw[hg2]at z2;clear hg1 hg2;simp only[agg];go_enter Tryz.func153,Tryz.ntmps153;go_upto_region 1 with fail;generalize ((w.alloc (.cells #[v0,v1,v2,v3] 86 (0,0))).alloc (.cells #[u0,u1,u2,u3,u4] 135 (0,0))).alloc (.cells #[.int .i64 x0,.int .i64 x1,.slice am mod.length cm,.slice an name.length cn,.slice ak nk ck] 176 (0,0))=w1 at *;have Z0:=hid z0;have Z1:=hid z1;have Z2:=hid z2;have Y0:=hid y0;clear z0 z1 z2 y0;go_upto_region 2 with fail;rename_i Q0 K1 h1 K2 h2;have Qz:Hid (∀(c:Int) (w2:World) (t10 t11 t12 Sw Sv Su Ss Sr Sq Sp Sn Sk Sj Kg Si Sh Sf Sd Sc Sa Ry Rx Rw Rv Ru Rt Rr Rq Rp Ro Rn Rm Rl Rk Rj Rh Rf Re Rc Rb t51 t52 t53 t54 t55 t56 t57 t58 t59 t60 t61 t62 t63 t64 t65 t66 t67 t68 t69 t70 t71 t72 t73 t74 t75 t76:Value),w1.grownBy w2 none->exC m fs p (.mk x0 x1 mod name kids)=jA m fs p c kids->K1 { tmps:=#[.agg #[v0,v1,v2,v3],.slice b nf d,.agg #[u0,u1,u2,u3,u4],.agg #[.int .i64 x0,.int .i64 x1,.slice am mod.length cm,.slice an name.length cn,.slice ak nk ck],.pointer (some ⟨w.heap.size,0,none⟩),undef,.pointer (some ⟨w.heap.size+1,0,none⟩),.pointer (some ⟨w.heap.size+1+1,0,none⟩),.int .i64 0,.int .i64 c,t10,t11,t12,undef,Sw,Sv,Su,Ss,Sr,Sq,Sp,Sn,Sk,Sj,Kg,Si,Sh,Sf,Sd,Sc,Sa,Ry,Rx,Rw,Rv,Ru,Rt,Rr,Rq,Rp,Ro,Rn,Rm,Rl,Rk,Rj,Rh,Rf,Re,Rc,Rb,t51,t52,t53,t54,t55,t56,t57,t58,t59,t60,t61,t62,t63,t64,t65,t66,t67,t68,t69,t70,t71,t72,t73,t74,t75,t76,undef,undef,undef,undef,undef,undef,undef,undef,undef,undef,undef,undef,undef,undef,undef,undef,undef,undef,undef],defers:=[] } w2):=by
  intro c w2 t10 t11 t12 Sw Sv Su Ss Sr Sq Sp Sn Sk Sj Kg Si Sh Sf Sd Sc Sa Ry Rx Rw Rv Ru Rt Rr Rq Rp Ro Rn Rm Rl Rk Rj Rh Rf Re Rc Rb t51 t52 t53 t54 t55 t56 t57 t58 t59 t60 t61 t62 t63 t64 t65 t66 t67 t68 t69 t70 t71 t72 t73 t74 t75 t76 hg2 hc;have HC:=hid hc;have G2:=hid hg2;clear hc hg2 h2;refine h1 _ _ ?_;clear h1;go_wp2_with fail;go_loopw [9,13] (fun cc i wr=>∃(j:Nat) (z:Int),j<=nk/\i=.int .i64 j/\cc=.int .i64 z/\Hid (z=jA m fs p c (kids.take j))/\Hid (w1.grownBy wr none)) (fun _ i _=>nk-(intOf i).toNat)
  case atStart=>exact⟨0,c,zD1 _,rfl,rfl,(by show _=_;simp[jA]),G2⟩
  case round=>
   obtain⟨j,z,hj,rfl,rfl,hz,Hg⟩:=hrel;have hg:=Hg.out;have yw:=aC Y0.out hg;have bw:=aA yw;have z0:=Z0.out.below (aA hg) Z0.out.lt;have z1:=Z1.out.below (aA hg) Z1.out.lt;have z2:=Z2.out.below (aA hg) Z2.out.lt;have k4:=z2.k 4;by_cases Ad:j<nk
   .
    obtain⟨e,Oh⟩:∃e,kids[j]?=some e:=⟨_,zA0 A27⟩
    have HZ:Hid (dH z (exC m fs p e)=jA m fs p c (kids.take (j+1))):=by show _=_;rw[uZ Oh,hz.out]
    have HIe:=HI.out e (zA3 Oh);obtain⟨bk,off,es,rfl,Tf,Ab⟩:=aW.cellsAt HK.out (show(exs kids)[j]?=some e.fl by rw[aX,zA2,Oh];rfl);have Na:es.length=5:=by rw[Tf.len];cases e;rfl
    obtain⟨s0,s1,s2,s3,s4,rfl⟩:=dT Na;have HES:=hid Tf;refine M954 ?_;intro r0 r1 r2 r3 r4;rw[zG1]at r0;clear Ab Oh Tf Na hz;have HS:∀{wl:World},Below wr.heap.size wr wl->wl.cell? ⟨w.heap.size,0,none⟩=some (v0)/\wl.cell? ⟨w.heap.size,1,none⟩=some (v1)/\wl.cell? ⟨w.heap.size,2,none⟩=some (v2)/\wl.cell? ⟨w.heap.size,3,none⟩=some (v3)/\wl.cell? ⟨w.heap.size+1,0,none⟩=some (u0)/\wl.cell? ⟨w.heap.size+1,1,none⟩=some (u1)/\wl.cell? ⟨w.heap.size+1,2,none⟩=some (u2)/\wl.cell? ⟨w.heap.size+1,3,none⟩=some (u3)/\wl.cell? ⟨w.heap.size+1,4,none⟩=some (u4)/\wl.cell? ⟨w.heap.size+1+1,4,none⟩=some (.slice (some ⟨bk,off,none⟩) nk ck)/\wl.cell? ⟨bk,off+j*5,none⟩=some s0/\wl.cell? ⟨bk,off+j*5+1,none⟩=some s1/\wl.cell? ⟨bk,off+j*5+2,none⟩=some s2/\wl.cell? ⟨bk,off+j*5+3,none⟩=some s3/\wl.cell? ⟨bk,off+j*5+4,none⟩=some s4:=fun hb=>⟨aB (z0.k 0) hb,aB (z0.k 1) hb,aB (z0.k 2) hb,aB (z0.k 3) hb,aB (z1.k 0) hb,aB (z1.k 1) hb,aB (z1.k 2) hb,aB (z1.k 3) hb,aB (z1.k 4) hb,aB k4 hb,aB r0 hb,aB r1 hb,aB r2 hb,aB r3 hb,aB r4 hb⟩;have An:=HS (wl:=wr.drew) (zD2 _ _).drew;have H9:=HIe wr.drew _ _ _ b nf d (HE.out.below bw.drew) (aL.below HES.out bw.drew);simp only[agg,List.toArray]at H9;go_wp2_with fail;refine zJ3 (S:=fun wl=>wl.cell? ⟨w.heap.size,0,none⟩=some (v0)/\wl.cell? ⟨w.heap.size,1,none⟩=some (v1)/\wl.cell? ⟨w.heap.size,2,none⟩=some (v2)/\wl.cell? ⟨w.heap.size,3,none⟩=some (v3)/\wl.cell? ⟨w.heap.size+1,0,none⟩=some (u0)/\wl.cell? ⟨w.heap.size+1,1,none⟩=some (u1)/\wl.cell? ⟨w.heap.size+1,2,none⟩=some (u2)/\wl.cell? ⟨w.heap.size+1,3,none⟩=some (u3)/\wl.cell? ⟨w.heap.size+1,4,none⟩=some (u4)/\wl.cell? ⟨w.heap.size+1+1,4,none⟩=some (.slice (some ⟨bk,off,none⟩) nk ck)/\wl.cell? ⟨bk,off+j*5,none⟩=some s0/\wl.cell? ⟨bk,off+j*5+1,none⟩=some s1/\wl.cell? ⟨bk,off+j*5+2,none⟩=some s2/\wl.cell? ⟨bk,off+j*5+3,none⟩=some s3/\wl.cell? ⟨bk,off+j*5+4,none⟩=some s4) A1 An (fun Aa=>?_);refine M922 ?_;refine M925 ?_;refine ta 6 ?_;refine ta 7 ?_;refine ta 8 ?_;try simp only[nrm]
    refine ra 9 fun K hK=>?_;go_simp
    (with_reducible refine H9.mono ?_)
    refine M957 ?_;intro w4 Af b4 Cn;have H10:=sY z (exC m fs p e) w4;go_wp2_with fail;refine hK.out _ _ (Cn) (fun Aa=>?_);clear hK K;try simp only[nrm]
    refine ra 10 fun K hK=>?_;go_simp
    (with_reducible refine H10.mono ?_)
    rintro r w5 ⟨rfl,rfl⟩;go_wp2_with fail;refine hK.out _ _ (Cn) (fun Aa=>?_);clear hK K;try simp only[nrm]
    refine ta 11 ?_;try simp only[nrm]
    refine zK0 A1 ?_ _;have HG5:=hid (aC hg (aM b4 none));clear HS An Cn Aa H9 H10 r0 r1 r2 r3 r4 k4 z0 z1 z2 bw yw hg Hg Af b4;generalize dH z (exC m fs p e)=z' at *;go_wp2;go_roundw
    case rel=>exact⟨j+1,z',by omega,by go_num,rfl,HZ,HG5⟩
    case measure=>simp[intOf];omega
   .
    have:nk=j:=A0;subst this;have HF:Hid (exC m fs p (.mk x0 x1 mod name kids)=z):=by show _=_;rw[HC.out,hz.out,zD3 A18]
    clear z0 z1 z2 bw hz Hg hg;go_wp2;go_ret;exact⟨bY HF.out.symm,yw⟩
 clear h1;have z0:=Z0.out;have z1:=Z1.out;have z2:=Z2.out;have y0:=Y0.out;by_cases Fi:x0=1
 .
  subst Fi;have n0:=z2.k 0;have n3:=z2.k 3;obtain⟨k0,k1,k2,k3⟩:=z0.c4;obtain⟨q0,q1,q2,q3,q4⟩:=z1.c5;have H1:=uG m p _ _ w1 (HE.out.rm.below (aA y0)) (HE.out.rp.below (aA y0)) an name.length cn name (aV.below Mk.out (aA y0));simp only[agg,List.toArray]at H1;cases hv:sgl m p name
  .
   have HF:Hid (exC m fs p (.mk 1 x1 mod name kids)=2):=kS (by rw[gK,if_pos rfl,if_neg A85]);exact QA16
  .
   have HF:Hid (exC m fs p (.mk 1 x1 mod name kids)=jA m fs p 0 kids):=jH (by rw[gK,if_pos rfl,if_pos hv]);exact QA13
 have g1:(x0 == 1)=false:=by simpa using Fi
 by_cases Tu:x0=2
 .
  subst Tu;refine M974 ?_;intro n0 n3 k0 k1 k2 k3 q0 q1 q2 q3 q4 H1;simp only[agg,List.toArray]at H1;cases hv:arq m p name
  .
   have HF:Hid (exC m fs p (.mk 2 x1 mod name kids)=2):=kS A28;exact QA16
  .
   have HF:Hid (exC m fs p (.mk 2 x1 mod name kids)=jA m fs p 0 kids):=jH A40;exact QA13
 have g2:(x0 == 2)=false:=by simpa using Tu
 by_cases hx5:x0=5
 .
  subst hx5;refine M974 ?_;intro n0 n3 k0 k1 k2 k3 q0 q1 q2 q3 q4 H1;simp only[agg,List.toArray]at H1;cases hv:arq m p name
  .
   have HF:Hid (exC m fs p (.mk 5 x1 mod name kids)=2):=kS A28;exact QA16
  .
   have HF:Hid (exC m fs p (.mk 5 x1 mod name kids)=jA m fs p 0 kids):=jH A40;exact QA13
 have g5:(x0 == 5)=false:=by simpa using hx5
 by_cases hx7:x0=7
 .
  subst hx7;refine M974 ?_;intro n0 n3 k0 k1 k2 k3 q0 q1 q2 q3 q4 H1;simp only[agg,List.toArray]at H1;cases hv:arq m p name
  .
   have HF:Hid (exC m fs p (.mk 7 x1 mod name kids)=2):=kS A28;exact QA16
  .
   have HF:Hid (exC m fs p (.mk 7 x1 mod name kids)=jA m fs p 0 kids):=jH A40;exact QA13
 have g7:(x0 == 7)=false:=by simpa using hx7
 by_cases hx6:x0=6
 .
  subst hx6;obtain⟨n0,n1,n2,n3,n4⟩:=z2.c5;obtain⟨k0,k1,k2,k3⟩:=z0.c4;have H1:=aBn m fs 6 x1 mod name kids _ _ b nf d w1 (HE.out.rm.below (aA y0)) (HE.out.rf.below (aA y0)) HE.out.fl (aL.below HX.out (aA y0)) HE.out.pl;simp only[agg,List.toArray]at H1;cases hq:fE m fs mod name with
  | none=>
   have HF:Hid (exC m fs p (.mk 6 x1 mod name kids)=2):=kS (by rw[gK,if_neg A6,if_neg A6,if_pos rfl,hq];rfl);rw[hq]at H1;clear hq Qz;go_wp2_with fail;refine H1.mono ?_;rintro r w2 ⟨v,rfl,_,hg⟩;have yg:=aC y0 hg;clear H1 n0 n1 n2 n3 n4 k0 k1 k2 k3 z0 z1 z2 hg;go_wp2;go_ret;exact⟨bY HF.out.symm,yg⟩
  | some ks=>
   have HF:Hid (∀c,c=(if aOf ks kids=true then 4 else 0)->exC m fs p (.mk 6 x1 mod name kids)=jA m fs p c kids):=fun c hc=>jH (by rw[gK,if_neg A6,if_neg A6,if_pos rfl,hq,hc];rfl);rw[hq]at H1;clear hq;go_wp2_with fail;refine H1.mono ?_;rintro r w2 ⟨v,rfl,hv,hg⟩;obtain⟨ax,cx,rfl,hnr,hcx,hmx,_⟩:=hv ks rfl;have HNR:=hid hnr;have Et:=hid hg;have N2:=hid (z2.below (aA hg) z2.lt);obtain⟨kl,Dp⟩:=zx (ks.length);have HKL:=hid Dp.symm;rw[<-Dp]at HNR hcx ⊢;have hkl9:kl<=9223372036854775807:=by unfold maxLen at hmx;omega
   clear H1 n0 n1 n2 n3 n4 k0 k1 k2 k3 z0 z1 z2 hg y0 hv hnr Dp;go_upto_region 15 with fail;rename_i K3 h3 K4 h4;have HK3:Hid (∀(c:Int) (Sw Sv Su Ss Sr Sq Sp Sn Sk Sj Kg Si Sh Sf Sd Sc Sa Ry Rx Rw Rv Ru Rt Rr Rq Rp Ro Rn Rm Rl Rk Rj Rh Rf Re Rc Rb:Value),c=(if decide (ks.length ≠ kids.length)=true then 4 else 0)->K3 { tmps:=#[.agg #[v0,v1,v2,v3],.slice b nf d,.agg #[u0,u1,u2,u3,u4],.agg #[.int .i64 6,.int .i64 x1,.slice am mod.length cm,.slice an name.length cn,.slice ak nk ck],.pointer (some ⟨w.heap.size,0,none⟩),undef,.pointer (some ⟨w.heap.size+1,0,none⟩),.pointer (some ⟨w.heap.size+1+1,0,none⟩),.int .i64 0,.int .i64 c,.slice ax kl cx,.bool true,undef,undef,Sw,Sv,Su,Ss,Sr,Sq,Sp,Sn,Sk,Sj,Kg,Si,Sh,Sf,Sd,Sc,Sa,Ry,Rx,Rw,Rv,Ru,Rt,Rr,Rq,Rp,Ro,Rn,Rm,Rl,Rk,Rj,Rh,Rf,Re,Rc,Rb,undef,undef,undef,undef,undef,undef,undef,undef,undef,undef,undef,undef,undef,undef,undef,undef,undef,undef,undef,undef,undef,undef,undef,undef,undef,undef,undef,undef,undef,undef,undef,undef,undef,undef,undef,undef,undef,undef,undef,undef,undef,undef,undef,undef,undef],defers:=[] } w2):=by
    intro c Sw Sv Su Ss Sr Sq Sp Sn Sk Sj Kg Si Sh Sf Sd Sc Sa Ry Rx Rw Rv Ru Rt Rr Rq Rp Ro Rn Rm Rl Rk Rj Rh Rf Re Rc Rb hc;have HC:=hid hc;clear hc;refine h3 _ _ ?_;clear h3 h4;go_wp2_with fail;go_loopw [9,12] (fun cc i wr=>∃(j:Nat) (z:Int),j<=kl/\j<=nk/\i=.int .i64 j/\cc=.int .i64 z/\Hid (z=(if (decide (ks.length ≠ kids.length) || kY ks kids j)=true then 4 else 0))/\Hid (w1.grownBy wr none)/\Hid (Below w2.heap.size w2 wr)) (fun _ i _=>nk-(intOf i).toNat)
    case atStart=>exact⟨0,c,zD1 _,zD1 _,rfl,rfl,(by show _=_;rw[HC.out];simp[kY]),Et,zD2 _ _⟩
    case round=>
     obtain⟨j,z,hj1,hj2,rfl,rfl,hz,Hg,Hb⟩:=hrel;have zz:=N2.out.below Hb.out N2.out.lt;have n4:=zz.k 4;clear zz;by_cases Ad:j<kl/\j<nk
     .
      obtain⟨Wj,Dv⟩:=Ad;obtain⟨e,Oh⟩:∃e,kids[j]?=some e:=⟨_,zA0 (by rw[Am.out];exact Dv)⟩
      obtain⟨kk,hkj⟩:∃k,ks[j]?=some k:=⟨_,zA0 (by rw[HKL.out];exact Wj)⟩
      obtain⟨bx,ox,rfl,hcx2⟩:=HNR.out.2.2 A0;have yw:=aC Y0.out Hg.out;have r1:=aB (hcx2 j Wj) Hb.out;rw[hkj]at r1;simp only[zI0]at r1;have HMN:Hid (kY ks kids (j+1)=(kY ks kids j || ((kk == 1) != (e.kd == 7)))):=by show _=_;rw[wI,hkj,Oh];rfl
      obtain⟨bk,off,es,rfl,Tf,Ab⟩:=aW.cellsAt HK.out (show(exs kids)[j]?=some e.fl by rw[aX,zA2,Oh];rfl);obtain⟨f0,f1,f2,f3,f4⟩:=e;obtain⟨s0,_,rfl,rfl,_⟩:=Tf;have r2:=aB (Ab 0 _ rfl) (aA yw);rw[zG1]at r2;simp only[Ex.kd]at HMN;have HG3:Hid (∀n,w1.grownBy (wr.drewN n) none):=fun n=>aM (bdn (aA Hg.out) n) none;have Bn:Hid (∀n,Below w2.heap.size w2 (wr.drewN n)):=fun n=>bdn Hb.out n;have hl1':(j:Int)<(kl:Int):=A0;have hl2':(j:Int)<(nk:Int):=A0;clear Ab Oh hkj hcx2 Hg Hb yw;have hbe:(!(kk == 1) == (f0 == 7))=((kk == 1) != (f0 == 7)):=by cases (kk == 1) <;> cases (f0 == 7) <;> rfl
      cases hbb:((kk == 1) != (f0 == 7))
      .
       rw[hbb]at hbe;have HZ:Hid (z=(if (decide (ks.length ≠ kids.length) || kY ks kids (j+1))=true then 4 else 0)):=by show _=_;rw[HMN.out,hbb,Bool.or_false];exact hz.out
       clear hz HMN hbb;go_wp2_with fail;go_quiet (fail);go_wp2;go_roundw
       case rel=>exact⟨j+1,z,by omega,by omega,by go_num,rfl,HZ,HG3.out _,Bn.out _⟩
       case measure=>simp[intOf];omega
      .
       rw[hbb]at hbe;have HZ:Hid (4=(if (decide (ks.length ≠ kids.length) || kY ks kids (j+1))=true then (4:Int) else 0)):=by show _=_;rw[HMN.out,hbb,Bool.or_true,Bool.or_true];rfl
       clear hz HMN hbb;go_wp2_with fail;go_quiet (fail);go_wp2;go_roundw
       case rel=>exact⟨j+1,4,by omega,by omega,by go_num,rfl,HZ,HG3.out _,Bn.out _⟩
       case measure=>simp[intOf];omega
     .
      have HM:Hid (z=(if aOf ks kids=true then 4 else 0)):=by
       show _=_
       rw[hz.out];unfold aOf;by_cases he:ks.length=kids.length
       .
        have h5:=HKL.out;have h6:=Am.out;have:min ks.length kids.length=j:=A0;rw[this]
       .
        rw[zB3 he,Bool.true_or,Bool.true_or]
      have Tp:=hid (HF.out z HM.out);clear hz HM;by_cases Wj:j<kl
      .
       have Dv:¬(j:Int)<(nk:Int):=A0;have hl1':(j:Int)<(kl:Int):=A0;exact QA56
      .
       have hl1':¬(j:Int)<(kl:Int):=A0;exact QA56
   clear h3 Qz;have n4:=N2.out.k 4;by_cases Ae:kl=nk
   .
    have hb1:((kl:Int) != (nk:Int))=false:=by rw[Ae];simp
    have H0:=fun Sw Sv Su Ss Sr Sq Sp Sn Sk Sj Kg Si Sh Sf Sd Sc Sa Ry Rx Rw Rv Ru Rt Rr Rq Rp Ro Rn Rm Rl Rk Rj Rh Rf Re Rc Rb=>HK3.out 0 Sw Sv Su Ss Sr Sq Sp Sn Sk Sj Kg Si Sh Sf Sd Sc Sa Ry Rx Rw Rv Ru Rt Rr Rq Rp Ro Rn Rm Rl Rk Rj Rh Rf Re Rc Rb (by rw[zC2 (by rw[HKL.out,Am.out];simpa using Ae)];rfl);exact QA88
   .
    have hb1:((kl:Int) != (nk:Int))=true:=by simp;omega
    have H0:=fun Sw Sv Su Ss Sr Sq Sp Sn Sk Sj Kg Si Sh Sf Sd Sc Sa Ry Rx Rw Rv Ru Rt Rr Rq Rp Ro Rn Rm Rl Rk Rj Rh Rf Re Rc Rb=>HK3.out 4 Sw Sv Su Ss Sr Sq Sp Sn Sk Sj Kg Si Sh Sf Sd Sc Sa Ry Rx Rw Rv Ru Rt Rr Rq Rp Ro Rn Rm Rl Rk Rj Rh Rf Re Rc Rb (by rw[zB3 (by rw[HKL.out,Am.out];exact Ae)];rfl);exact QA88
 have g6:(x0 == 6)=false:=by simpa using hx6
 have n0:=z2.k 0;have HF:Hid (exC m fs p (.mk x0 x1 mod name kids)=jA m fs p 0 kids):=jH (by rw[gK,if_neg Fi,if_neg A0,if_neg hx6]);clear Fi Tu hx5 hx6 hx7 z0 z1 z2;go_wp2_with fail;exact Qz.out 0 w1 _ _ _ _ _ _ _ _ _ _ _ _ _ _ _ _ _ _ _ _ _ _ _ _ _ _ _ _ _ _ _ _ _ _ _ _ _ _ _ _ _ _ _ _ _ _ _ _ _ _ _ _ _ _ _ _ _ _ _ _ _ _ _ _ _ _ (aP _ _) HF.out
mutual
theorem aPu (m:Mo)(fs:List Fa)(p:Pr):∀e:Ex,aQ0 m fs p e
 | .mk x0 x1 mod name kids=>aLb m fs p x0 x1 mod name kids (aJo m fs p kids)
theorem aJo (m:Mo)(fs:List Fa)(p:Pr):∀l:List Ex,∀e ∈ l,aQ0 m fs p e
 | [],e,h=>by simp at h
 | y :: l,e,h=>by
  rcases zG3.1 h with h|h
  .
   exact h ▸ aPu m fs p y
  .
   exact aJo m fs p l e h
end
end
section
theorem A61{p:Prop}(h:p:=by rw[Wy.out];exact Ad):p:=h
theorem A67{p:Prop}(h:p:=by rw[nD];exact if_pos (by rw[hv];simp)):p:=h
theorem A68{p:Prop}(h:p:=by rw[nD];exact if_neg (by rw[hv];simp)):p:=h
theorem A72{p:Prop}(h:p:=by rw[Wy.out];exact zB0 _):p:=h
theorem A87{p:Prop}(h:p:=by rw[hv];simp):p:=h
theorem QA19{p:Prop}(h:p:=by
 have HF:Hid (eQ m fs p 0 l=eQ m fs p (dH (jA m fs p z kids) (dH (eQ m fs p 0 body) (eQ m fs p 0 els))) (l.drop (j+1))):=by show _=_;rw[HZ.out,HDR.out];exact mD A68
 rw[hv]at H1
 clear hv
 go_wp2_with fail
 refine H1.mono ?_
 rintro r w6 ⟨rfl,hg⟩
 replace z5:=z5.below (aA hg) z5.lt
 clear H1 n0 n2 k0 k1 k2 k3 q0 q1 q2 q3 q4 z0 z1
 have n0:=z5.k 0
 go_wp2_with fail
 exact HK3.out w6 _ _ _ _ _ _ _ _ _ _ _ _ _ _ _ _ _ _ _ _ _ _ _ _ _ _ _ _ _ _ _ _ _ _ _ _ _ _ _ _ _ _ _ _ _ _ _ _ _ _ _ _ _ _ _ _ _ _ _ _ _ _ _ _ _ _ _ _ _ hg HF.out):p:=h
theorem QA35{p:Prop}(h:p:=by
 have HF:Hid (eQ m fs p 0 l=2):=by show _=_;rw[HZ.out,HDR.out];exact pS A67
 rw[hv]at H1
 clear hv HK3
 go_wp2_with fail
 refine H1.mono ?_
 rintro r w6 ⟨rfl,hg⟩
 have yg:=aC y5 hg
 replace z5:=z5.below (aA hg) z5.lt
 clear H1 n0 n2 k0 k1 k2 k3 q0 q1 q2 q3 q4 z0 z1 hg
 have n0:=z5.k 0
 go_wp2
 go_ret
 exact⟨bY HF.out.symm,yg⟩):p:=h
variable{c:Int}{fs:List Fa}{l:List St}{m:Mo}{p:Pr}{s:St}
mutual
def stC (m:Mo)(fs:List Fa)(p:Pr):Int->St->Option Int
 | c,.mk k _ name kids body els=>if ((decide (k=0) && !sgl m p name) || (decide (k=1) && !arq m p name))=true then none
  else some (dH (jA m fs p c kids) (dH (eQ m fs p 0 body) (eQ m fs p 0 els)))
def eQ (m:Mo)(fs:List Fa)(p:Pr):Int->List St->Int
 | c,[]=>c| c,s :: l=>match stC m fs p c s with
  | none=>2| some c'=>eQ m fs p c' l
end
theorem nD (m:Mo)(fs:List Fa)(p:Pr)(c k n:Int)(name:List Int)(kids:List Ex)(body els:List St):stC m fs p c (.mk k n name kids body els)=if ((decide (k=0) && !sgl m p name) || (decide (k=1) && !arq m p name))=true then none
  else some (dH (jA m fs p c kids) (dH (eQ m fs p 0 body) (eQ m fs p 0 els))):=by unfold stC;rfl
theorem pS(h:stC m fs p c s=none):eQ m fs p c (s :: l)=2:=by unfold eQ;rw[h]
theorem mD{c':Int}(h:stC m fs p c s=some c'):eQ m fs p c (s :: l)=eQ m fs p c' l:=by conv=>lhs;unfold eQ;rw[h]
theorem aAu (m:Mo)(fs:List Fa)(p:Pr)(c:Int):eQ m fs p c []=c:=by unfold eQ;rfl
def vK (m:Mo)(fs:List Fa)(p:Pr)(l:List St):Prop:=∀(w:World) (vs us:List Value) (b:Option Addr) (nf d:Nat) (al:Option Addr) (cl:Nat),Env w m fs p vs us b nf d->aW w al cl 6 (sts l) →
 Calls Tryz.prog 108 #[agg vs,.slice b nf d,agg us,.slice al l.length cl] w fun r w'=>r=.returned (.int .i64 (eQ m fs p 0 l))/\w.grownBy w' none
set_option maxHeartbeats 16000000 in
theorem rU (m:Mo)(fs:List Fa)(p:Pr)(l:List St)(IH:∀k n name kids body els,St.mk k n name kids body els ∈ l->vK m fs p body/\vK m fs p els):vK m fs p l:=by
 intro w vs us b nf d al cl hE hL;obtain⟨v0,v1,v2,v3,rfl⟩:=xD (hE.rm.len.trans (show m.fl.length=4 from rfl));obtain⟨u0,u1,u2,u3,u4,rfl⟩:=dT (hE.rp.len.trans (show p.fl.length=5 from rfl));have hl9:=hL.len9;have hll:(sts l).length=l.length:=by simp[bA]
 rw[hll]at hl9;obtain⟨nl,Kh⟩:=zx (l.length);have Wy:=hid Kh.symm;rw[<-Kh]at hl9 ⊢;have HE:=hid hE;have HL:=hid hL;have HI:=hid IH;clear hE hL IH hll Kh;have z0:=(Blk.new w 86 [v0,v1,v2,v3]).old (o:=.cells #[u0,u1,u2,u3,u4] 135 (0,0));have z1:=Blk.new (w.alloc (.cells #[v0,v1,v2,v3] 86 (0,0))) 135 [u0,u1,u2,u3,u4];have hg1:(w.alloc (.cells #[v0,v1,v2,v3] 86 (0,0))).heap.size=w.heap.size+1:=by simp
 have y0:w.grownBy ((w.alloc (.cells #[v0,v1,v2,v3] 86 (0,0))).alloc (.cells #[u0,u1,u2,u3,u4] 135 (0,0))) none:=aC (aE w _ none) (aE _ _ none);simp only[List.toArray]at z0 z1;rw[hg1]at z1;clear hg1;simp only[agg];go_enter Tryz.func108,Tryz.ntmps108;go_upto_region 1 with fail;generalize (w.alloc (.cells #[v0,v1,v2,v3] 86 (0,0))).alloc (.cells #[u0,u1,u2,u3,u4] 135 (0,0))=w1 at *;have Z0:=hid z0;have Z1:=hid z1;have Y0:=hid y0;clear z0 z1 y0;go_wp2_with fail;go_loopw [9,10] (fun cc i wr=>∃(j:Nat) (z:Int),j<=nl/\i=.int .i64 j/\cc=.int .i64 z/\Hid (eQ m fs p 0 l=eQ m fs p z (l.drop j))/\Hid (w1.grownBy wr none)) (fun _ i _=>nl-(intOf i).toNat)
 case atStart=>exact⟨0,0,zD1 _,rfl,rfl,rfl,aP _ _⟩
 case round=>
  obtain⟨j,z,hj,rfl,rfl,HZ,Hg⟩:=hrel;have hg:=Hg.out;have yw:=aC Y0.out hg;by_cases Ad:j<nl
  .
   obtain⟨s,hsj⟩:∃s,l[j]?=some s:=⟨_,zA0 A61⟩
   obtain⟨y0,y1,name,kids,body,els⟩:=s;have HDR:Hid (l.drop j=St.mk y0 y1 name kids body els :: l.drop (j+1)):=by
    obtain⟨h5,h6⟩:=zC1.1 hsj;show _=_
    rw[List.drop_eq_getElem_cons h5,h6]
   have HIs:=HI.out _ _ _ _ _ _ (zA3 hsj);obtain⟨bs,ofs,ss,rfl,hss,Ab⟩:=aW.cellsAt HL.out (show(sts l)[j]?=some (St.fl ⟨y0,y1,name,kids,body,els⟩) by rw[bA,zA2,hsj];rfl);obtain⟨s0,_,rfl,rfl,s1,_,rfl,rfl,s2,_,rfl,⟨an,cn,rfl,Be,_⟩,s3,_,rfl,hk,s4,_,rfl,Ok,s5,_,rfl,Na,rfl⟩:=hss;obtain⟨ak,ck,rfl,hK⟩:=hk.list;obtain⟨ab,cb,rfl,hB⟩:=Ok.list;obtain⟨ae,ce,rfl,hEl⟩:=Na.list;have Ju:=hK.len9;have Lg:=hB.len9;have he9:=hEl.len9;have e1:(exs kids).length=kids.length:=by simp[aX]
   have e2:(sts body).length=body.length:=by simp[bA]
   have e3:(sts els).length=els.length:=by simp[bA]
   rw[e1]at Ju Ab;rw[e2]at Lg Ab;rw[e3]at he9 Ab;obtain⟨nk,hnk⟩:=zx (kids.length);obtain⟨nb,Ba⟩:=zx (body.length);obtain⟨ne,Ae⟩:=zx (els.length);have Am:=hid hnk.symm;have Dz:=hid Ba.symm;have Kr:=hid Ae.symm;rw[<-hnk,<-Ba,<-Ae]at Ab;rw[<-hnk]at Ju;rw[<-Ba]at Lg;rw[<-Ae]at he9;have Mk:=hid Be;have HK:=hid hK;have HB:=hid hB;have HEL:=hid hEl;have Ra:=hid HIs.1;have To:=hid HIs.2;have bw:=aA yw;refine M954 ?_;intro r0 r1 r2 r3 r4;have r5:=aB (Ab 5 _ rfl) bw;rw[zG1]at r0;have z5:=Blk.new wr 179 [.int .i64 y0,.int .i64 y1,.slice an name.length cn,.slice ak nk ck,.slice ab nb cb,.slice ae ne ce];have g5:=aE wr (.cells #[.int .i64 y0,.int .i64 y1,.slice an name.length cn,.slice ak nk ck,.slice ab nb cb,.slice ae ne ce] 179 (0,0)) none;simp only[List.toArray]at z5;clear Ab hsj Be hK hB hEl HIs hk Ok Na e1 e2 e3 hnk Ba Ae;go_upto_region 6 with fail;generalize wr.alloc (.cells #[.int .i64 y0,.int .i64 y1,.slice an name.length cn,.slice ak nk ck,.slice ab nb cb,.slice ae ne ce] 179 (0,0))=w5 at *;have hgS:wr.heap.size=wr.heap.size:=rfl;generalize wr.heap.size=gS at *;have y5:=aC yw g5;have g15:=aC hg g5;have Wx:=aA y5;have Y5:=hid y5;have G15:=hid g15;have Z5:=hid z5;have z0:=Z0.out.below (aA g15) Z0.out.lt;have z1:=Z1.out.below (aA g15) Z1.out.lt;have Z05:=hid z0;have Z15:=hid z1;clear r0 r1 r2 r3 r4 r5 bw yw hg Hg g5 g15 hgS;rename_i K3 h3 K4 h4;have HK3:Hid (∀(w6:World) (t8 t12 t13 Sw Sv Su Ss Sr Sq Sp Sn Sk Sj Kg Si Sh Sf Sd Sc Sa Ry Rx Rw Rv Ru Rt Rr Rq Rp Ro Rn Rm Rl Rk Rj Rh Rf Re Rc Rb t51 t52 t53 t54 t55 t56 t57 t58 t59 t60 t61 t62 t63 t64 t65 t66 t67 t68 t69 t70 t71 t72 t73 t74 t75 t76 t77 t78 t79:Value),w5.grownBy w6 none->eQ m fs p 0 l=eQ m fs p (dH (jA m fs p z kids) (dH (eQ m fs p 0 body) (eQ m fs p 0 els))) (l.drop (j+1))->K3 { tmps:=#[.agg #[v0,v1,v2,v3],.slice b nf d,.agg #[u0,u1,u2,u3,u4],.slice (some ⟨bs,ofs,none⟩) nl cl,.pointer (some ⟨w.heap.size,0,none⟩),undef,.pointer (some ⟨w.heap.size+1,0,none⟩),undef,t8,.int .i64 z,.int .i64 j,.pointer (some ⟨gS,0,none⟩),t12,t13,Sw,Sv,Su,Ss,Sr,Sq,Sp,Sn,Sk,Sj,Kg,Si,Sh,Sf,Sd,Sc,Sa,Ry,Rx,Rw,Rv,Ru,Rt,Rr,Rq,Rp,Ro,Rn,Rm,Rl,Rk,Rj,Rh,Rf,Re,Rc,Rb,t51,t52,t53,t54,t55,t56,t57,t58,t59,t60,t61,t62,t63,t64,t65,t66,t67,t68,t69,t70,t71,t72,t73,t74,t75,t76,t77,t78,t79,undef],defers:=[] } w6):=by
    intro w6 t8 t12 t13 Sw Sv Su Ss Sr Sq Sp Sn Sk Sj Kg Si Sh Sf Sd Sc Sa Ry Rx Rw Rv Ru Rt Rr Rq Rp Ro Rn Rm Rl Rk Rj Rh Rf Re Rc Rb t51 t52 t53 t54 t55 t56 t57 t58 t59 t60 t61 t62 t63 t64 t65 t66 t67 t68 t69 t70 t71 t72 t73 t74 t75 t76 t77 t78 t79 Bt Ye;have Tp:=hid Ye;have G6:=hid Bt;clear Bt Ye h4 z0 z1 z5 y5 Wx HZ HDR;refine h3 _ _ ?_;clear h3;go_wp2_with fail;go_loopw [9,12] (fun cc i wr=>∃(i':Nat) (x:Int),i'<=nk/\i=.int .i64 i'/\cc=.int .i64 x/\Hid (x=jA m fs p z (kids.take i'))/\Hid (w5.grownBy wr none)) (fun _ i _=>nk-(intOf i).toNat)
    case atStart=>exact⟨0,z,zD1 _,rfl,rfl,(by show _=_;simp[jA]),G6⟩
    case round=>
     obtain⟨i,x,hi,rfl,rfl,hx,Hg⟩:=hrel;have hg:=Hg.out;have yw:=aC Y5.out hg;have bw:=aA yw;have z0:=Z05.out.below (aA hg) Z05.out.lt;have z1:=Z15.out.below (aA hg) Z15.out.lt;have z5:=Z5.out.below (aA hg) Z5.out.lt;have n3:=z5.k 3;by_cases Lc:i<nk
     .
      obtain⟨e,Oh⟩:∃e,kids[i]?=some e:=⟨_,zA0 (by rw[Am.out];exact Lc)⟩
      have HX2:Hid (dH x (exC m fs p e)=jA m fs p z (kids.take (i+1))):=by show _=_;rw[uZ Oh,hx.out]
      obtain⟨bk,off,es,rfl,Tf,Ab⟩:=aW.cellsAt HK.out (show(exs kids)[i]?=some e.fl by rw[aX,zA2,Oh];rfl);have Na:es.length=5:=by rw[Tf.len];cases e;rfl
      obtain⟨s0,s1,s2,s3,s4,rfl⟩:=dT Na;have HES:=hid Tf;refine M954 ?_;intro r0 r1 r2 r3 r4;rw[zG1]at r0;clear Ab Oh Tf Na hx;have HS:∀{wl:World},Below wr.heap.size wr wl->wl.cell? ⟨w.heap.size,0,none⟩=some (v0)/\wl.cell? ⟨w.heap.size,1,none⟩=some (v1)/\wl.cell? ⟨w.heap.size,2,none⟩=some (v2)/\wl.cell? ⟨w.heap.size,3,none⟩=some (v3)/\wl.cell? ⟨w.heap.size+1,0,none⟩=some (u0)/\wl.cell? ⟨w.heap.size+1,1,none⟩=some (u1)/\wl.cell? ⟨w.heap.size+1,2,none⟩=some (u2)/\wl.cell? ⟨w.heap.size+1,3,none⟩=some (u3)/\wl.cell? ⟨w.heap.size+1,4,none⟩=some (u4)/\wl.cell? ⟨gS,3,none⟩=some (.slice (some ⟨bk,off,none⟩) nk ck)/\wl.cell? ⟨bk,off+i*5,none⟩=some s0/\wl.cell? ⟨bk,off+i*5+1,none⟩=some s1/\wl.cell? ⟨bk,off+i*5+2,none⟩=some s2/\wl.cell? ⟨bk,off+i*5+3,none⟩=some s3/\wl.cell? ⟨bk,off+i*5+4,none⟩=some s4:=fun hb=>⟨aB (z0.k 0) hb,aB (z0.k 1) hb,aB (z0.k 2) hb,aB (z0.k 3) hb,aB (z1.k 0) hb,aB (z1.k 1) hb,aB (z1.k 2) hb,aB (z1.k 3) hb,aB (z1.k 4) hb,aB n3 hb,aB r0 hb,aB r1 hb,aB r2 hb,aB r3 hb,aB r4 hb⟩;have An:=HS (wl:=wr.drew) (zD2 _ _).drew;have H9:=aPu m fs p e wr.drew _ _ _ b nf d (HE.out.below bw.drew) (aL.below HES.out bw.drew);simp only[agg,List.toArray]at H9;go_wp2_with fail;refine zJ3 (S:=fun wl=>wl.cell? ⟨w.heap.size,0,none⟩=some (v0)/\wl.cell? ⟨w.heap.size,1,none⟩=some (v1)/\wl.cell? ⟨w.heap.size,2,none⟩=some (v2)/\wl.cell? ⟨w.heap.size,3,none⟩=some (v3)/\wl.cell? ⟨w.heap.size+1,0,none⟩=some (u0)/\wl.cell? ⟨w.heap.size+1,1,none⟩=some (u1)/\wl.cell? ⟨w.heap.size+1,2,none⟩=some (u2)/\wl.cell? ⟨w.heap.size+1,3,none⟩=some (u3)/\wl.cell? ⟨w.heap.size+1,4,none⟩=some (u4)/\wl.cell? ⟨gS,3,none⟩=some (.slice (some ⟨bk,off,none⟩) nk ck)/\wl.cell? ⟨bk,off+i*5,none⟩=some s0/\wl.cell? ⟨bk,off+i*5+1,none⟩=some s1/\wl.cell? ⟨bk,off+i*5+2,none⟩=some s2/\wl.cell? ⟨bk,off+i*5+3,none⟩=some s3/\wl.cell? ⟨bk,off+i*5+4,none⟩=some s4) A1 An (fun Aa=>?_);refine M922 ?_;refine M925 ?_;refine ta 6 ?_;refine ta 7 ?_;refine ta 8 ?_;try simp only[nrm]
      refine ra 9 fun K hK=>?_;go_simp
      (with_reducible refine H9.mono ?_)
      refine M957 ?_;intro w4 Af b4 Cn;have H10:=sY x (exC m fs p e) w4;go_wp2_with fail;refine hK.out _ _ (Cn) (fun Aa=>?_);clear hK K;try simp only[nrm]
      refine ra 10 fun K hK=>?_;go_simp
      (with_reducible refine H10.mono ?_)
      rintro r w7 ⟨rfl,rfl⟩;go_wp2_with fail;refine hK.out _ _ (Cn) (fun Aa=>?_);clear hK K;try simp only[nrm]
      refine ta 11 ?_;try simp only[nrm]
      refine zK0 A1 ?_ _;have HG7:=hid (aC hg (aM b4 none));clear HS An Cn Aa H9 H10 r0 r1 r2 r3 r4 n3 z0 z1 z5 bw yw hg Hg Af b4;generalize dH x (exC m fs p e)=x' at *;go_wp2;go_roundw
      case rel=>exact⟨i+1,x',by omega,by go_num,rfl,HX2,HG7⟩
      case measure=>simp[intOf];omega
     .
      have:nk=i:=by omega
      subst this;have HXF:Hid (x=jA m fs p z kids):=by show _=_;rw[hx.out,zD3 A18]
      clear hx;have n4:=z5.k 4;have n5:=z5.k 5;have HS:∀{wl:World},Below wr.heap.size wr wl->wl.cell? ⟨w.heap.size,0,none⟩=some (v0)/\wl.cell? ⟨w.heap.size,1,none⟩=some (v1)/\wl.cell? ⟨w.heap.size,2,none⟩=some (v2)/\wl.cell? ⟨w.heap.size,3,none⟩=some (v3)/\wl.cell? ⟨w.heap.size+1,0,none⟩=some (u0)/\wl.cell? ⟨w.heap.size+1,1,none⟩=some (u1)/\wl.cell? ⟨w.heap.size+1,2,none⟩=some (u2)/\wl.cell? ⟨w.heap.size+1,3,none⟩=some (u3)/\wl.cell? ⟨w.heap.size+1,4,none⟩=some (u4)/\wl.cell? ⟨gS,4,none⟩=some (.slice ab nb cb)/\wl.cell? ⟨gS,5,none⟩=some (.slice ae ne ce):=fun hb=>⟨aB (z0.k 0) hb,aB (z0.k 1) hb,aB (z0.k 2) hb,aB (z0.k 3) hb,aB (z1.k 0) hb,aB (z1.k 1) hb,aB (z1.k 2) hb,aB (z1.k 3) hb,aB (z1.k 4) hb,aB n4 hb,aB n5 hb⟩;have An:=HS (wl:=wr.drew) (zD2 _ _).drew;have H6:=Ra.out wr.drew _ _ b nf d ab cb (HE.out.below bw.drew) (aW.below HB.out bw.drew);rw[Dz.out]at H6;simp only[agg,List.toArray]at H6;go_wp2_with fail;refine zJ3 (S:=fun wl=>wl.cell? ⟨w.heap.size,0,none⟩=some (v0)/\wl.cell? ⟨w.heap.size,1,none⟩=some (v1)/\wl.cell? ⟨w.heap.size,2,none⟩=some (v2)/\wl.cell? ⟨w.heap.size,3,none⟩=some (v3)/\wl.cell? ⟨w.heap.size+1,0,none⟩=some (u0)/\wl.cell? ⟨w.heap.size+1,1,none⟩=some (u1)/\wl.cell? ⟨w.heap.size+1,2,none⟩=some (u2)/\wl.cell? ⟨w.heap.size+1,3,none⟩=some (u3)/\wl.cell? ⟨w.heap.size+1,4,none⟩=some (u4)/\wl.cell? ⟨gS,4,none⟩=some (.slice ab nb cb)/\wl.cell? ⟨gS,5,none⟩=some (.slice ae ne ce)) A1 An (fun Aa=>?_);refine M922 ?_;refine M925 ?_;refine ta 7 ?_;refine ta 8 ?_;refine ta 9 ?_;refine ta 10 ?_;refine ta 11 ?_;try simp only[nrm]
      refine ra 6 fun K hK=>?_;go_simp
      (with_reducible refine H6.mono ?_)
      refine M957 ?_;intro w4 Af b4 Cn;have bw4:=bw.trans (b4.mono bw.size);have H12:=To.out w4 _ _ b nf d ae ce (HE.out.below bw4) (aW.below HEL.out bw4);rw[Kr.out]at H12;simp only[agg,List.toArray]at H12;go_wp2_with fail;refine hK.out _ _ (Cn) (fun Aa=>?_);clear hK K;try simp only[nrm]
      refine ra 12 fun K hK=>?_;go_simp
      (with_reducible refine H12.mono ?_)
      rintro r w7 ⟨rfl,Dx⟩;have b7:=b4.trans ((aA Dx).mono b4.size);have HS7:=HS b7;have H13:=sY (eQ m fs p 0 body) (eQ m fs p 0 els) w7;have H14:=sY x (dH (eQ m fs p 0 body) (eQ m fs p 0 els)) w7;go_wp2_with fail;refine hK.out _ _ (HS7) (fun Aa=>?_);clear hK K;try simp only[nrm]
      refine ra 13 fun K hK=>?_;go_simp
      (with_reducible refine H13.mono ?_)
      rintro r w8 ⟨rfl,rfl⟩;go_wp2_with fail;refine hK.out _ _ (HS7) (fun Aa=>?_);clear hK K;try simp only[nrm]
      refine ra 14 fun K hK=>?_;go_simp
      (with_reducible refine H14.mono ?_)
      rintro r w9 ⟨rfl,rfl⟩;go_wp2_with fail;refine hK.out _ _ (HS7) (fun Aa=>?_);clear hK K;try simp only[nrm]
      refine ta 15 ?_;try simp only[nrm]
      refine zK0 A1 ?_ _;have HG9:=hid (aC G15.out (aC hg (aM b7 none)));have Nw:Hid (eQ m fs p 0 l=eQ m fs p (dH x (dH (eQ m fs p 0 body) (eQ m fs p 0 els))) (l.drop (j+1))):=by show _=_;rw[HXF.out];exact Tp.out
      clear HS An Cn HS7 Aa H6 H12 H13 H14 n3 n4 n5 z0 z1 z5 bw bw4 yw hg Hg Af Dx b4 b7 HXF Tp;generalize dH x (dH (eQ m fs p 0 body) (eQ m fs p 0 els))=x' at *;go_wp2;go_roundw
      case rel=>exact⟨j+1,x',by omega,by go_num,rfl,Nw,HG9⟩
      case measure=>simp[intOf];omega
   clear h3;by_cases hy0:y0=0
   .
    subst hy0;have n0:=z5.k 0;have n2:=z5.k 2;obtain⟨k0,k1,k2,k3⟩:=z0.c4;obtain⟨q0,q1,q2,q3,q4⟩:=z1.c5;have H1:=uG m p _ _ w5 (HE.out.rm.below Wx) (HE.out.rp.below Wx) an name.length cn name (aV.below Mk.out Wx);simp only[agg,List.toArray]at H1;cases hv:sgl m p name
    .
     exact QA35
    .
     exact QA19
   have gy0:(y0 == 0)=false:=by simpa using hy0
   by_cases We:y0=1
   .
    subst We;have n0:=z5.k 0;have n2:=z5.k 2;obtain⟨k0,k1,k2,k3⟩:=z0.c4;obtain⟨q0,q1,q2,q3,q4⟩:=z1.c5;have H1:=oC m p _ _ w5 (HE.out.rm.below Wx) (HE.out.rp.below Wx) an name.length cn name (aV.below Mk.out Wx);simp only[agg,List.toArray]at H1;cases hv:arq m p name
    .
     exact QA35
    .
     exact QA19
   have gy1:(y0 == 1)=false:=by simpa using We
   have HF:Hid (eQ m fs p 0 l=eQ m fs p (dH (jA m fs p z kids) (dH (eQ m fs p 0 body) (eQ m fs p 0 els))) (l.drop (j+1))):=by show _=_;rw[HZ.out,HDR.out];exact mD (by rw[nD];exact if_neg (by rw[zC2 hy0,zC2 We];simp))
   have n0:=z5.k 0;clear hy0 We z0 z1 z5;go_wp2_with fail;exact HK3.out w5 _ _ _ _ _ _ _ _ _ _ _ _ _ _ _ _ _ _ _ _ _ _ _ _ _ _ _ _ _ _ _ _ _ _ _ _ _ _ _ _ _ _ _ _ _ _ _ _ _ _ _ _ _ _ _ _ _ _ _ _ _ _ _ _ _ _ _ _ _ (aP _ _) HF.out
  .
   have:nl=j:=by omega
   subst this;have HF:Hid (eQ m fs p 0 l=z):=by show _=_;rw[HZ.out,List.drop_of_length_le A72,aAu]
   clear HZ;go_wp2;go_ret;exact⟨bY HF.out.symm,yw⟩
mutual
theorem aRj (m:Mo)(fs:List Fa)(p:Pr):∀s:St,∀k n name kids body els,s=St.mk k n name kids body els->vK m fs p body/\vK m fs p els
 | .mk _ _ _ _ b1 e1,k,n,name,kids,body,els,h=>by
  have h1:=rU m fs p b1 (aAt m fs p b1);have h2:=rU m fs p e1 (aAt m fs p e1);cases h;exact⟨h1,h2⟩
theorem aAt (m:Mo)(fs:List Fa)(p:Pr):∀l:List St,∀k n name kids body els,St.mk k n name kids body els ∈ l->vK m fs p body/\vK m fs p els
 | [],k,n,name,kids,body,els,h=>by simp at h
 | y :: l,k,n,name,kids,body,els,h=>by
  rcases zG3.1 h with h|h
  .
   exact aRj m fs p y k n name kids body els h.symm
  .
   exact aAt m fs p l k n name kids body els h
end
theorem aTq (m:Mo)(fs:List Fa)(p:Pr)(l:List St):vK m fs p l:=rU m fs p l (aAt m fs p l)
end
section
def aFc (m:Mo)(p:Pr)(x:List Int):Bool:=(ix (p.params.map Pa.name) x).isSome || (ix (m.vars.map Va.name) x).isSome
def aJt (m:Mo)(fs:List Fa)(mod name:List Int):Bool:=if mod=[] then (ix (m.procs.map Pr.name) name).isSome else match sJ fs mod with
 | some f=>(ix (f.procs.map Fp.name) name).isSome| none=>false
mutual
def qA (m:Mo)(fs:List Fa)(p:Pr):Ex->Bool
 | .mk k _ mod name ks=>inB k 0 7 && decide (cX k<=ks.length) && decide (ks.length<=4) && (!decide (k=2\/k=5\/k=7) || aFc m p name) && (!decide (k=6) || aJt m fs mod name) && (decide (k=6) || decide (mod.length=0)) && fJ m fs p ks
def fJ (m:Mo)(fs:List Fa)(p:Pr):List Ex->Bool
 | []=>true| e :: l=>qA m fs p e && fJ m fs p l
end
mutual
def wZ (m:Mo)(fs:List Fa)(p:Pr):St->Bool
 | .mk k _ name ks bs es=>inB k 0 7 && decide (cD k<=ks.length) && (!decide (k=1) || aFc m p name) && fJ m fs p ks && eE m fs p bs && eE m fs p es
def eE (m:Mo)(fs:List Fa)(p:Pr):List St->Bool
 | []=>true| s :: l=>wZ m fs p s && eE m fs p l
end
theorem dG {m:Mo}{fs:List Fa}{p:Pr}:∀{l:List Ex},fJ m fs p l=true->∀e ∈ l,qA m fs p e=true
 | [],_,e,h=>by cases h
 | x :: l,h,e,he=>by
  simp only[fJ,zC0]at h;rcases zG3.1 he with rfl|he
  .
   exact h.1
  .
   exact dG h.2 e he
theorem sD {m:Mo}{fs:List Fa}{p:Pr}:∀{l:List St},eE m fs p l=true->∀e ∈ l,wZ m fs p e=true
 | [],_,e,h=>by cases h
 | x :: l,h,e,he=>by
  simp only[eE,zC0]at h;rcases zG3.1 he with rfl|he
  .
   exact h.1
  .
   exact sD h.2 e he
theorem jC {a b:Int}(ha:0<=a)(hb:0<=b):0<=dH a b:=by unfold dH;split <;> (try split) <;> omega
theorem oH {a b:Int}(h:dH a b=0)(ha:0<=a)(hb:0<=b):a=0/\b=0:=by
 unfold dH at h;split at h
 .
  omega
 .
  split at h <;> omega
section
variable {m:Mo} {fs:List Fa} {p:Pr}
theorem aJm {e:Ex}{c:Int}(h:hdC m fs p e=some c):0<=c:=by
 obtain⟨k,n,mod,name,ks⟩:=e;rw[gK]at h;split at h
 .
  split at h <;> simp at h;omega
 .
  split at h
  .
   split at h <;> simp at h;omega
  .
   split at h
   .
    obtain⟨_,_,h⟩:=zF0.1 h;split at h <;> omega
   .
    simp at h;omega
mutual
theorem aEu:∀e:Ex,0<=exC m fs p e
 | .mk k n mod name ks=>by
  unfold exC;split
  .
   omega
  .
   rename_i c h;exact pQ ks c (aJm h)
theorem pQ:∀(l:List Ex) (c:Int),0<=c->0<=jA m fs p c l
 | [],c,h=>by unfold jA;exact h
 | e :: l,c,h=>by unfold jA;exact pQ l _ (jC h (aEu e))
end
theorem aAb:∀{l:List Ex} {c:Int},jA m fs p c l=0->0<=c->c=0/\∀e ∈ l,exC m fs p e=0
 | [],c,h,_=>by unfold jA at h;exact⟨h,fun e he=>by cases he⟩
 | x :: l,c,h,hc=>by
  unfold jA at h;obtain⟨h1,h2⟩:=aAb h (jC hc (aEu x));obtain⟨h3,h4⟩:=oH h1 hc (aEu x);exact⟨h3,fun e he=>by rcases zG3.1 he with rfl|he;exact h4;exact h2 e he⟩
theorem aJx {x:List Int}(h:arq m p x=true):aFc m p x=true:=by
 unfold arq at h;unfold aFc;rw[Bool.or_eq_true]at h ⊢;rcases h with h|h
 .
  left;cases hi:ix (p.params.map Pa.name) x with
  | none=>rw[mP hi]at h;simp at h| some i=>rfl
 .
  right;cases hi:ix (m.vars.map Va.name) x with
  | none=>rw[lB hi]at h;simp at h| some i=>rfl
theorem aG5 {mod name:List Int}{ks:List Int}(h:fE m fs mod name=some ks):aJt m fs mod name=true:=by
 unfold aJt;by_cases hm:mod=[]
 .
  rw[if_pos hm];rw[qK hm]at h;unfold aM5 at h;cases hi:ix (m.procs.map Pr.name) name with
  | none=>rw[hi]at h;simp at h| some i=>rfl
 .
  rw[if_neg hm];rw[qL hm]at h;cases hf:sJ fs mod with
  | none=>rw[hf]at h;simp at h| some f=>
   rw[hf,Option.bind_some]at h;split at h
   .
    unfold vW at h;show(ix (f.procs.map Fp.name) name).isSome=true
    cases hi:ix (f.procs.map Fp.name) name with
    | none=>rw[hi]at h;simp at h| some i=>rfl
   .
    cases h
mutual
theorem aSm:∀e:Ex,tZ e=true->exC m fs p e=0->qA m fs p e=true
 | .mk k n mod name ks=>fun h hc=>by
  simp only[tZ,gZ,zC0,Bool.or_eq_true]at h;obtain⟨⟨⟨⟨h1,⟨h2,h3⟩,h4⟩,h5⟩,h6⟩,h7⟩:=h;unfold exC at hc;split at hc
  .
   omega
  .
   rename_i c hd;obtain⟨rfl,hk⟩:=aAb hc (aJm hd);have h3':cX k<=ks.length/\(ks.length:Int)<=iM k:=by unfold inB at h3;simpa using h3
   have h8:(ks.length:Int)<=4:=by have:=h3'.2;unfold iM at this;split at this <;> (try split at this) <;> (try split at this) <;> omega
   have ha:k=2\/k=5\/k=7->aFc m p name=true:=fun hk7=>by
    rw[gK,if_neg A0,if_pos hk7]at hd;split at hd
    .
     rename_i hq;exact aJx hq
    .
     cases hd
   have hb:k=6->aJt m fs mod name=true:=fun hk6=>by
    rw[gK,if_neg A0,if_neg A0,if_pos hk6]at hd;obtain⟨q,hq,_⟩:=zF0.1 hd;exact aG5 hq
   have hm:k=6\/mod.length=0:=by
    rcases h5 with h5|h5
    .
     exact .inr (of_decide_eq_true h5)
    .
     exact .inl (of_decide_eq_true h5.1)
   simp only[qA,zC0,Bool.or_eq_true,Bool.not_eq_true',zE3,zH0];refine⟨⟨⟨⟨⟨⟨h1,h3'.1⟩,by omega⟩, ?_⟩, ?_⟩,hm⟩,aEg ks h7 hk⟩
   .
    by_cases hk7:k=2\/k=5\/k=7
    .
     exact .inr (ha hk7)
    .
     exact .inl hk7
   .
    by_cases hk6:k=6
    .
     exact .inr (hb hk6)
    .
     exact .inl hk6
theorem aEg:∀l:List Ex,jO l=true->(∀e ∈ l,exC m fs p e=0)->fJ m fs p l=true
 | [],_,_=>by simp[fJ]
 | e :: l,h,hc=>by
  simp only[jO,zC0]at h;simp only[fJ,zC0];exact⟨aSm e h.1 (hc e A8),aEg l h.2 fun x hx=>hc x (by simp[hx])⟩
end
mutual
theorem aI0:∀(s:St) (c c':Int),stC m fs p c s=some c'->0<=c->0<=c'
 | .mk k n name ks bs es=>fun c c' h hc=>by
  unfold stC at h;split at h
  .
   cases h
  .
   simp only[zG2]at h;rw[<-h];exact jC (pQ ks c hc) (jC (gU bs 0 A0) (gU es 0 A0))
theorem gU:∀(l:List St) (c:Int),0<=c->0<=eQ m fs p c l
 | [],c,h=>by unfold eQ;exact h
 | s :: l,c,h=>by
  unfold eQ;split
  .
   omega
  .
   rename_i c' hs;exact gU l c' (aI0 s c c' hs h)
end
theorem aAv:∀{l:List St} {c:Int},eQ m fs p c l=0->0<=c->c=0/\∀s ∈ l,stC m fs p 0 s=some 0
 | [],c,h,_=>by unfold eQ at h;exact⟨h,fun e he=>by cases he⟩
 | s :: l,c,h,hc=>by
  unfold eQ at h;split at h
  .
   omega
  .
   rename_i c' hs;obtain⟨h1,h2⟩:=aAv h (aI0 s c c' hs hc);subst h1;have h0:c=0:=by
    obtain⟨k,n,name,ks,bs,es⟩:=s;rw[nD]at hs;split at hs
    .
     cases hs
    .
     simp only[zG2]at hs;exact(aAb (oH hs (pQ ks c hc) (jC (gU bs 0 A0) (gU es 0 A0))).1 hc).1
   subst h0;exact⟨rfl,fun x hx=>by rcases zG3.1 hx with rfl|hx;exact hs;exact h2 x hx⟩
mutual
theorem aSl:∀s:St,aFr s=true->stC m fs p 0 s=some 0->wZ m fs p s=true
 | .mk k n name ks bs es=>fun h hc=>by
  simp only[aFr,oK,zC0,Bool.or_eq_true]at h;obtain⟨⟨⟨⟨⟨⟨⟨⟨h1,⟨h2,h3⟩,h4⟩,_⟩,_⟩,_⟩,_⟩,h5⟩,h6⟩,h7⟩:=h;have h3':cD k<=ks.length:=by unfold inB at h3;simp only[zC0,zE3]at h3;exact h3.1
  rw[nD]at hc;split at hc
  .
   cases hc
  .
   rename_i hq;simp only[zG2]at hc;obtain⟨c1,c2⟩:=oH hc (pQ ks 0 A0) (jC (gU bs 0 A0) (gU es 0 A0));obtain⟨c3,c4⟩:=oH c2 (gU bs 0 A0) (gU es 0 A0);simp only[wZ,zC0,Bool.or_eq_true,Bool.not_eq_true',zE3,zH0];refine⟨⟨⟨⟨⟨h1,h3'⟩, ?_⟩,aEg ks h5 (aAb c1 A0).2⟩,zW bs h6 (aAv c3 A0).2⟩,zW es h7 (aAv c4 A0).2⟩;by_cases hk:k=1
   .
    right;have:arq m p name=true:=by
     simp only[Bool.or_eq_true,zC0,zE3,Bool.not_eq_true',not_or,not_and]at hq;have:=hq.2 hk;simpa using this
    exact aJx this
   .
    exact .inl hk
theorem zW:∀l:List St,iP l=true->(∀s ∈ l,stC m fs p 0 s=some 0)->eE m fs p l=true
 | [],_,_=>by simp[eE]
 | s :: l,h,hc=>by
  simp only[iP,zC0]at h;simp only[eE,zC0];exact⟨aSl s h.1 (hc s A8),zW l h.2 fun x hx=>hc x (by simp[hx])⟩
end
end
def tT (m:Mo)(fs:List Fa):Int->List Pr->Int
 | c,[]=>c| c,q :: l=>tT m fs (dH c (eQ m fs q 0 q.body)) l
theorem vV (m:Mo)(fs:List Fa)(c:Int)(l r:List Pr):tT m fs c (l++r)=tT m fs (tT m fs c l) r:=by
 induction l generalizing c with
 | nil=>simp[tT]| cons e l ih=>simp[tT,ih]
theorem aC5 {m:Mo}{fs:List Fa}{c:Int}{l:List Pr}{j:Nat}{q:Pr}(h:l[j]?=some q):tT m fs c (l.take (j+1))=dH (tT m fs c (l.take j)) (eQ m fs q 0 q.body):=by
 obtain⟨hj,rfl⟩:=zC1.1 h;rw[zF1 hj,vV];simp[tT]
theorem aI3 {m:Mo}{fs:List Fa}:∀{l:List Pr} {c:Int},tT m fs c l=0->0<=c->c=0/\∀q ∈ l,eQ m fs q 0 q.body=0
 | [],c,h,_=>⟨h,fun q hq=>by cases hq⟩
 | q :: l,c,h,hc=>by
  simp only[tT]at h;obtain⟨h1,h2⟩:=aI3 h (jC hc (gU q.body 0 A0));obtain⟨h3,h4⟩:=oH h1 hc (gU q.body 0 A0);exact⟨h3,fun x hx=>by rcases zG3.1 hx with rfl|hx;exact h4;exact h2 x hx⟩
structure aQm (m:Mo) (fs:List Fa):Prop where
 vars:m.vars.length<=8
 procs:m.procs.length<=8
 head:∀q ∈ m.procs,q.params.length<=4/\q.locals.length<=8
 gd:∀q ∈ m.procs,eE m fs q q.body=true
 nd:∀q ∈ m.procs,aK q.body<=250
def rg4 (c:Int):Prop:=0<=c/\c<=4
theorem nS {a b:Int}(ha:rg4 a)(hb:rg4 b):rg4 (dH a b):=by
 unfold dH rg4 at *;split
 .
  omega
 .
  split <;> omega
theorem aPm {m:Mo}{fs:List Fa}{p:Pr}{e:Ex}{c:Int}(h:hdC m fs p e=some c):rg4 c:=by
 cases e with
 | mk k n mod name kids=>
 rw[gK]at h;have h0:rg4 0:=⟨by omega,by omega⟩
 split at h
 .
  split at h
  .
   cases h;exact h0
  .
   cases h
 .
  split at h
  .
   split at h
   .
    cases h;exact h0
   .
    cases h
  .
   split at h
   .
    obtain⟨ks,_,e⟩:=zF0.1 h;subst e;split
    .
     exact⟨by omega,by omega⟩
    .
     exact h0
   .
    cases h;exact h0
mutual
theorem aPv (m:Mo)(fs:List Fa)(p:Pr):∀e:Ex,rg4 (exC m fs p e)
 | .mk k n mod name kids=>by
  cases h:hdC m fs p (.mk k n mod name kids) with
  | none=>rw[kS h];exact⟨by omega,by omega⟩
  | some c=>rw[jH h];exact xJ m fs p kids c (aPm h)
theorem xJ (m:Mo)(fs:List Fa)(p:Pr):∀(l:List Ex) (c:Int),rg4 c->rg4 (jA m fs p c l)
 | [],c,h=>by unfold jA;exact h
 | e :: l,c,h=>by unfold jA;exact xJ m fs p l _ (nS h (aPv m fs p e))
end
mutual
theorem aNm (m:Mo)(fs:List Fa)(p:Pr):∀(s:Go.Proofs.YtcbhdhmhidpdgaaGreatDoor.St) (c c':Int),rg4 c->stC m fs p c s=some c'->rg4 c'
 | .mk k n name kids body els,c,c',h,e=>by
  rw[nD]at e;split at e
  .
   cases e
  .
   cases e;exact nS (xJ m fs p kids c h) (nS (sP m fs p body 0 ⟨by omega,by omega⟩) (sP m fs p els 0 ⟨by omega,by omega⟩))
theorem sP (m:Mo)(fs:List Fa)(p:Pr):∀(l:List Go.Proofs.YtcbhdhmhidpdgaaGreatDoor.St) (c:Int),rg4 c->rg4 (eQ m fs p c l)
 | [],c,h=>by rw[aAu];exact h
 | s :: l,c,h=>by
  cases e:stC m fs p c s with
  | none=>rw[pS e];exact⟨by omega,by omega⟩
  | some c'=>rw[mD e];exact sP m fs p l c' (aNm m fs p s c c' h e)
end
theorem aC4 (m:Mo)(fs:List Fa):∀(l:List Pr) (c:Int),rg4 c->rg4 (tT m fs c l)
 | [],c,h=>h| q :: l,c,h=>aC4 m fs l _ (nS h (sP m fs q q.body 0 ⟨by omega,by omega⟩))
theorem aVo {m:Mo}{fs:List Fa}(h1:cH m=true)(h:tT m fs 0 m.procs=0):aQm m fs:=by
 have hq:=(aI3 h A0).2;unfold cH at h1;simp only[zC0,zE3]at h1;obtain⟨⟨⟨⟨⟨_,h2⟩,_⟩,h3⟩,h4⟩,h5⟩:=h1;have fit:∀q ∈ m.procs,iP q.body=true/\aK q.body<=250:=fun q hq=>by
  obtain⟨j,hj,rfl⟩:=List.mem_iff_getElem.1 hq;have:=zF3.1 h5 j (List.mem_range.2 hj);rw[zA0 hj,zI0]at this;unfold cI at this;simp only[zC0,zE3]at this;exact⟨this.1.1,by omega⟩
 refine⟨h2,h3,fun q hq=>?_,fun q hm=>zW _ (fit q hm).1 (aAv (hq q hm) A0).2,fun q hq=>(fit q hq).2⟩;have:=zF3.1 h4 q hq;unfold pZ at this;simp only[zC0,zE3]at this;exact⟨this.1.1.1.2,this.1.2⟩
end
section
theorem QA117{p:Prop}(h:p:=by
 have:i=0\/i=1\/i=2\/i=3\/i=4:=by omega
 rcases this with rfl|rfl|rfl|rfl|rfl <;> rfl):p:=h
namespace Cp
theorem M962{p q:Prop}(k:q)(h:Kx q->p:=by
 intro kQz
 have hgn:(d.r i).v.ownBlock ≠ some E.g:=fun e=>h.ng i _ hi e rfl
 have hb:Blk w' E.g 143 (cells E d):=(hg.block E.g h.lt (fun e=>hgn e.symm)).trans h.blk
 revert hb;revert hgn
 exact kQz.o):p:=h ⟨k⟩
structure En where
 w0:World
 τ0:Eg.Sm
 g:Nat
 m0:Value
 m1:Value
 m2:Value
 m3:Value
 fa:Option Addr
 fn:Nat
 fc:Nat
 m:Mo
 fs:List Fa
def En.ms (E:En):List Value:=[E.m0,E.m1,E.m2,E.m3]
structure dX (E:En):Prop where
 th:Eg.TH E.τ0 E.w0
 tg:Eg.Tg E.τ0
 gl:E.w0.heap.size<=E.g
 rm:aL E.w0 E.m.fl E.ms
 tm:Eg.RV E.τ0 (Eg.Dt 13).2 E.ms
 rf:aW E.w0 E.fa E.fc 2 (E.fs.map Fa.fl)
 fl:E.fs.length=E.fn
 ok:aQm E.m E.fs
structure RD where
 v:Value
 n:Nat
 xs:List Value
structure GD where
 p:Pr
 p0:Value
 p1:Value
 p2:Value
 p3:Value
 p4:Value
 fr:Int
 mo:Int
 sl:Nat
 s4:Int
 r:Nat->RD
def GD.ps (d:GD):List Value:=[d.p0,d.p1,d.p2,d.p3,d.p4]
def RT:Nat->TypeId
 | 0=>150| 1=>42| _=>3
def RK:Nat->Nat
 | 0=>6| 1=>3| _=>1
def RP:Nat->Nat
 | 0=>10| 1=>13| 2=>14| 3=>15| _=>16
def cells (E:En)(d:GD):List Value:=[E.m0,E.m1,E.m2,E.m3,.slice E.fa E.fn E.fc,d.p0,d.p1,d.p2,d.p3,d.p4,(d.r 0).v,.int .i64 d.fr,.int .i64 d.mo,(d.r 1).v,(d.r 2).v,(d.r 3).v,(d.r 4).v]
def aCj (xs:List Value):Prop:=∀u ∈ xs,∃x,u=.int .i64 x
def aFp (b:Nat)(xs:List Value):Prop:=∀u ∈ xs,∃x:Nat,u=.int .i64 x/\x<b
def aUi (τ:Eg.Sm)(xs:List Value):Prop:=∃xss:List (List Value),xs=xss.flatten/\∀us ∈ xss,Eg.RV τ [.b 4,.b 4,.n] us
structure El (E:En) (d:GD):Prop where
 e0:aCj (d.r 0).xs
 e1:aUi E.τ0 (d.r 1).xs
 e2:aCj (d.r 2).xs
 n2:(d.r 2).n=E.m.procs.length
 e3:aFp ((d.r 0).n+d.sl) (d.r 3).xs
 m3:(d.r 3).n<=(d.r 0).n+d.sl
 e4:aFp E.m.procs.length (d.r 4).xs
 n4:((d.r 4).n:Int)+d.s4=(d.r 3).n
 rp:aL E.w0 d.p.fl d.ps
 hl:d.p.params.length<=4/\d.p.locals.length<=8
structure GS (E:En) (d:GD) (w:World):Prop where
 blk:Blk w E.g 143 (cells E d)
 bel:Below E.w0.heap.size E.w0 w
 row:∀i,i<5->w.ownsRow E.w0.heap.size (RT i) (RK i) (d.r i).v (d.r i).n (d.r i).xs
 dj:∀i j b,i<5->j<5->i ≠ j->(d.r i).v.ownBlock=some b->(d.r j).v.ownBlock ≠ some b
 ng:∀i b,i<5->(d.r i).v.ownBlock=some b->b ≠ E.g
 el:El E d
def aGx (T:TypeId):Bool:=T == 150 || T == 3 || T == 42 || T == 143
structure Kt (w w':World):Prop where
 size:w.heap.size<=w'.heap.size
 blk:∀(b:Nat) (cs:Array Value) (T:TypeId) (fl:Nat × Nat),w.heap[b]?=some (Obj.cells cs T fl)->aGx T=false->w'.heap[b]?=w.heap[b]?
theorem Kt.refl (w:World):Kt w w:=⟨zB0 _,fun _ _ _ _ _ _=>rfl⟩
theorem Kt.trans {a b c:World}(h:Kt a b)(k:Kt b c):Kt a c:=⟨zF2 h.size k.size,fun q cs T fl e hm=>by
 have h1:=h.blk q cs T fl e hm;exact(k.blk q cs T fl (h1.trans e) hm).trans h1⟩
theorem Kt.below {w w':World}(h:Below w.heap.size w w'):Kt w w':=⟨h.size,fun b cs T fl e _=>h.block b (zI3.1 e).1⟩
theorem Kt.b {w w':World}{g:Nat}{T:TypeId}{vs:List Value}(h:Kt w w')(hm:aGx T=false)(hb:Blk w g T vs):Blk w' g T vs:=(h.blk g _ T _ hb hm).trans hb
theorem Kt.grown {w w':World}{r:Option Nat}(h:w.grownBy w' r)(hr:∀b,r=some b->∀(cs:Array Value) (T:TypeId) (fl:Nat × Nat),w.heap[b]?=some (Obj.cells cs T fl)->aGx T=true):Kt w w':=⟨h.size,fun b cs T fl e hm=>by
 by_cases hb:r=some b
 .
  rw[hr b hb cs T fl e]at hm;cases hm
 .
  exact h.block b (zI3.1 e).1 (fun e9=>hb e9.symm)⟩
theorem mL {i:Nat}:aGx (RT i)=true:=by
 match i with
 | 0=>rfl| 1=>rfl| _+2=>rfl
section
variable {E:En} {d:GD} {w w':World}
theorem iU {T k base n b:Nat}{v:Value}{xs:List Value}(h:w.ownsRow base T k v n xs)(hb:v.ownBlock=some b):∃cs,w.heap[b]?=some (Obj.cells cs T (0,0)):=by
 rcases h.2 with⟨rfl,_⟩|⟨g,cap,cur,rfl,_,hh,_⟩
 .
  cases hb
 .
  cases hb;exact⟨cur,hh⟩
theorem GS.lt (h:GS E d w):E.g<w.heap.size:=h.blk.lt
theorem GS.on (h:GS E d w)(hE:dX E)(hb:Below w.heap.size w w'):GS E d w':=
 ⟨h.blk.below hb h.lt,h.bel.trans (hb.mono h.bel.size),fun i hi=>bT (h.row i hi) fun b Dy=>hb.block b ((h.row i hi).lt b Dy).2,h.dj,h.ng,h.el⟩
theorem GS.drew (h:GS E d w)(hE:dX E):GS E d w.drew:=h.on hE ((zD2 _ _).drew)
theorem GS.alloc (h:GS E d w)(hE:dX E)(o:Obj):GS E d (w.alloc o):=h.on hE ((zD2 _ _).alloc (zB0 _) o)
def GD.put (d:GD)(i:Nat)(q:RD):GD:={ d with r:=fun j=>if j=i then q else d.r j }
theorem GD.put_at (d:GD)(i:Nat)(q:RD):(d.put i q).r i=q:=if_pos rfl
theorem GD.put_ne {d:GD}{i j:Nat}{q:RD}(h:j ≠ i):(d.put i q).r j=d.r j:=if_neg h
theorem vA (E:En)(d:GD){i:Nat}(hi:i<5)(q:RD):cells E (d.put i q)=(cells E d).set (RP i) q.v:=by
 exact QA117
def GD.at (d:GD)(a:Nat)(b:Int):GD:={ d with sl:=a,s4:=b }
theorem GS.put (h:GS E d w)(hE:dX E){i:Nat}(hi:i<5){q:RD}(hg:w.grownBy w' (d.r i).v.ownBlock)(ho:w'.ownsRow E.w0.heap.size (RT i) (RK i) q.v q.n q.xs)(hl:∀b,q.v.ownBlock=some b->(d.r i).v.ownBlock=some b\/w.heap.size<=b)(a9:Nat)(b9:Int)(he:El E ((d.at a9 b9).put i q)):GS E ((d.at a9 b9).put i q) (w'.setCell ⟨E.g,RP i,none⟩ q.v):=by
 refine M962 ?_;intro hgn hb;have hng:∀j b,j<5->(((d.at a9 b9).put i q).r j).v.ownBlock=some b->b ≠ E.g:=fun j b hj e=>by
  by_cases Jv:j=i
  .
   subst Jv;rw[GD.put_at]at e;rcases hl b e with e1|e1
   .
    exact h.ng j b hj e1
   .
    have:=h.lt;omega
  .
   rw[GD.put_ne Jv]at e;exact h.ng j b hj e
 have Au:∀j,j<5->w'.ownsRow E.w0.heap.size (RT j) (RK j) (((d.at a9 b9).put i q).r j).v (((d.at a9 b9).put i q).r j).n (((d.at a9 b9).put i q).r j).xs:=fun j hj=>by
  by_cases Jv:j=i
  .
   subst Jv;rw[GD.put_at];exact ho
  .
   rw[GD.put_ne Jv];exact bT (h.row j hj) fun b Dy=>hg.block b ((h.row j hj).lt b Dy).2 (fun e=>h.dj i j b hi hj (fun e9=>Jv e9.symm) e.symm Dy)
 refine⟨?_, ?_,fun j hj=>bT (Au j hj) fun b Dy=>heap_setCell_other w' ⟨E.g,RP i,none⟩ b q.v (hng j b hj Dy),fun j k b hj hk hjk e1 e2=>?_,hng,he⟩
 .
  rw[vA E (d.at a9 b9) hi q];exact hb.set q.v
 .
  have h1:Below E.w0.heap.size E.w0 w':=h.bel.grown hg h.bel.size (fun b e=>((h.row i hi).lt b e).1);exact h1.setCell (p:=⟨E.g,RP i,none⟩) hE.gl q.v
 .
  by_cases Jv:j=i
  .
   subst Jv;rw[GD.put_at]at e1;rw[GD.put_ne (fun e=>hjk e.symm)]at e2;rcases hl b e1 with e3|e3
   .
    exact h.dj j k b hj hk hjk e3 e2
   .
    have:=((h.row k hk).lt b e2).2;omega
  .
   rw[GD.put_ne Jv]at e1;by_cases hki:k=i
   .
    subst hki;rw[GD.put_at]at e2;rcases hl b e2 with e3|e3
    .
     exact h.dj j k b hj hk hjk e1 e3
    .
     have:=((h.row j hj).lt b e1).2;omega
   .
    rw[GD.put_ne hki]at e2;exact h.dj j k b hj hk hjk e1 e2
theorem GS.kt (h:GS E d w){i:Nat}(hi:i<5)(hg:w.grownBy w' (d.r i).v.ownBlock)(v:Value):Kt w (w'.setCell ⟨E.g,RP i,none⟩ v):=by
 refine M962 ?_;intro hgn hb;have h1:Kt w w':=Kt.grown hg fun b e cs T fl hb=>by
  obtain⟨Qt,e'⟩:=iU (h.row i hi) e;rw[e']at hb;cases hb;exact mL
 refine h1.trans ⟨by simp,fun b cs T fl e hm=>?_⟩;by_cases Lf:b=E.g
 .
  subst Lf;rw[hb]at e;cases e;cases hm
 .
  exact heap_setCell_other w' ⟨E.g,RP i,none⟩ b v Lf
theorem GS.own (h:GS E d w)(hE:dX E){d':GD}{cs:List Value}{o:Nat}(hr:d'.r=d.r)(hc:Blk (w.setCells E.g o cs) E.g 143 (cells E d'))(he:El E d'):GS E d' (w.setCells E.g o cs):=by
 have hs:=Eg.setCells_same E.g cs o w;refine⟨hc,⟨hs.1.trans h.bel.os,hs.2.1.trans h.bel.tape,hs.2.2.1.trans h.bel.output,by rw[hs.2.2.2];exact h.bel.size,fun b hb=>(Eg.heap_setCells_other E.g cs o w b (by have:=hE.gl;omega)).trans (h.bel.block b hb)⟩,fun i hi=>?_, ?_, ?_,he⟩
 .
  rw[hr];exact bT (h.row i hi) fun b hb=>Eg.heap_setCells_other E.g cs o w b (h.ng i b hi hb)
 .
  rw[hr];exact h.dj
 .
  rw[hr];exact h.ng
theorem GS.kto (h:GS E d w)(cs:List Value)(o:Nat):Kt w (w.setCells E.g o cs):=⟨by rw[(Eg.setCells_same E.g cs o w).2.2.2];exact zB0 _,fun b Qt T fl e hm=>by
 by_cases Lf:b=E.g
 .
  subst Lf;rw[h.blk]at e;cases e;cases hm
 .
  exact Eg.heap_setCells_other E.g cs o w b Lf⟩
theorem GS.cell (h:GS E d w)(hE:dX E){i b n c:Nat}(hi:i<5)(hv:(d.r i).v=.slice (some ⟨b,0,none⟩) n c)(j:Nat)(u:Value)(he:El E (d.put i ⟨(d.r i).v,(d.r i).n,(d.r i).xs.set j u⟩)):GS E (d.put i ⟨(d.r i).v,(d.r i).n,(d.r i).xs.set j u⟩) (w.setCell ⟨b,j,none⟩ u)/\Kt w (w.setCell ⟨b,j,none⟩ u):=by
 have Aj:(d.r i).v.ownBlock=some b:=by rw[hv];rfl
 have Lf:=h.ng i b hi Aj;have hn:(d.r i).n=n:=by
  obtain⟨a,c',e,_⟩:=aH (h.row i hi);rw[hv]at e;simp only[Value.slice.injEq]at e;exact e.2.1.symm
 have hr:=h.row i hi;rw[hv,hn]at hr;obtain⟨hs,hg⟩:=hr.stored j u;have Xg:∀k,k ≠ b->(w.setCell ⟨b,j,none⟩ u).heap[k]?=w.heap[k]?:=fun k hk=>heap_setCell_other w ⟨b,j,none⟩ k u hk;obtain⟨cs,Kl⟩:=iU (h.row i hi) Aj;refine⟨⟨?_,h.bel.setCell (p:=⟨b,j,none⟩) ((h.row i hi).lt b Aj).1 u,fun k hk=>?_, ?_, ?_,he⟩,⟨by simp,fun k Qt T fl e hm=>?_⟩⟩
 .
  rw[vA E d hi];have:(cells E d).set (RP i) (d.r i).v=cells E d:=by
   exact QA117
  show Blk _ _ _ ((cells E d).set (RP i) (d.r i).v)
  rw[this];exact(Xg _ (fun e=>Lf e.symm)).trans h.blk
 .
  by_cases hki:k=i
  .
   subst hki;rw[GD.put_at];show World.ownsRow _ _ _ _ (d.r k).v (d.r k).n _
   rw[hv,hn];exact hs
  .
   rw[GD.put_ne hki];exact bT (h.row k hk) fun q hq=>Xg q (fun e=>h.dj i k b hi hk (fun e9=>hki e9.symm) Aj (by rw[<-e];exact hq))
 .
  intro p q z hp hq hpq e1 e2;have f:∀z,((d.put i ⟨(d.r i).v,(d.r i).n,(d.r i).xs.set j u⟩).r z).v=(d.r z).v:=fun z=>by
   by_cases hz:z=i
   .
    subst hz;rw[GD.put_at]
   .
    rw[GD.put_ne hz]
  rw[f]at e1 e2;exact h.dj p q z hp hq hpq e1 e2
 .
  intro p z hp e1;have f:((d.put i ⟨(d.r i).v,(d.r i).n,(d.r i).xs.set j u⟩).r p).v=(d.r p).v:=by
   by_cases hz:p=i
   .
    subst hz;rw[GD.put_at]
   .
    rw[GD.put_ne hz]
  rw[f]at e1;exact h.ng p z hp e1
 .
  by_cases Fm:k=b
  .
   subst Fm;rw[Kl]at e;cases e;rw[mL]at hm;cases hm
  .
   exact Xg k Fm
end
structure Up (d d':GD) (c:Nat):Prop where
 p:d'.p=d.p/\d'.ps=d.ps
 fr:d'.fr=d.fr
 r1:d'.r 1=d.r 1
 r2:d'.r 2=d.r 2
 n0:(d.r 0).n<=(d'.r 0).n
 n1:(d'.r 0).n<=(d.r 0).n+c
 n3:(d.r 3).n<=(d'.r 3).n
 x3:∃us,(d'.r 3).xs=(d.r 3).xs++us
 x4:∃us,(d'.r 4).xs=(d.r 4).xs++us
theorem Up.refl (d:GD):Up d d 0:=⟨⟨rfl,rfl⟩,rfl,rfl,rfl,zB0 _,zB0 _,zB0 _,⟨[],by simp⟩,⟨[],by simp⟩⟩
theorem Up.trans {a b c:GD}{m n:Nat}(h:Up a b m)(k:Up b c n):Up a c (m+n):=by
 obtain⟨u3,h3⟩:=h.x3;obtain⟨u4,h4⟩:=h.x4;obtain⟨v3,k3⟩:=k.x3;obtain⟨v4,k4⟩:=k.x4;have:=h.n1;have:=k.n1;exact⟨⟨k.p.1.trans h.p.1,k.p.2.trans h.p.2⟩,k.fr.trans h.fr,k.r1.trans h.r1,k.r2.trans h.r2,zF2 h.n0 k.n0,by omega,zF2 h.n3 k.n3,⟨u3++v3,by rw[k3,h3,zD0]⟩,⟨u4++v4,by rw[k4,h4,zD0]⟩⟩
theorem Up.wide {d d':GD}{c c':Nat}(h:Up d d' c)(hc:c<=c'):Up d d' c':=⟨h.p,h.fr,h.r1,h.r2,h.n0,by have:=h.n1;omega,h.n3,h.x3,h.x4⟩
end Cp
end
section
namespace Cp
variable{tmps:Array Value}{E:En}{R:Ending->World->Prop}{fn:Func}{us xs:List Value}{w:World}
theorem aVk (n:Int):Eg.I64 (wrap64 n):=by unfold Eg.I64 wrap64;omega
theorem aPj:(Tryz.prog.info? 150).map (fun i=>(i.zero,i.size,i.bytes))=some (some (.agg #[.int .i64 0,.int .i64 0,.int .i64 0,.int .i64 0,.int .i64 0,.int .i64 0]),6,48):=by kernel_rfl
theorem aHm:(Tryz.prog.info? 3).map (fun i=>(i.zero,i.size,i.bytes))=some (some (.int .i64 0),1,8):=by kernel_rfl
theorem aTz(hf:fn.results=#[])(tmps:Array Value)(w:World):(results fn tmps).run Tryz.prog w=.ok (.tuple #[]) w:=by simp[results,hf]
theorem aKr(hf:fn.results=#[])(hR:R (.returned (.tuple #[])) w):bodyPost Tryz.prog fn R .ret { tmps:=tmps,defers:=[] } w:=⟨rfl,_,aTz hf _ _,hR⟩
theorem nY(hf:fn.results=#[])(hR:R (.returned (.tuple #[])) w):bodyPost Tryz.prog fn R .normal { tmps:=tmps,defers:=[] } w:=⟨rfl,_,aTz hf _ _,hR⟩
theorem mI{o:Oper}{a:Act}{K:Act->World->Prop}{Q:Exit->Act->World->Prop}{t T k bytes:Nat}{z:Value}(info:(Tryz.prog.info? T).map (fun i=>(i.zero,i.size,i.bytes))=some (some z,k,bytes))(ht:Tryz.prog.underlying t=some (.slice T))(hzs:z.cells.size=k)(hk:0<k)(Bv:bytes<=1000)(s x:Operand)
  (ho:o.op=.call { callee:=.builtin .append,args:=#[s,x],argTypes:=#[t,t] }) {base n:Nat} {v:Value} {xs:List Value} (hs:a.eval s=v) (hg:w.ownsRow base T k v n xs) {g:Nat} {us:List Value} (hx:a.eval x=.slice (some ⟨g,0,none⟩) 1 1) (hb:Blk w g T us) (hl:us.length=k) (h1:∀u ∈ us,u.oneCell'=true) (Bg:n<=1000000) (hN:base<=w.heap.size)
  (h:∀g' c w',w'.ownsRow base T k (.slice (some ⟨g',0,none⟩) (n+1) c) (n+1) (xs++us)->w.grownBy w' v.ownBlock->(v.ownBlock=some g'\/g'=w.heap.size)->K (a.put o.dst (.slice (some ⟨g',0,none⟩) (n+1) c)) w'):o.wp Tryz.prog a w K Q:=by
 obtain⟨i0,hi,Dd,Db,Cz⟩:=info_parts info;refine wp_append_lies w s x t ho base T i0 z k bytes ht hi Dd Db Cz hzs hk v n xs hs hg ⟨g,0,none⟩ 1 1 us hx A0 (fun j u hu=>?_) h1 A6 A11 (by have:(n+1)*bytes<=1000001*1000:=Nat.mul_le_mul A0 Bv;omega) hN _ rfl (fun g' c w' a1 a2 a3 a4=>h g' c w' a1 a2 a3);rw[Addr.add_lit,zJ0];exact hb.cell hu
theorem wR(h:aCj us):∀u ∈ us,u.oneCell'=true:=fun u hu=>by obtain⟨x,rfl⟩:=h u hu;rfl
def Cl (E:En)(d:GD)(w:World)(c:Nat)(e:Ending)(w':World):Prop:=e=.returned (.tuple #[])/\∃d',GS E d' w'/\Up d d' c/\Kt w w'/\d'.sl=0/\d'.s4=d.s4/\d'.r 3=d.r 3/\d'.r 4=d.r 4/\(d'.r 0).n=(d.r 0).n+c
theorem aIo(h:aCj xs)(k:aCj us):aCj (xs++us):=fun u hu=>(List.mem_append.1 hu).elim (h u) (k u)
theorem aFp.mono{b b':Nat}(h:aFp b xs)(hb:b<=b'):aFp b' xs:=fun u hu=>by
 obtain⟨x,e,hx⟩:=h u hu;exact⟨x,e,by omega⟩
theorem El.more{d:GD}(h:El E d)(hs:d.sl<=1){v:Value}{us:List Value}(hu:aCj us):El E ((d.at 0 d.s4).put 0 ⟨v,(d.r 0).n+1,(d.r 0).xs++us⟩):=
 ⟨aIo h.e0 hu,h.e1,h.e2,h.n2,h.e3.mono (by show(d.r 0).n+d.sl<=(d.r 0).n+1+0;omega),by have:=h.m3;show(d.r 3).n<=(d.r 0).n+1+0;omega,h.e4,h.n4,h.rp,h.hl⟩
theorem Up.more (d:GD)(v:Value)(us:List Value):Up d ((d.at 0 d.s4).put 0 ⟨v,(d.r 0).n+1,(d.r 0).xs++us⟩) 1:=
 ⟨⟨rfl,rfl⟩,rfl,rfl,rfl,Nat.le_succ _,zB0 _,zB0 _,⟨[],by simp[GD.put,GD.at]⟩,⟨[],by simp[GD.put,GD.at]⟩⟩
set_option maxHeartbeats 8000000 in
theorem aRw{d:GD}(hE:dX E)(h:GS E d w)(hsl:d.sl<=1)(hn:(d.r 0).n<=1000000)(x0 x1 x2 x3 x4 x5:Int):
  Calls Tryz.prog 110 #[.pointer (some ⟨E.g,0,none⟩),.agg #[.int .i64 x0,.int .i64 x1,.int .i64 x2,.int .i64 x3,.int .i64 x4,.int .i64 x5]] w (Cl E d w 1):=by
 have HU:Hid (aCj [.int .i64 x0,.int .i64 x1,.int .i64 x2,.int .i64 x3,.int .i64 x4,.int .i64 x5]):=by
  intro u hu;simp only[zG3,List.not_mem_nil,or_false]at hu;rcases hu with rfl|rfl|rfl|rfl|rfl|rfl
  .
   exact⟨_,rfl⟩
  .
   exact⟨_,rfl⟩
  .
   exact⟨_,rfl⟩
  .
   exact⟨_,rfl⟩
  .
   exact⟨_,rfl⟩
  .
   exact⟨_,rfl⟩
 have HE:Hid (dX E):=hE;have HN:Hid ((d.r 0).n<=1000000):=hn;have HSL:Hid (d.sl<=1):=hsl;have HG:Hid (GS E d w):=h;have y1:Below w.heap.size w (w.alloc (.cells #[.int .i64 x0,.int .i64 x1,.int .i64 x2,.int .i64 x3,.int .i64 x4,.int .i64 x5] 150 (0,0))):=(zD2 _ _).alloc (zB0 _) _;have x1b:=Blk.new w 150 [.int .i64 x0,.int .i64 x1,.int .i64 x2,.int .i64 x3,.int .i64 x4,.int .i64 x5];have Y1:Hid (Below w.heap.size w (w.alloc (.cells #[.int .i64 x0,.int .i64 x1,.int .i64 x2,.int .i64 x3,.int .i64 x4,.int .i64 x5] 150 (0,0)))):=y1;have gb:=(h.on hE y1).blk;simp only[List.toArray]at x1b;obtain⟨g,hg⟩:=zx (E.g);have Ly:Hid (E.g=g):=hg.symm;rw[<-hg]at gb ⊢;obtain⟨cv,hcv⟩:=zx ((d.r 0).v);have HCV:Hid ((d.r 0).v=cv):=hcv.symm;have Fo:=gb.cell (i:=10) (v:=cv) (by rw[hcv];rfl);obtain⟨gx,Ar⟩:=zx (w.heap.size);have HGX:Hid (w.heap.size=gx):=Ar.symm;clear hE hn hsl h y1 gb hg hcv;go_enter Tryz.func110,Tryz.ntmps110;go_upto_region 1 with fail;generalize w.alloc (.cells #[.int .i64 x0,.int .i64 x1,.int .i64 x2,.int .i64 x3,.int .i64 x4,.int .i64 x5] 150 (0,0))=w1 at *;rw[<-Ar]at x1b ⊢;clear Ar;have Bi:∀wl,Below w1.heap.size w1 wl->wl.cell? ⟨g,10,none⟩=some cv/\wl.cell? ⟨gx,0,none⟩=some (.int .i64 x0)/\wl.cell? ⟨gx,1,none⟩=some (.int .i64 x1)/\wl.cell? ⟨gx,2,none⟩=some (.int .i64 x2)/\wl.cell? ⟨gx,3,none⟩=some (.int .i64 x3)/\wl.cell? ⟨gx,4,none⟩=some (.int .i64 x4)/\wl.cell? ⟨gx,5,none⟩=some (.int .i64 x5):=fun wl hb=>⟨aB Fo hb,aB (x1b.k 0) hb,aB (x1b.k 1) hb,aB (x1b.k 2) hb,aB (x1b.k 3) hb,aB (x1b.k 4) hb,aB (x1b.k 5) hb⟩;have Br:=Bi w1.drew (zD2 _ _).drew;refine rl 10 (S:=fun wl=>wl.cell? ⟨g,10,none⟩=some cv/\wl.cell? ⟨gx,0,none⟩=some (.int .i64 x0)/\wl.cell? ⟨gx,1,none⟩=some (.int .i64 x1)/\wl.cell? ⟨gx,2,none⟩=some (.int .i64 x2)/\wl.cell? ⟨gx,3,none⟩=some (.int .i64 x3)/\wl.cell? ⟨gx,4,none⟩=some (.int .i64 x4)/\wl.cell? ⟨gx,5,none⟩=some (.int .i64 x5)) A1 Br (fun Aa=>?_);refine la 0 ?_;refine la 1 ?_;refine la 2 ?_;try simp only[nrm]
 refine la 3 ?_;refine la 4 ?_;refine la 5 ?_;try simp only[nrm]
 try simp only[nrm]
 have xC:Blk (w1.alloc (.cells #[.int .i64 x0,.int .i64 x1,.int .i64 x2,.int .i64 x3,.int .i64 x4,.int .i64 x5] 150 (0,0))).drew w1.heap.size 150 [.int .i64 x0,.int .i64 x1,.int .i64 x2,.int .i64 x3,.int .i64 x4,.int .i64 x5]:=Blk.new w1 150 [.int .i64 x0,.int .i64 x1,.int .i64 x2,.int .i64 x3,.int .i64 x4,.int .i64 x5];have bc:Below w1.heap.size w1 (w1.alloc (.cells #[.int .i64 x0,.int .i64 x1,.int .i64 x2,.int .i64 x3,.int .i64 x4,.int .i64 x5] 150 (0,0))).drew:=((zD2 w1.heap.size w1).alloc (zB0 _) _).drew;have Fy:=Bi _ bc;refine da 6 fun K hK=>?_;go_simp;refine hK.out _ _ (Fy) (fun Aa=>?_);clear hK K;try simp only[nrm]
 have Et:Hid (GS E d (w1.alloc (.cells #[.int .i64 x0,.int .i64 x1,.int .i64 x2,.int .i64 x3,.int .i64 x4,.int .i64 x5] 150 (0,0))).drew):=HG.out.on HE.out (Y1.out.trans (bc.mono Y1.out.size));have HK2:Hid (Kt w (w1.alloc (.cells #[.int .i64 x0,.int .i64 x1,.int .i64 x2,.int .i64 x3,.int .i64 x4,.int .i64 x5] 150 (0,0))).drew):=Kt.below (Y1.out.trans (bc.mono Y1.out.size));generalize (w1.alloc (.cells #[.int .i64 x0,.int .i64 x1,.int .i64 x2,.int .i64 x3,.int .i64 x4,.int .i64 x5] 150 (0,0))).drew=w2 at *;generalize w1.heap.size=gy at *;have Au:w2.ownsRow E.w0.heap.size 150 6 cv (d.r 0).n (d.r 0).xs:=by have:=Et.out.row 0 A0;rw[HCV.out]at this;exact this
 refine da 7 fun K hK=>?_;rw[if_pos A1];refine mI aPj Tryz.underlying141 rfl A6 A6 _ _ rfl (v:=cv) rfl Au rfl xC rfl (wR HU.out) HN.out Et.out.bel.size ?_;intro g' c' w3 ho Al hl;have HO:Hid (w3.ownsRow E.w0.heap.size 150 6 (.slice (some ⟨g',0,none⟩) ((d.r 0).n+1) c') ((d.r 0).n+1) ((d.r 0).xs++[.int .i64 x0,.int .i64 x1,.int .i64 x2,.int .i64 x3,.int .i64 x4,.int .i64 x5])):=ho;have Ch:w2.grownBy w3 (d.r 0).v.ownBlock:=by rw[HCV.out];exact Al
 have HF:Hid (GS E ((d.at 0 d.s4).put 0 ⟨.slice (some ⟨g',0,none⟩) ((d.r 0).n+1) c',(d.r 0).n+1,(d.r 0).xs++[.int .i64 x0,.int .i64 x1,.int .i64 x2,.int .i64 x3,.int .i64 x4,.int .i64 x5]⟩) (w3.setCell ⟨g,10,none⟩ (.slice (some ⟨g',0,none⟩) ((d.r 0).n+1) c'))):=by
  have:=Et.out.put HE.out (i:=0) A0 (q:=(⟨.slice (some ⟨g',0,none⟩) ((d.r 0).n+1) c',(d.r 0).n+1,(d.r 0).xs++[Value.int .i64 x0,Value.int .i64 x1,Value.int .i64 x2,Value.int .i64 x3,Value.int .i64 x4,Value.int .i64 x5]⟩:RD)) Ch HO.out (fun b hb=>by
   have hb:some g'=some b:=hb;rw[HCV.out];cases hb;rcases hl with hl|hl
   .
    exact .inl hl
   .
    right;omega) 0 d.s4 (Et.out.el.more HSL.out HU.out)
  rw[Ly.out]at this;exact this
 have Yp:Hid (Kt w (w3.setCell ⟨g,10,none⟩ (.slice (some ⟨g',0,none⟩) ((d.r 0).n+1) c'))):=by
  have:=Et.out.kt (i:=0) A0 Ch (.slice (some ⟨g',0,none⟩) ((d.r 0).n+1) c');rw[Ly.out]at this;exact HK2.out.trans this
 have Tu:g<w2.heap.size:=by have:=Et.out.lt;rw[Ly.out]at this;exact this
 have Ew:w3.heap[g]?=w2.heap[g]?:=Ch.block g Tu (fun e=>Et.out.ng 0 g A0 e.symm Ly.out.symm);have b2:Blk w2 g 143 (cells E d):=by have:=Et.out.blk;rw[Ly.out]at this;exact this
 have b3:Blk w3 g 143 (cells E d):=Ew.trans b2;have Hx:=b3.cell (i:=10) (v:=cv) (by rw[<-HCV.out];rfl);have f10:=b3.free 10;have bx:∀i v,w2.cell? ⟨gx,i,none⟩=some v->w3.cell? ⟨gx,i,none⟩=some v:=fun i v hv=>Al.cell hv (fun e=>by
  have h9:=((HG.out.row 0 A0).lt gx (by rw[HCV.out];exact e.symm)).2;have:=HGX.out;omega)
 have h9:=(⟨Hx,bx 0 _ Fy.2.1,bx 1 _ Fy.2.2.1,bx 2 _ Fy.2.2.2.1,bx 3 _ Fy.2.2.2.2.1,bx 4 _ Fy.2.2.2.2.2.1,bx 5 _ Fy.2.2.2.2.2.2⟩:w3.cell? ⟨g,10,none⟩=some cv/\w3.cell? ⟨gx,0,none⟩=some (.int .i64 x0)/\w3.cell? ⟨gx,1,none⟩=some (.int .i64 x1)/\w3.cell? ⟨gx,2,none⟩=some (.int .i64 x2)/\w3.cell? ⟨gx,3,none⟩=some (.int .i64 x3)/\w3.cell? ⟨gx,4,none⟩=some (.int .i64 x4)/\w3.cell? ⟨gx,5,none⟩=some (.int .i64 x5))
 refine hK.out _ _ (h9) (fun Aa=>?_);clear hK K;try simp only[nrm]
 refine da 8 fun K hK=>?_;go_simp;refine hK.out _ _ (h9) (fun Aa=>?_);clear hK K;try simp only[nrm]
 refine la 9 ?_;try simp only[nrm]
 refine ea fun K hK=>?_;go_simp;refine hK.out _ _ ?_;clear hK K Aa;go_wp2_with fail;exact nY Tryz.results110 ⟨rfl,_,HF.out,Up.more d _ _,Yp.out,rfl,rfl,rfl,rfl,rfl⟩
end Cp
end
section
theorem A84{p:Prop}(h:p:=by have:=s.up.n1;omega):p:=h
theorem A88{p:Prop}(h:p:=by rw[<-e];rfl):p:=h
namespace Cp
structure St (E:En) (d:GD) (w:World) (c:Nat) (d':GD) (w':World):Prop where
 gs:GS E d' w'
 up:Up d d' c
 kt:Kt w w'
 sl:d'.sl=0
 s4:d'.s4=0
section
variable {E:En} {d d1:GD} {w w1 w2:World} {c:Nat} {Q:Ending->World->Prop}
theorem St.start (h:GS E d w)(h1:d.sl=0)(h2:d.s4=0):St E d w 0 d w:=⟨h,Up.refl d,Kt.refl w,h1,h2⟩
theorem St.on (s:St E d w c d1 w1)(hE:dX E)(hb:Below w1.heap.size w1 w2):St E d w c d1 w2:=⟨s.gs.on hE hb,s.up,s.kt.trans (Kt.below hb),s.sl,s.s4⟩
theorem St.dN (s:St E d w c d1 w1)(hE:dX E)(n:Nat):St E d w c d1 (w1.drewN n):=s.on hE ⟨rfl,rfl,rfl,zB0 _,fun _ _=>rfl⟩
theorem St.wide {c':Nat}(s:St E d w c d1 w1)(hc:c<=c'):St E d w c' d1 w1:=⟨s.gs,s.up.wide hc,s.kt,s.sl,s.s4⟩
theorem St.b {g:Nat}{T:TypeId}{vs:List Value}(s:St E d w c d1 w1)(hb:Blk w g T vs)(hm:aGx T=false:=by decide):Blk w1 g T vs:=s.kt.b hm hb
theorem St.trans {c':Nat}{d2:GD}{w2:World}(s:St E d w c d1 w1)(t:St E d1 w1 c' d2 w2):St E d w (c+c') d2 w2:=⟨t.gs,s.up.trans t.up,s.kt.trans t.kt,t.sl,t.s4⟩
theorem St.bel (s:St E d w c d1 w1):Below E.w0.heap.size E.w0 w1:=s.gs.bel
theorem eO (hE:dX E)(s:St E d w c d1 w1)(hn:(d.r 0).n+c<=1000000){x0 x1 x2 x3 x4 x5:Int}(k:∀d' w',St E d w (c+1) d' w'->Q (.returned (.tuple #[])) w'):
  Calls Tryz.prog 110 #[.pointer (some ⟨E.g,0,none⟩),.agg #[.int .i64 x0,.int .i64 x1,.int .i64 x2,.int .i64 x3,.int .i64 x4,.int .i64 x5]] w1 Q:=by
 refine(aRw hE s.gs (by have:=s.sl;omega) A84 x0 x1 x2 x3 x4 x5).mono ?_;rintro e w' ⟨rfl,d',a1,a2,a3,a4,a5,_⟩;exact k d' w' ⟨a1,s.up.trans a2,s.kt.trans a3,a4,a5.trans s.s4⟩
theorem St.code (s:St E d w c d1 w1):∃a n q,(d1.r 0).v=.slice a n q/\(d1.r 0).n=n/\n<=(d.r 0).n+c/\(d.r 0).n<=n/\w1.cell? ⟨E.g,10,none⟩=some (.slice a n q):=by
 obtain⟨a,q,e,_⟩:=aH (s.gs.row 0 A0);exact⟨a,_,q,e,rfl,s.up.n1,s.up.n0,s.gs.blk.cell (i:=10) (v:=.slice a _ q) A88⟩
theorem GS.proc (h:GS E d w):∃a n q b m r,d.p.params.length=n/\d.p.locals.length=m/\w.cell? ⟨E.g,7,none⟩=some (.slice a n q)/\w.cell? ⟨E.g,8,none⟩=some (.slice b m r)/\n<=q/\q<=maxLen/\m<=r/\r<=maxLen:=by
 obtain⟨y0,_,e0,_,y1,_,e1,_,y2,_,e2,h2,y3,_,e3,h3,y4,_,e4,_,_⟩:=h.el.rp;simp only[GD.ps,zJ2]at e0;obtain⟨rfl,rfl⟩:=e0;simp only[zJ2]at e1;obtain⟨rfl,rfl⟩:=e1;simp only[zJ2]at e2;obtain⟨e2,rfl⟩:=e2;simp only[zJ2]at e3;obtain⟨e3,_⟩:=e3;obtain⟨a,q,e5,h5,h6,_⟩:=h2;obtain⟨b,r,e6,h7,h8,_⟩:=h3;rw[zB2]at e5 h5;have hl:(dI d.p.locals).length=d.p.locals.length:=by simp[dI]
 rw[hl]at e6 h7;exact⟨a,_,q,b,_,r,rfl,rfl,h.blk.cell (i:=7) (v:=.slice a _ q) (by rw[<-e5,<-e2];rfl),h.blk.cell (i:=8) (v:=.slice b _ r) (by rw[<-e6,<-e3];rfl),h5,h6,h7,h8⟩
theorem St.most (s:St E d w c d1 w1)(hE:dX E)(x:Int):St E d w c { d1 with mo:=x } (w1.setCell ⟨E.g,12,none⟩ (.int .i64 x)):=by
 have e:=s.gs.el;exact⟨s.gs.own hE (d':={ d1 with mo:=x }) (cs:=[.int .i64 x]) (o:=12) rfl (s.gs.blk.set (i:=12) (.int .i64 x)) ⟨e.e0,e.e1,e.e2,e.n2,e.e3,e.m3,e.e4,e.n4,e.rp,e.hl⟩,⟨s.up.p,s.up.fr,s.up.r1,s.up.r2,s.up.n0,s.up.n1,s.up.n3,s.up.x3,s.up.x4⟩,s.kt.trans (s.gs.kto [.int .i64 x] 12),s.sl,s.s4⟩
set_option maxHeartbeats 4000000 in
theorem vQ (hE:dX E)(s:St E d w c d1 w1){t:Int}(k:∀x d' w',St E d w c d' w'->Q (.returned (.int .i64 x)) w'):Calls Tryz.prog 176 #[.pointer (some ⟨E.g,0,none⟩),.int .i64 t] w1 Q:=by
 have HE:=hid hE;have HK:=hid k;have c12:=s.gs.blk.k 12;have f12:=s.gs.blk.free 12;obtain⟨a,n,q,b,m,r,_,_,c7,c8,hn,hq,hm,hr⟩:=s.gs.proc;unfold maxLen at hq hr;have S2:Hid (St E d w c { d1 with mo:=wrap64 (t+1) } (w1.setCell ⟨E.g,12,none⟩ (.int .i64 (wrap64 (t+1))))):=s.most HE.out _;obtain⟨_,_,_,_,_,_,_,_,k7,k8,_⟩:=S2.out.gs.proc;have k7':(w1.setCell ⟨E.g,12,none⟩ (.int .i64 (wrap64 (t+1)))).cell? ⟨E.g,7,none⟩=some (.slice a n q):=by rw[World.cell?_setCell_other _ _ _ _ (by intro e;cases e)];exact c7
 have k8':(w1.setCell ⟨E.g,12,none⟩ (.int .i64 (wrap64 (t+1)))).cell? ⟨E.g,8,none⟩=some (.slice b m r):=by rw[World.cell?_setCell_other _ _ _ _ (by intro e;cases e)];exact c8
 have HS:=hid s;obtain⟨mo,hmo⟩:=zx (d1.mo);rw[<-hmo]at c12;clear k s k7 k8 hE hmo;by_cases Ad:mo<wrap64 (t+1)
 .
  go_enter Tryz.func176,Tryz.ntmps176;go_wp2_with fail;generalize w1.setCell ⟨E.g,12,none⟩ (.int .i64 (wrap64 (t+1)))=w2 at *;clear c12 f12 c7 c8;go_quiet (fail);go_wp2_with fail;exact HK.out _ _ _ (S2.out.dN HE.out _)
 .
  clear k7' k8' f12;go_enter Tryz.func176,Tryz.ntmps176;go_wp2_with fail;go_quiet (fail);go_wp2_with fail;exact HK.out _ _ _ (HS.out.dN HE.out _)
end
end Cp
end
section
theorem A73{p:Prop}(h:p:=by rw[HV.out];omega):p:=h
theorem QA129{p:Prop}(h:p:=by
 go_enter Tryz.func54,Tryz.ntmps54
 go_wp2_with fail
 exact HK.out _ _ y1):p:=h
namespace Cp
section
variable {E:En} {d d1:GD} {w w1 w2:World} {c:Nat} {Q:Ending->World->Prop}
theorem vT (hE:dX E)(s0:St E d w c d1 w1)(hn:(d.r 0).n+c+8<=1000000)(k:∀d' w',St E d w (c+8) d' w'->Q (.returned (.tuple #[])) w'):Calls Tryz.prog 112 #[.pointer (some ⟨E.g,0,none⟩)] w1 Q:=by
 have HE:=hid hE;have HK:=hid k;clear k hE;go_enter Tryz.func112,Tryz.ntmps112;go_wp2_with fail;refine eO HE.out s0 A0 (fun dr1 wr1 sr1=>?_);clear s0;go_wp2_with fail;refine eO HE.out sr1 A0 (fun dr2 wr2 sr2=>?_);clear sr1;go_wp2_with fail;refine eO HE.out sr2 A0 (fun dr3 wr3 sr3=>?_);clear sr2;obtain⟨ca4,cn4,cq4,_,_,hcu4,hcl4,Fo⟩:=sr3.code;go_wp2_with fail;clear Fo;refine eO HE.out sr3 A0 (fun dr4 wr4 sr4=>?_);clear sr3;go_wp2_with fail;refine eO HE.out sr4 A0 (fun dr5 wr5 sr5=>?_);clear sr4;go_wp2_with fail;refine eO HE.out sr5 A0 (fun dr6 wr6 sr6=>?_);clear sr5;go_wp2_with fail;refine eO HE.out sr6 A0 (fun dr7 wr7 sr7=>?_);clear sr6;go_wp2_with fail;refine eO HE.out sr7 A0 (fun dr8 wr8 sr8=>?_);clear sr7;go_wp2_with fail;exact nY Tryz.results112 (HK.out _ _ sr8)
theorem aJ6 {W:World}{m:Mo}{m0 m1 m2 m3:Value}(h:aL W m.fl [m0,m1,m2,m3]):∃a n q,m2=.slice a n q/\m.vars.length=n/\aW W a q 2 (m.vars.map Va.fl):=by
 obtain⟨y0,_,e0,_,y1,_,e1,_,y2,_,e2,h2,_⟩:=h;simp only[zJ2]at e0;obtain⟨rfl,rfl⟩:=e0;simp only[zJ2]at e1;obtain⟨rfl,rfl⟩:=e1;simp only[zJ2]at e2;obtain⟨rfl,_⟩:=e2;obtain⟨a,q,e,hL⟩:=h2.list;exact⟨a,_,q,by rw[e,zB2],rfl,hL⟩
theorem aJ7 {W:World}{m:Mo}{a:Option Addr}{q i:Nat}(h:aW W a q 2 (m.vars.map Va.fl))(hi:i<m.vars.length):∃b off nv x,a=some ⟨b,off,none⟩/\W.cell? ⟨b,off+i*2,none⟩=some nv/\W.cell? ⟨b,off+i*2+1,none⟩=some (.int .i64 x):=by
 obtain⟨v,hv⟩:∃v,m.vars[i]?=some v:=⟨_,zA0 hi⟩
 obtain⟨b,off,vs,e,hr,hc⟩:=h.cellsAt (show(m.vars.map Va.fl)[i]?=some v.fl by rw[zA2,hv];rfl);obtain⟨v0,_,rfl,_,v1,_,rfl,rfl,rfl⟩:=hr;exact⟨b,off,v0,_,e,hc 0 _ rfl,hc 1 _ rfl⟩
theorem dN9 (w:World)(n:Nat):Below w.heap.size w (w.drewN n):=⟨rfl,rfl,rfl,zB0 _,fun _ _=>rfl⟩
theorem aNq (a:Option Addr)(n q:Nat)(x:Int)(w:World)(k:∀y w',Below w.heap.size w w'->Q (.returned (.int .i64 y)) w'):Calls Tryz.prog 54 #[.agg #[.slice a n q,.int .i64 x]] w Q:=by
 have HK:=hid k;have y1:Below w.heap.size w (w.alloc (.cells #[.slice a n q,.int .i64 x] 147 (0,0))):=(zD2 _ _).alloc (zB0 _) _;clear k;by_cases hx:x=0
 .
  subst hx;exact QA129
 .
  have hb:(x == 0)=false:=by simpa using hx
  exact QA129
theorem wG (hE:dX E)(s:St E d w c d1 w1){v:Int}(hv:v<=E.m.vars.length)(k:∀y w',Below w1.heap.size w1 w'->Q (.returned (.int .i64 y)) w'):Calls Tryz.prog 175 #[.pointer (some ⟨E.g,0,none⟩),.int .i64 v] w1 Q:=by
 have HK:=hid k;obtain⟨av,nv,qv,em,Jr,hL⟩:=aJ6 hE.rm;obtain⟨ai,qi,ei,_⟩:=aH (s.gs.row 1 A0);have HV:=hid Jr;have Wg:v<=nv:=by rw[<-Jr];exact hv
 have hn8:nv<=8:=by rw[<-Jr];exact hE.ok.vars
 have HL:=hid (aW.below hL (s.bel));obtain⟨ni,Mf⟩:=zx ((d1.r 1).n);rw[<-Mf]at ei;have c13:w1.cell? ⟨E.g,13,none⟩=some (.slice ai ni qi):=s.gs.blk.cell (i:=13) (by rw[<-ei];rfl);have c2:w1.cell? ⟨E.g,2,none⟩=some (.slice av nv qv):=s.gs.blk.cell (i:=2) (by rw[<-em];rfl);have C2:=hid c2;clear k s hE hv Jr hL em ei Mf c2;go_enter Tryz.func175,Tryz.ntmps175;go_wp2_with fail;clear c13;go_loopw [5,6] (fun at0 i wr=>∃(j:Nat) (z:Int),(j:Int)<=max v 0/\i=.int .i64 j/\at0=.int .i64 z/\Hid (Below w1.heap.size w1 wr)) (fun _ i _=>v.toNat-(intOf i).toNat)
 case atStart=>exact⟨0,_,by omega,rfl,rfl,zD2 _ _⟩
 case round=>
  obtain⟨j,z,hj,rfl,rfl,Hb⟩:=hrel;by_cases Ad:(j:Int)<v
  .
   obtain⟨b,off,nm,x,rfl,r0,r1⟩:=aJ7 (aW.below HL.out Hb.out) (i:=j) A73;have c2:=aB C2.out Hb.out;obtain⟨an,nn,qn,rfl⟩:∃a n q,nm=.slice a n q:=by
    obtain⟨b',Kw,nm',x',e',q0,_⟩:=aJ7 (aW.below HL.out Hb.out) (i:=j) A73;cases e';obtain⟨vv,Sx⟩:∃vv,E.m.vars[j]?=some vv:=⟨_,zA0 A73⟩
    obtain⟨b9,o9,vs,e9,hr9,Th⟩:=(aW.below HL.out Hb.out).cellsAt (show(E.m.vars.map Va.fl)[j]?=some vv.fl by rw[zA2,Sx];rfl);cases e9;obtain⟨v0,_,rfl,⟨a7,c7,rfl,_⟩,_⟩:=hr9;have:=Th 0 _ rfl;rw[zG1,r0]at this;cases this;exact⟨_,_,_,rfl⟩
   go_wp2_with fail;refine aNq _ _ _ _ _ (fun y w2 hb2=>?_);have H2:=hid (Hb.out.trans (hb2.mono Hb.out.size));clear c2 r0 r1 hb2 Hb;go_wp2;go_roundw
   case rel=>exact⟨j+1,_,by omega,by go_num,rfl,H2⟩
   case measure=>simp[intOf];omega
  .
   go_wp2_with fail;exact HK.out _ _ Hb.out
theorem zQ {l:List (List Int)}{x:List Int}:ixI l x<l.length/\-1<=ixI l x:=by
 cases h:ix l x with
 | none=>rw[dF h];omega| some i=>have:=(zC1.1 (wO h).1).1;rw[cJ h];omega
theorem aPe {l:List (List Int)}{x:List Int}(h:ixI l x<0):ix l x=none:=by
 unfold ixI at h;cases hi:ix l x with
 | none=>rfl| some i=>rw[hi]at h;exact absurd h (by show ¬((i:Int)<0);omega)
theorem aKh (hE:dX E)(s:St E d w c d1 w1){a:Option Addr}{n q:Nat}(x:List Int)(hx:aV w1 a n x)(k:∀(z:Int) w',Below w1.heap.size w1 w'->(z<0->ix (d1.p.params.map Pa.name) x=none)->Q (.returned (.int .i64 z)) w'):Calls Tryz.prog 174 #[.pointer (some ⟨E.g,0,none⟩),.slice a n q] w1 Q:=by
 have HK:Hid (∀(z:Int) w',Below w1.heap.size w1 w'->(z<0->ix (d1.p.params.map Pa.name) x=none)->Q (.returned (.int .i64 z)) w'):=k;have HB:Hid (Below E.w0.heap.size E.w0 w1):=s.bel;have HX:Hid (aV w1 a n x):=hx;have hp:=s.gs.el.rp;have hl:=s.gs.el.hl;have HP:=rT d1.p d1.ps w1 (aL.below hp (s.bel)) a n q x hx;have HQ:∀w2,Below w1.heap.size w1 w2->_:=fun w2 hb=>zL d1.p d1.ps w2 (aL.below (aL.below hp (s.bel)) hb) a n q x (hx.below hb);obtain⟨ap,np,qp,bl,ml,rl,Eu,Qj,c7,c8,_⟩:=s.gs.proc;have hb:=s.gs.blk;have C7:Hid (w1.cell? ⟨E.g,7,none⟩=some (.slice ap np qp)):=c7;have C5:Hid (w1.cell? ⟨E.g,5,none⟩=some d1.p0/\w1.cell? ⟨E.g,6,none⟩=some d1.p1/\w1.cell? ⟨E.g,7,none⟩=some d1.p2/\w1.cell? ⟨E.g,8,none⟩=some d1.p3/\w1.cell? ⟨E.g,9,none⟩=some d1.p4):=⟨hb.k 5,hb.k 6,hb.k 7,hb.k 8,hb.k 9⟩
 have hnp4:np<=4:=by rw[<-Eu];exact hl.1
 have hml8:ml<=8:=by rw[<-Qj];exact hl.2
 have Io:=(zQ (l:=d1.p.params.map Pa.name) (x:=x));have Il:=(zQ (l:=d1.p.locals) (x:=x));rw[zB2,Eu]at Io;rw[Qj]at Il;have HN:Hid (ixI (d1.p.params.map Pa.name) x<0->ix (d1.p.params.map Pa.name) x=none):=aPe;generalize hi1:ixI (d1.p.params.map Pa.name) x=i1 at *;generalize Wm:ixI d1.p.locals x=i2 at *;obtain⟨k5,k6,k7,k8,k9⟩:=C5.out;simp only[GD.ps,agg,List.toArray]at HP HQ;clear k s hE hx hp hl Eu Qj hb hi1 Wm c7 c8;go_enter Tryz.func174,Tryz.ntmps174;go_wp2_with fail;refine HP.mono ?_;rintro e w2 ⟨rfl,hg2⟩;have B2:Hid (Below w1.heap.size w1 w2):=aA hg2;clear HP hg2 k5 k6 k7 k8 k9;by_cases h1:0<=i1
 .
  have c7:=aB C7.out B2.out;go_wp2_with fail;exact HK.out _ _ B2.out (fun h=>by omega)
 .
  have HF:=HN.out A0;have k5:=aB C5.out.1 B2.out;have k6:=aB C5.out.2.1 B2.out;have k7:=aB C5.out.2.2.1 B2.out;have k8:=aB C5.out.2.2.2.1 B2.out;have k9:=aB C5.out.2.2.2.2 B2.out;have Pv:=HQ w2 B2.out;have HFF:Hid (ix (d1.p.params.map Pa.name) x=none):=HF;clear HQ HF;go_wp2_with fail;refine Pv.mono ?_;rintro e w3 ⟨rfl,Bm⟩;have B3:Hid (Below w1.heap.size w1 w3):=B2.out.trans ((aA Bm).mono B2.out.size);clear Pv Bm k5 k6 k7 k8 k9;by_cases h2:0<=i2
  .
   have c7:=aB C7.out B3.out;go_wp2_with fail;exact HK.out _ _ B3.out (fun h=>HFF.out)
  .
   go_wp2_with fail;exact HK.out _ _ B3.out (fun h=>HFF.out)
end
end Cp
end
section
namespace Cp
theorem M949{p q:Prop}(k:q)(h:Kx q->p:=by
 intro kQz
 refine ta 0 ?_
 refine ta 1 ?_
 refine ta 2 ?_
 try simp only[nrm]
 refine ta 3 ?_
 exact kQz.o):p:=h ⟨k⟩
section
variable {E:En} {d d1:GD} {w w1 w2:World} {c:Nat} {Q:Ending->World->Prop}
set_option maxHeartbeats 16000000 in
theorem aAx (hE:dX E)(s:St E d w c d1 w1)(hn:(d.r 0).n+c+1<=1000000){a:Option Addr}{n q:Nat}(x:List Int)(hx:aV w1 a n x)(ha:aFc E.m d1.p x=true)(r:Int)(k:∀d' w',St E d w (c+1) d' w'->Q (.returned (.tuple #[])) w'):Calls Tryz.prog 177 #[.pointer (some ⟨E.g,0,none⟩),.slice a n q,.int .i64 r] w1 Q:=by
 have HE:=hid hE;have HK:=hid k;have HX:=hid hx;have HA:=hid ha;obtain⟨av,nv,qv,em,Jr,hL⟩:=aJ6 hE.rm;have HV:=hid Jr;have HL:=hid hL;have HM:=hid (aL.below hE.rm s.bel);have hn8:nv<=8:=by rw[<-Jr];exact hE.ok.vars
 obtain⟨c0,c1⟩:=s.gs.blk.c2;have c2:w1.cell? ⟨E.g,2,none⟩=some (.slice av nv qv):=s.gs.blk.cell (i:=2) (by rw[<-em];rfl);have c3:=s.gs.blk.k 3;have HC:Hid (w1.cell? ⟨E.g,0,none⟩=some E.m0/\w1.cell? ⟨E.g,1,none⟩=some E.m1/\w1.cell? ⟨E.g,2,none⟩=some (.slice av nv qv)/\w1.cell? ⟨E.g,3,none⟩=some E.m3):=⟨c0,c1,c2,c3⟩
 have Jp:=hid em;clear k hE hx ha Jr hL em c0 c1 c2 c3;go_enter Tryz.func177,Tryz.ntmps177;go_wp2_with fail;refine aKh HE.out s x HX.out (fun z w2 hb2 hz=>?_);have s2:=s.on HE.out hb2;have Ei:=hid hb2;have HZ:=hid hz;clear s hb2 hz;by_cases h0:0<=z
 .
  go_wp2_with fail;refine eO HE.out s2 A0 (fun d' w' s'=>?_);go_wp2_with fail;exact aKr Tryz.results177 (HK.out _ _ s')
 .
  obtain⟨i,hi⟩:∃i,ix (E.m.vars.map Va.name) x=some i:=by
   have h1:=HA.out;unfold aFc at h1;rw[HZ.out A0,Option.isSome_none,Bool.false_or]at h1;exact Option.isSome_iff_exists.1 h1
  have Wk:=(zC1.1 (wO hi).1).1;rw[zB2,HV.out]at Wk;have HQ:=uF E.m E.ms w2 (aL.below HM.out Ei.out) a n q x (HX.out.below Ei.out);rw[cJ hi]at HQ;simp only[En.ms,agg,List.toArray]at HQ;have HQ':=hid HQ;have k0:=aB HC.out.1 Ei.out;have k1:=aB HC.out.2.1 Ei.out;have k2:=aB HC.out.2.2.1 Ei.out;have k3:=aB HC.out.2.2.2 Ei.out;rw[Jp.out]at HQ;clear hi HQ';go_wp2_with fail;refine HQ.mono ?_;rintro e w3 ⟨rfl,Bm⟩;have Iz:=aA Bm;have s3:=s2.on HE.out Iz;have Bn:=hid (Ei.out.trans (Iz.mono Ei.out.size));clear HQ Bm Iz k0 k1 k2 k3 s2 Ei;obtain⟨b,off,nm,sx,rfl,r0,r1⟩:=aJ7 HL.out (i:=i) (by rw[HV.out];exact Wk);have R1:=hid r1;have r0:=aB r0 s3.bel;have r1:=aB r1 s3.bel;have c2:=aB HC.out.2.2.1 Bn.out;clear r0;go_wp2_with fail;have An:w3.drew.cell? ⟨E.g,2,none⟩=some (.slice (some ⟨b,off,none⟩) nv qv)/\w3.drew.cell? ⟨b,off+i*2+1,none⟩=some (.int .i64 sx):=⟨c2,r1⟩
  refine zJ3 (S:=fun wl=>wl.cell? ⟨E.g,2,none⟩=some (.slice (some ⟨b,off,none⟩) nv qv)/\wl.cell? ⟨b,off+i*2+1,none⟩=some (.int .i64 sx)) A1 An (fun Aa=>?_);have s3d:St E d w c d1 w3.drew:=s3.on HE.out (zD2 _ _).drew;refine M949 ?_;refine ta 5 ?_;refine ta 6 ?_;try simp only[nrm]
  refine ta 7 ?_;refine ta 8 ?_;refine ta 9 ?_;try simp only[nrm]
  refine ta 10 ?_;refine ta 11 ?_;refine ta 12 ?_;try simp only[nrm]
  refine ta 13 ?_;try simp only[nrm]
  refine ra 4 fun K hK=>?_;go_simp;refine wG HE.out s3d A73 (fun y w4 Eo=>?_);have s4:=s3d.on HE.out Eo;have Cn:w4.cell? ⟨E.g,2,none⟩=some (.slice (some ⟨b,off,none⟩) nv qv)/\w4.cell? ⟨b,off+i*2+1,none⟩=some (.int .i64 sx):=⟨aB An.1 Eo,aB An.2 Eo⟩
  go_wp2_with fail;refine hK.out _ _ (Cn) (fun Aa=>?_);clear hK K;try simp only[nrm]
  refine ta 14 ?_;try simp only[nrm]
  refine ra 15 fun K hK=>?_;go_simp;refine eO HE.out s4 A0 (fun d' w' s'=>?_);have Fc:w'.cell? ⟨E.g,2,none⟩=some (.slice (some ⟨b,off,none⟩) nv qv)/\w'.cell? ⟨b,off+i*2+1,none⟩=some (.int .i64 sx):=by
   exact⟨s'.gs.blk.cell (i:=2) (by rw[<-Jp.out];rfl),aB R1.out s'.bel⟩
  go_wp2_with fail;refine hK.out _ _ (Fc) (fun Aa=>?_);clear hK K;try simp only[nrm]
  refine zK0 A1 ?_ _;go_wp2_with fail;exact nY Tryz.results177 (HK.out _ _ s')
end
end Cp
end
end Go.Proofs.YtcbhdhmhidpdgaaGreatDoor

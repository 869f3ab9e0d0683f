import Derived.Test.YtegkhlkjfeafjaaGreatDoorPackI
import Derived.Test.YtegkhlkjfeafjaaGreatDoorSpEx
import Derived.Test.YtegkhlkjfeafjaaGreatDoorPackQ
namespace Go.Proofs.YtegkhlkjfeafjaaGreatDoor
open Go.RowKit
set_option linter.unusedVariables false
set_option linter.unusedSimpArgs false
set_option maxRecDepth 100000
theorem V42{p:Prop}(h:p:=by rw[jV,if_neg (by decide),if_pos (by decide),if_neg (by rw[hv];decide)]):p:=h
theorem V54{p:Prop}(h:p:=by rw[jV,if_neg (by decide),if_pos (by decide),if_pos hv]):p:=h
theorem U20{p:Prop}(h:p:=by
 rw[hv]at H1
 clear hv
 go_wp2_with fail
 refine H1.mono ?_
 rintro r w2 ⟨rfl,hg⟩
 clear H1 n0 n3 k0 k1 k2 k3 q0 q1 q2 q3 q4 z0 z1 z2
 go_wp2_with fail
 exact HKK.out 0 w2 _ _ _ _ _ _ _ _ _ _ _ _ _ _ _ _ _ _ _ _ _ _ _ _ _ _ _ _ _ _ _ _ _ _ _ _ _ _ _ _ _ _ _ _ _ _ _ _ _ _ _ _ _ _ _ _ _ _ _ _ _ _ _ _ _ _ hg HF.out):p:=h
theorem U284{p:Prop}(h:p:=by
 rw[hv]at H1
 clear hv HKK
 go_wp2_with fail
 refine H1.mono ?_
 rintro r w2 ⟨rfl,hg⟩
 have yg:=aD y0 hg
 clear H1 n0 n3 k0 k1 k2 k3 q0 q1 q2 q3 q4 z0 z1 z2 hg
 go_wp2
 go_ret
 exact⟨aQ HF.out.symm,yg⟩):p:=h
theorem U321{p:Prop}(h:p:=by
 go_enter Tryz.func40,Tryz.ntmps40
 go_wp2
 go_ret
 exact⟨aQ HF.out.symm,rfl⟩):p:=h
theorem U96{p:Prop}(h:p:=by
 go_wp2_with fail
 exact HKK.out z wr _ _ _ _ _ _ _ _ _ _ _ _ _ _ _ _ _ _ _ _ _ _ _ _ _ _ _ _ _ _ _ _ _ _ _ _ _ _ _ _ _ _ _ _ _ _ _ _ _ _ _ _ _ _ _ _ _ _ _ _ _ _ _ _ _ _ Hg.out HEQ.out):p:=h
theorem U126{p:Prop}(h:p:=by
 clear hne
 go_wp2_with fail
 exact H0 _ _ _ _ _ _ _ _ _ _ _ _ _ _ _ _ _ _ _ _ _ _ _ _ _ _ _ _ _ _ _ _ _ _ _ _ _):p:=h
theorem M976{p q:Prop}(k:q)(h:Kx q->p:=by
 intro kQ
 have r0:=aB (Ab 0 _ rfl) bw
 have r1:=aB (Ab 1 _ rfl) bw
 have r2:=aB (Ab 2 _ rfl) bw
 have r3:=aB (Ab 3 _ rfl) bw
 have r4:=aB (Ab 4 _ rfl) bw
 revert r4;revert r3;revert r2;revert r1;revert r0
 exact kQ.o):p:=h ⟨k⟩
theorem M9209{p q:Prop}(k:q)(h:Kx q->p:=by
 intro kQ
 have n0:=z2.k 0
 have n3:=z2.k 3
 obtain⟨k0,k1,k2,k3⟩:=z0.c4
 obtain⟨q0,q1,q2,q3,q4⟩:=z1.c5
 have H1:=nR m p _ _ w1 (HE.out.rm.below (aA y0)) (HE.out.rp.below (aA y0)) an name.length cn name (bW.below HBN.out (aA y0))
 simp only[agg,List.toArray]at H1
 revert H1;revert q4;revert q3;revert q2;revert q1;revert q0;revert k3;revert k2;revert k1;revert k0;revert n3;revert n0
 exact kQ.o):p:=h ⟨k⟩
theorem M9245{p q:Prop}(k:q)(h:Kx q->p:=by
 intro kQ
 rintro r w4 ⟨rfl,Bg⟩
 have b4:Below wr.heap.size wr w4:=(zD2 wr.heap.size wr).drew.trans (aA Bg)
 have HS4:=HS b4
 revert HS4;revert b4;revert Bg;revert w4
 exact kQ.o):p:=h ⟨k⟩
def dE (a b:Int):Int:=if a=2\/b=2 then 2 else if b<a then a else b
def Ex.kd:Ex->Int
 | .mk k _ _ _ _=>k
def jR (ks:List Int)(kids:List Ex)(i:Nat):Bool:=(List.range i).any fun j=>(ks[j]?.getD 0 == 1) != ((kids[j]?.map Ex.kd).getD 0 == 7)
def aEo (ks:List Int)(kids:List Ex):Bool:=decide (ks.length ≠ kids.length) || jR ks kids (min ks.length kids.length)
def hdC (m:Mo)(fs:List Fa)(p:Pr):Ex->Option Int
 | .mk k _ mod name kids=>
  if k=1 then (if sgl m p name=true then some 0 else none)
  else if k=2\/k=5\/k=7 then (if arq m p name=true then some 0 else none)
  else if k=6 then (fO m fs mod name).map fun ks=>if aEo ks kids=true then 4 else 0
  else some 0
theorem jV (m:Mo)(fs:List Fa)(p:Pr)(k n:Int)(mod name:List Int)(kids:List Ex):hdC m fs p (.mk k n mod name kids) =
  if k=1 then (if sgl m p name=true then some 0 else none)
  else if k=2\/k=5\/k=7 then (if arq m p name=true then some 0 else none)
  else if k=6 then (fO m fs mod name).map fun ks=>if aEo ks kids=true then 4 else 0
  else some 0:=rfl
mutual
def exC (m:Mo)(fs:List Fa)(p:Pr):Ex->Int
 | .mk k n mod name kids=>match hdC m fs p (.mk k n mod name kids) with
  | none=>2
  | some c=>jC m fs p c kids
def jC (m:Mo)(fs:List Fa)(p:Pr):Int->List Ex->Int
 | c,[]=>c
 | c,e :: l=>jC m fs p (dE c (exC m fs p e)) l
end
theorem uZ (m:Mo)(fs:List Fa)(p:Pr)(c:Int)(l r:List Ex):jC m fs p c (l++r)=jC m fs p (jC m fs p c l) r:=by
 induction l generalizing c with
 | nil=>simp[jC]
 | cons e l ih=>simp[jC,ih]
theorem tA {m:Mo}{fs:List Fa}{p:Pr}{c:Int}{l:List Ex}{j:Nat}{e:Ex}(h:l[j]?=some e):jC m fs p c (l.take (j+1))=dE (jC m fs p c (l.take j)) (exC m fs p e):=by
 obtain⟨hj,rfl⟩:=zC1.1 h;rw[zF1 hj,uZ]
 simp[jC]
theorem kI {m:Mo}{fs:List Fa}{p:Pr}{k n:Int}{mod name:List Int}{kids:List Ex}(h:hdC m fs p (.mk k n mod name kids)=none):exC m fs p (.mk k n mod name kids)=2:=by unfold exC;rw[h]
theorem iX {m:Mo}{fs:List Fa}{p:Pr}{k n c:Int}{mod name:List Int}{kids:List Ex}(h:hdC m fs p (.mk k n mod name kids)=some c):exC m fs p (.mk k n mod name kids)=jC m fs p c kids:=by unfold exC;rw[h]
theorem uJ (ks:List Int)(kids:List Ex)(i:Nat):jR ks kids (i+1)=(jR ks kids i || ((ks[i]?.getD 0 == 1) != ((kids[i]?.map Ex.kd).getD 0 == 7))):=by
 unfold jR;rw[List.range_succ,List.any_append]
 simp
theorem bdn {B:Nat}{a w:World}(h:Below B a w)(n:Nat):Below B a (w.drewN n):=h.trans ⟨rfl,rfl,rfl,zB0 _,fun _ _=>rfl⟩
theorem rS (a b:Int)(w:World):Calls Tryz.prog 40 #[.int .i64 a,.int .i64 b] w fun e w'=>e=.returned (.int .i64 (dE a b))/\w'=w:=by
 by_cases h1:a=2
 .
  have HF:Hid (dE a b=2):=if_pos (.inl h1)
  subst h1;exact U321
 .
  have g1:(a == 2)=false:=by simpa using h1
  by_cases h2:b=2
  .
   have HF:Hid (dE a b=2):=if_pos (.inr h2)
   subst h2;exact U321
  .
   have g2:(b == 2)=false:=by simpa using h2
   by_cases h3:b<a
   .
    have HF:Hid (dE a b=a):=(if_neg V6).trans (if_pos h3)
    clear h1 h2;exact U321
   .
    have HF:Hid (dE a b=b):=(if_neg V6).trans (if_neg h3)
    clear h1 h2;exact U321
structure Env (w:World) (m:Mo) (fs:List Fa) (p:Pr) (vs us:List Value) (b:Option Addr) (nf d:Nat):Prop where
 rm:aO w m.fl vs
 rp:aO w p.fl us
 rf:aS w b d 2 (fs.map Fa.fl)
 fl:fs.length=nf
 pl:∀q ∈ m.procs,q.params.length<=1048576
theorem Env.below {w w':World}{m:Mo}{fs:List Fa}{p:Pr}{vs us:List Value}{b:Option Addr}{nf d:Nat}(h:Env w m fs p vs us b nf d)(hb:Below w.heap.size w w'):Env w' m fs p vs us b nf d:=
 ⟨h.rm.below hb,h.rp.below hb,h.rf.below hb,h.fl,h.pl⟩
def aLf (m:Mo)(fs:List Fa)(p:Pr)(e:Ex):Prop:=∀(w:World) (vs us es:List Value) (b:Option Addr) (nf d:Nat),Env w m fs p vs us b nf d->aO w e.fl es →
 Calls Tryz.prog 78 #[agg vs,.slice b nf d,agg us,agg es] w fun r w'=>r=.returned (.int .i64 (exC m fs p e))/\w.grownBy w' none
set_option maxHeartbeats 16000000 in
theorem aIe (m:Mo)(fs:List Fa)(p:Pr)(x0 x1:Int)(mod name:List Int)(kids:List Ex)(IH:∀e ∈ kids,aLf m fs p e):aLf m fs p (.mk x0 x1 mod name kids):=by
 intro w vs us es b nf d hE he
 obtain⟨v0,v1,v2,v3,rfl⟩:=mO (hE.rm.len.trans (show m.fl.length=4 from rfl))
 obtain⟨u0,u1,u2,u3,u4,rfl⟩:=eO (hE.rp.len.trans (show p.fl.length=5 from rfl))
 have he0:=he;obtain⟨e0,_,rfl,rfl,e1,_,rfl,rfl,e2,_,rfl,⟨am,cm,rfl,hbm,_⟩,e3,_,rfl,⟨an,cn,rfl,hbn,_⟩,e4,_,rfl,hk,rfl⟩:=he;obtain⟨ak,ck,rfl,hK⟩:=hk.list;have hk9:=hK.len9
 have As:(exs kids).length=kids.length:=by simp[aJ]
 rw[As]at hk9 he0 ⊢
 obtain⟨nk,hnk⟩:∃z,z=kids.length:=⟨_,rfl⟩
 have Bn:=hid hnk.symm;rw[<-hnk]at hk9 he0 ⊢;have HE:=hid hE;have HX:=hid he0;have HK:=hid hK;have HBN:=hid hbn;have HI:=hid IH;clear hE he0 hK hbm hbn IH hk As hnk;have z0:=((Blk.new w 48 [v0,v1,v2,v3]).old (o:=.cells #[u0,u1,u2,u3,u4] 95 (0,0))).old (o:=.cells #[.int .i64 x0,.int .i64 x1,.slice am mod.length cm,.slice an name.length cn,.slice ak nk ck] 133 (0,0));have z1:=(Blk.new (w.alloc (.cells #[v0,v1,v2,v3] 48 (0,0))) 95 [u0,u1,u2,u3,u4]).old (o:=.cells #[.int .i64 x0,.int .i64 x1,.slice am mod.length cm,.slice an name.length cn,.slice ak nk ck] 133 (0,0));have z2:=Blk.new ((w.alloc (.cells #[v0,v1,v2,v3] 48 (0,0))).alloc (.cells #[u0,u1,u2,u3,u4] 95 (0,0))) 133 [.int .i64 x0,.int .i64 x1,.slice am mod.length cm,.slice an name.length cn,.slice ak nk ck]
 have hg1:(w.alloc (.cells #[v0,v1,v2,v3] 48 (0,0))).heap.size=w.heap.size+1:=by simp
 have Be:((w.alloc (.cells #[v0,v1,v2,v3] 48 (0,0))).alloc (.cells #[u0,u1,u2,u3,u4] 95 (0,0))).heap.size=w.heap.size+1+1:=by simp
 have y0:w.grownBy (((w.alloc (.cells #[v0,v1,v2,v3] 48 (0,0))).alloc (.cells #[u0,u1,u2,u3,u4] 95 (0,0))).alloc (.cells #[.int .i64 x0,.int .i64 x1,.slice am mod.length cm,.slice an name.length cn,.slice ak nk ck] 133 (0,0))) none:=aD (aD (aC w _ none) (aC _ _ none)) (aC _ _ none)
 simp only[List.toArray]at z0 z1 z2;rw[hg1]at z1;rw[Be]at z2;clear hg1 Be;simp only[agg];go_enter Tryz.func78,Tryz.ntmps78;go_upto_region 1 with fail;generalize ((w.alloc (.cells #[v0,v1,v2,v3] 48 (0,0))).alloc (.cells #[u0,u1,u2,u3,u4] 95 (0,0))).alloc (.cells #[.int .i64 x0,.int .i64 x1,.slice am mod.length cm,.slice an name.length cn,.slice ak nk ck] 133 (0,0))=w1 at *;have Z0:=hid z0;have Z1:=hid z1;have Z2:=hid z2;have Y0:=hid y0;clear z0 z1 z2 y0;go_upto_region 2 with fail
 rename_i Q0 K1 h1 K2 h2
 have HKK:Hid (∀(c:Int) (w2:World) (t10 t11 t12 t14 t15 t16 t17 t18 t19 t20 t21 t22 t23 t24 t25 t26 t27 t28 t29 t30 t31 t32 t33 t34 t35 t36 t37 t38 t39 t40 t41 t42 t43 t44 t45 t46 t47 t48 t49 t50 t51 t52 t53 t54 t55 t56 t57 t58 t59 t60 t61 t62 t63 t64 t65 t66 t67 t68 t69 t70 t71 t72 t73 t74 t75 t76:Value),w1.grownBy w2 none->exC m fs p (.mk x0 x1 mod name kids)=jC m fs p c kids->K1 { tmps:=#[.agg #[v0,v1,v2,v3],.slice b nf d,.agg #[u0,u1,u2,u3,u4],.agg #[.int .i64 x0,.int .i64 x1,.slice am mod.length cm,.slice an name.length cn,.slice ak nk ck],.pointer (some ⟨w.heap.size,0,none⟩),undef,.pointer (some ⟨w.heap.size+1,0,none⟩),.pointer (some ⟨w.heap.size+1+1,0,none⟩),.int .i64 0,.int .i64 c,t10,t11,t12,undef,t14,t15,t16,t17,t18,t19,t20,t21,t22,t23,t24,t25,t26,t27,t28,t29,t30,t31,t32,t33,t34,t35,t36,t37,t38,t39,t40,t41,t42,t43,t44,t45,t46,t47,t48,t49,t50,t51,t52,t53,t54,t55,t56,t57,t58,t59,t60,t61,t62,t63,t64,t65,t66,t67,t68,t69,t70,t71,t72,t73,t74,t75,t76,undef,undef,undef,undef,undef,undef,undef,undef,undef,undef,undef,undef,undef,undef,undef,undef,undef,undef,undef],defers:=[] } w2):=by
  intro c w2 t10 t11 t12 t14 t15 t16 t17 t18 t19 t20 t21 t22 t23 t24 t25 t26 t27 t28 t29 t30 t31 t32 t33 t34 t35 t36 t37 t38 t39 t40 t41 t42 t43 t44 t45 t46 t47 t48 t49 t50 t51 t52 t53 t54 t55 t56 t57 t58 t59 t60 t61 t62 t63 t64 t65 t66 t67 t68 t69 t70 t71 t72 t73 t74 t75 t76 Be hc;have HC:=hid hc;have G2:=hid Be;clear hc Be h2;refine h1 _ _ ?_;clear h1;go_wp2_with fail
  go_loopw [9,13] (fun cc i wr=>∃(j:Nat) (z:Int),j<=nk/\i=.int .i64 j/\cc=.int .i64 z/\Hid (z=jC m fs p c (kids.take j))/\Hid (w1.grownBy wr none)) (fun _ i _=>nk-(intOf i).toNat)
  case atStart=>exact⟨0,c,zD1 _,rfl,rfl,(by show _=_;simp[jC]),G2⟩
  case round=>
   obtain⟨j,z,hj,rfl,rfl,hz,Hg⟩:=hrel;have hg:=Hg.out;have yw:=aD Y0.out hg;have bw:=aA yw;have z0:=Z0.out.below (aA hg) Z0.out.lt;have z1:=Z1.out.below (aA hg) Z1.out.lt;have z2:=Z2.out.below (aA hg) Z2.out.lt;have k4:=z2.k 4
   by_cases Ai:j<nk
   .
    obtain⟨e,hej⟩:∃e,kids[j]?=some e:=⟨_,zA0 (by rw[Bn.out];exact Ai)⟩
    have HZ:Hid (dE z (exC m fs p e)=jC m fs p c (kids.take (j+1))):=by show _=_;rw[tA hej,hz.out]
    have HIe:=HI.out e (zA3 hej)
    obtain⟨bk,off,es,rfl,hes,Ab⟩:=aS.cellsAt HK.out (show(exs kids)[j]?=some e.fl by rw[aJ,zA2,hej];rfl)
    have hel:es.length=5:=by rw[hes.len];cases e;rfl
    obtain⟨s0,s1,s2,s3,s4,rfl⟩:=eO hel;have HES:=hid hes;refine M976 ?_;intro r0 r1 r2 r3 r4;rw[zG2]at r0;clear Ab hej hes hel hz
    have HS:∀{wl:World},Below wr.heap.size wr wl->wl.cell? ⟨w.heap.size,0,none⟩=some (v0)/\wl.cell? ⟨w.heap.size,1,none⟩=some (v1)/\wl.cell? ⟨w.heap.size,2,none⟩=some (v2)/\wl.cell? ⟨w.heap.size,3,none⟩=some (v3)/\wl.cell? ⟨w.heap.size+1,0,none⟩=some (u0)/\wl.cell? ⟨w.heap.size+1,1,none⟩=some (u1)/\wl.cell? ⟨w.heap.size+1,2,none⟩=some (u2)/\wl.cell? ⟨w.heap.size+1,3,none⟩=some (u3)/\wl.cell? ⟨w.heap.size+1,4,none⟩=some (u4)/\wl.cell? ⟨w.heap.size+1+1,4,none⟩=some (.slice (some ⟨bk,off,none⟩) nk ck)/\wl.cell? ⟨bk,off+j*5,none⟩=some s0/\wl.cell? ⟨bk,off+j*5+1,none⟩=some s1/\wl.cell? ⟨bk,off+j*5+2,none⟩=some s2/\wl.cell? ⟨bk,off+j*5+3,none⟩=some s3/\wl.cell? ⟨bk,off+j*5+4,none⟩=some s4:=fun hb=>⟨aB (z0.k 0) hb,aB (z0.k 1) hb,aB (z0.k 2) hb,aB (z0.k 3) hb,aB (z1.k 0) hb,aB (z1.k 1) hb,aB (z1.k 2) hb,aB (z1.k 3) hb,aB (z1.k 4) hb,aB k4 hb,aB r0 hb,aB r1 hb,aB r2 hb,aB r3 hb,aB r4 hb⟩
    have Al:=HS (wl:=wr.drew) (zD2 _ _).drew;have H9:=HIe wr.drew _ _ _ b nf d (HE.out.below bw.drew) (aO.below HES.out bw.drew);simp only[agg,List.toArray]at H9;go_wp2_with fail
    refine zK3 (S:=fun wl=>wl.cell? ⟨w.heap.size,0,none⟩=some (v0)/\wl.cell? ⟨w.heap.size,1,none⟩=some (v1)/\wl.cell? ⟨w.heap.size,2,none⟩=some (v2)/\wl.cell? ⟨w.heap.size,3,none⟩=some (v3)/\wl.cell? ⟨w.heap.size+1,0,none⟩=some (u0)/\wl.cell? ⟨w.heap.size+1,1,none⟩=some (u1)/\wl.cell? ⟨w.heap.size+1,2,none⟩=some (u2)/\wl.cell? ⟨w.heap.size+1,3,none⟩=some (u3)/\wl.cell? ⟨w.heap.size+1,4,none⟩=some (u4)/\wl.cell? ⟨w.heap.size+1+1,4,none⟩=some (.slice (some ⟨bk,off,none⟩) nk ck)/\wl.cell? ⟨bk,off+j*5,none⟩=some s0/\wl.cell? ⟨bk,off+j*5+1,none⟩=some s1/\wl.cell? ⟨bk,off+j*5+2,none⟩=some s2/\wl.cell? ⟨bk,off+j*5+3,none⟩=some s3/\wl.cell? ⟨bk,off+j*5+4,none⟩=some s4) V0 Al (fun Aa=>?_)
    refine wpAnyH_take (i:=0) (v:=?v501) rfl V0 V0 V0 (fun _ _ _ h=>h) (.inl ⟨by rfl, ?y501⟩) Aa ?_
    case y501=>intro w Bp;(try dsimp only at Bp);go_simp;first|done|rfl
    refine wpAnyH_take (i:=1) (v:=?v502) rfl V0 V0 V0 (fun _ _ _ h=>h) (.inl ⟨by rfl, ?y502⟩) Aa ?_
    case y502=>intro w Bp;(try dsimp only at Bp);go_simp;first|done|rfl
    refine wpAnyH_take (i:=2) (v:=?v503) rfl V0 V0 V0 (fun _ _ _ h=>h) (.inl ⟨by rfl, ?y503⟩) Aa ?_
    case y503=>intro w Bp;(try dsimp only at Bp);go_simp;first|done|rfl
    refine wpAnyH_take (i:=3) (v:=?v504) rfl V0 V0 V0 (fun _ _ _ h=>h) (.inl ⟨by rfl, ?y504⟩) Aa ?_
    case y504=>intro w Bp;(try dsimp only at Bp);go_simp;first|done|rfl
    refine wpAnyH_take (i:=4) (v:=?v505) rfl V0 V0 V0 (fun _ _ _ h=>h) (.inl ⟨by rfl, ?y505⟩) Aa ?_
    case y505=>intro w Bp;(try dsimp only at Bp);go_simp;first|done|rfl
    refine wpAnyH_take (i:=5) (v:=?v506) rfl V0 V0 V0 (fun _ _ _ h=>h) (.inl ⟨by rfl, ?y506⟩) Aa ?_
    case y506=>intro w Bp;(try dsimp only at Bp);go_simp;first|done|rfl
    refine wpAnyH_take (i:=6) (v:=?v507) rfl V0 V0 V0 (fun _ _ _ h=>h) (.inl ⟨by rfl, ?y507⟩) Aa ?_
    case y507=>intro w Bp;(try dsimp only at Bp);go_simp;first|done|rfl
    refine wpAnyH_take (i:=7) (v:=?v508) rfl V0 V0 V0 (fun _ _ _ h=>h) (.inl ⟨by rfl, ?y508⟩) Aa ?_
    case y508=>intro w Bp;(try dsimp only at Bp);go_simp;first|done|rfl
    refine wpAnyH_take (i:=8) (v:=?v509) rfl V0 V0 V0 (fun _ _ _ h=>h) (.inl ⟨by rfl, ?y509⟩) Aa ?_
    case y509=>intro w Bp;(try dsimp only at Bp);go_simp;first|done|rfl
    try simp only[Act.put,List.getElem_toArray,List.getElem_cons_zero,List.getElem_cons_succ,List.setIfInBounds_toArray,List.set_cons_zero,List.set_cons_succ]
    refine ra 9 fun K hK=>?_
    go_simp
    (with_reducible refine H9.mono ?_)
    refine M9245 ?_;intro w4 Bg b4 HS4;have H10:=rS z (exC m fs p e) w4;go_wp2_with fail
    refine hK.out _ _ (HS4) (fun Aa=>?_)
    clear hK K;try simp only[Act.put,List.getElem_toArray,List.getElem_cons_zero,List.getElem_cons_succ,List.setIfInBounds_toArray,List.set_cons_zero,List.set_cons_succ]
    refine ra 10 fun K hK=>?_
    go_simp
    (with_reducible refine H10.mono ?_)
    rintro r w5 ⟨rfl,rfl⟩;go_wp2_with fail
    refine hK.out _ _ (HS4) (fun Aa=>?_)
    clear hK K;try simp only[Act.put,List.getElem_toArray,List.getElem_cons_zero,List.getElem_cons_succ,List.setIfInBounds_toArray,List.set_cons_zero,List.set_cons_succ]
    refine wpAnyH_take (i:=11) (v:=?v512) rfl V0 V0 V0 (fun _ _ _ h=>h) (.inl ⟨by rfl, ?y512⟩) Aa ?_
    case y512=>intro w Bp;(try dsimp only at Bp);go_simp;first|done|rfl
    try simp only[Act.put,List.getElem_toArray,List.getElem_cons_zero,List.getElem_cons_succ,List.setIfInBounds_toArray,List.set_cons_zero,List.set_cons_succ]
    refine zL0 V0 ?_ _;have HG5:=hid (aD hg (aI b4 none));clear HS Al HS4 Aa H9 H10 r0 r1 r2 r3 r4 k4 z0 z1 z2 bw yw hg Hg Bg b4;generalize dE z (exC m fs p e)=z' at *;go_wp2;go_roundw
    case rel=>exact⟨j+1,z',by omega,by go_num,rfl,HZ,HG5⟩
    case measure=>simp[intOf];omega
   .
    have:nk=j:=V6
    subst this
    have HF:Hid (exC m fs p (.mk x0 x1 mod name kids)=z):=by show _=_;rw[HC.out,hz.out,zD3 (by rw[Bn.out];exact zB0 _)]
    clear z0 z1 z2 bw hz Hg hg;go_wp2;go_ret;exact⟨aQ HF.out.symm,yw⟩
 clear h1;have z0:=Z0.out;have z1:=Z1.out;have z2:=Z2.out;have y0:=Y0.out
 by_cases hx1:x0=1
 .
  subst hx1;have n0:=z2.k 0;have n3:=z2.k 3;obtain⟨k0,k1,k2,k3⟩:=z0.c4;obtain⟨q0,q1,q2,q3,q4⟩:=z1.c5;have H1:=sS m p _ _ w1 (HE.out.rm.below (aA y0)) (HE.out.rp.below (aA y0)) an name.length cn name (bW.below HBN.out (aA y0));simp only[agg,List.toArray]at H1
  cases hv:sgl m p name
  .
   have HF:Hid (exC m fs p (.mk 1 x1 mod name kids)=2):=kI (by rw[jV,if_pos rfl,if_neg (by rw[hv];decide)])
   exact U284
  .
   have HF:Hid (exC m fs p (.mk 1 x1 mod name kids)=jC m fs p 0 kids):=iX (by rw[jV,if_pos rfl,if_pos hv])
   exact U20
 have g1:(x0 == 1)=false:=by simpa using hx1
 by_cases hx2:x0=2
 .
  subst hx2;refine M9209 ?_;intro n0 n3 k0 k1 k2 k3 q0 q1 q2 q3 q4 H1
  cases hv:arq m p name
  .
   have HF:Hid (exC m fs p (.mk 2 x1 mod name kids)=2):=kI V42
   exact U284
  .
   have HF:Hid (exC m fs p (.mk 2 x1 mod name kids)=jC m fs p 0 kids):=iX V54
   exact U20
 have g2:(x0 == 2)=false:=by simpa using hx2
 by_cases hx5:x0=5
 .
  subst hx5;refine M9209 ?_;intro n0 n3 k0 k1 k2 k3 q0 q1 q2 q3 q4 H1
  cases hv:arq m p name
  .
   have HF:Hid (exC m fs p (.mk 5 x1 mod name kids)=2):=kI V42
   exact U284
  .
   have HF:Hid (exC m fs p (.mk 5 x1 mod name kids)=jC m fs p 0 kids):=iX V54
   exact U20
 have g5:(x0 == 5)=false:=by simpa using hx5
 by_cases hx7:x0=7
 .
  subst hx7;refine M9209 ?_;intro n0 n3 k0 k1 k2 k3 q0 q1 q2 q3 q4 H1
  cases hv:arq m p name
  .
   have HF:Hid (exC m fs p (.mk 7 x1 mod name kids)=2):=kI V42
   exact U284
  .
   have HF:Hid (exC m fs p (.mk 7 x1 mod name kids)=jC m fs p 0 kids):=iX V54
   exact U20
 have g7:(x0 == 7)=false:=by simpa using hx7
 by_cases hx6:x0=6
 .
  subst hx6;obtain⟨n0,n1,n2,n3,n4⟩:=z2.c5;obtain⟨k0,k1,k2,k3⟩:=z0.c4;have H1:=zE m fs 6 x1 mod name kids _ _ b nf d w1 (HE.out.rm.below (aA y0)) (HE.out.rf.below (aA y0)) HE.out.fl (aO.below HX.out (aA y0)) HE.out.pl;simp only[agg,List.toArray]at H1
  cases hq:fO m fs mod name with
  | none=>
   have HF:Hid (exC m fs p (.mk 6 x1 mod name kids)=2):=kI (by rw[jV,if_neg V7,if_neg V7,if_pos rfl,hq];rfl)
   rw[hq]at H1;clear hq HKK;go_wp2_with fail;refine H1.mono ?_;rintro r w2 ⟨v,rfl,_,hg⟩;have yg:=aD y0 hg;clear H1 n0 n1 n2 n3 n4 k0 k1 k2 k3 z0 z1 z2 hg;go_wp2;go_ret;exact⟨aQ HF.out.symm,yg⟩
  | some ks=>
   have HF:Hid (∀c,c=(if aEo ks kids=true then 4 else 0)->exC m fs p (.mk 6 x1 mod name kids)=jC m fs p c kids):=fun c hc=>iX (by rw[jV,if_neg V7,if_neg V7,if_pos rfl,hq,hc];rfl)
   rw[hq]at H1;clear hq;go_wp2_with fail;refine H1.mono ?_;rintro r w2 ⟨v,rfl,hv,hg⟩;obtain⟨ax,cx,rfl,hnr,hcx,hmx,_⟩:=hv ks rfl;have HNR:=hid hnr;have HG2:=hid hg;have N2:=hid (z2.below (aA hg) z2.lt)
   obtain⟨kl,As⟩:∃z,z=ks.length:=⟨_,rfl⟩
   have HKL:=hid As.symm;rw[<-As]at HNR hcx ⊢
   have hkl9:kl<=9223372036854775807:=by unfold maxLen at hmx;omega
   clear H1 n0 n1 n2 n3 n4 k0 k1 k2 k3 z0 z1 z2 hg y0 hv hnr As;go_upto_region 15 with fail
   rename_i K3 h3 K4 h4
   have HK3:Hid (∀(c:Int) (t14 t15 t16 t17 t18 t19 t20 t21 t22 t23 t24 t25 t26 t27 t28 t29 t30 t31 t32 t33 t34 t35 t36 t37 t38 t39 t40 t41 t42 t43 t44 t45 t46 t47 t48 t49 t50:Value),c=(if decide (ks.length ≠ kids.length)=true then 4 else 0)->K3 { tmps:=#[.agg #[v0,v1,v2,v3],.slice b nf d,.agg #[u0,u1,u2,u3,u4],.agg #[.int .i64 6,.int .i64 x1,.slice am mod.length cm,.slice an name.length cn,.slice ak nk ck],.pointer (some ⟨w.heap.size,0,none⟩),undef,.pointer (some ⟨w.heap.size+1,0,none⟩),.pointer (some ⟨w.heap.size+1+1,0,none⟩),.int .i64 0,.int .i64 c,.slice ax kl cx,.bool true,undef,undef,t14,t15,t16,t17,t18,t19,t20,t21,t22,t23,t24,t25,t26,t27,t28,t29,t30,t31,t32,t33,t34,t35,t36,t37,t38,t39,t40,t41,t42,t43,t44,t45,t46,t47,t48,t49,t50,undef,undef,undef,undef,undef,undef,undef,undef,undef,undef,undef,undef,undef,undef,undef,undef,undef,undef,undef,undef,undef,undef,undef,undef,undef,undef,undef,undef,undef,undef,undef,undef,undef,undef,undef,undef,undef,undef,undef,undef,undef,undef,undef,undef,undef],defers:=[] } w2):=by
    intro c t14 t15 t16 t17 t18 t19 t20 t21 t22 t23 t24 t25 t26 t27 t28 t29 t30 t31 t32 t33 t34 t35 t36 t37 t38 t39 t40 t41 t42 t43 t44 t45 t46 t47 t48 t49 t50 hc;have HC:=hid hc;clear hc;refine h3 _ _ ?_;clear h3 h4;go_wp2_with fail
    go_loopw [9,12] (fun cc i wr=>∃(j:Nat) (z:Int),j<=kl/\j<=nk/\i=.int .i64 j/\cc=.int .i64 z/\Hid (z=(if (decide (ks.length ≠ kids.length) || jR ks kids j)=true then 4 else 0))/\Hid (w1.grownBy wr none)/\Hid (Below w2.heap.size w2 wr)) (fun _ i _=>nk-(intOf i).toNat)
    case atStart=>exact⟨0,c,zD1 _,zD1 _,rfl,rfl,(by show _=_;rw[HC.out];simp[jR]),HG2,zD2 _ _⟩
    case round=>
     obtain⟨j,z,hj1,hj2,rfl,rfl,hz,Hg,Hb⟩:=hrel;have zz:=N2.out.below Hb.out N2.out.lt;have n4:=zz.k 4;clear zz
     by_cases Ai:j<kl/\j<nk
     .
      obtain⟨hl1,hl2⟩:=Ai
      obtain⟨e,hej⟩:∃e,kids[j]?=some e:=⟨_,zA0 (by rw[Bn.out];exact hl2)⟩
      obtain⟨kk,hkj⟩:∃k,ks[j]?=some k:=⟨_,zA0 (by rw[HKL.out];exact hl1)⟩
      obtain⟨bx,ox,rfl,hcx2⟩:=HNR.out.2.2 V6;have yw:=aD Y0.out Hg.out;have r1:=aB (hcx2 j hl1) Hb.out;rw[hkj]at r1;simp only[zI3]at r1
      have HMN:Hid (jR ks kids (j+1)=(jR ks kids j || ((kk == 1) != (e.kd == 7)))):=by show _=_;rw[uJ,hkj,hej];rfl
      obtain⟨bk,off,es,rfl,hes,Ab⟩:=aS.cellsAt HK.out (show(exs kids)[j]?=some e.fl by rw[aJ,zA2,hej];rfl)
      obtain⟨f0,f1,f2,f3,f4⟩:=e;obtain⟨s0,_,rfl,rfl,_⟩:=hes;have r2:=aB (Ab 0 _ rfl) (aA yw);rw[zG2]at r2;simp only[Ex.kd]at HMN
      have HG3:Hid (∀n,w1.grownBy (wr.drewN n) none):=fun n=>aI (bdn (aA Hg.out) n) none
      have HB3:Hid (∀n,Below w2.heap.size w2 (wr.drewN n)):=fun n=>bdn Hb.out n
      have hl1':(j:Int)<(kl:Int):=V6;have hl2':(j:Int)<(nk:Int):=V6;clear Ab hej hkj hcx2 Hg Hb yw
      have hbe:(!(kk == 1) == (f0 == 7))=((kk == 1) != (f0 == 7)):=by cases (kk == 1) <;> cases (f0 == 7) <;> rfl
      cases hbb:((kk == 1) != (f0 == 7))
      .
       rw[hbb]at hbe
       have HZ:Hid (z=(if (decide (ks.length ≠ kids.length) || jR ks kids (j+1))=true then 4 else 0)):=by show _=_;rw[HMN.out,hbb,Bool.or_false];exact hz.out
       clear hz HMN hbb;go_wp2_with fail
       go_quiet (fail)
       go_wp2;go_roundw
       case rel=>exact⟨j+1,z,by omega,by omega,by go_num,rfl,HZ,HG3.out _,HB3.out _⟩
       case measure=>simp[intOf];omega
      .
       rw[hbb]at hbe
       have HZ:Hid (4=(if (decide (ks.length ≠ kids.length) || jR ks kids (j+1))=true then (4:Int) else 0)):=by show _=_;rw[HMN.out,hbb,Bool.or_true,Bool.or_true];rfl
       clear hz HMN hbb;go_wp2_with fail
       go_quiet (fail)
       go_wp2;go_roundw
       case rel=>exact⟨j+1,4,by omega,by omega,by go_num,rfl,HZ,HG3.out _,HB3.out _⟩
       case measure=>simp[intOf];omega
     .
      have HM:Hid (z=(if aEo ks kids=true then 4 else 0)):=by
       show _=_
       rw[hz.out];unfold aEo
       by_cases he:ks.length=kids.length
       .
        have h5:=HKL.out;have h6:=Bn.out
        have:min ks.length kids.length=j:=V6
        rw[this]
       .
        rw[zB3 he,Bool.true_or,Bool.true_or]
      have HEQ:=hid (HF.out z HM.out);clear hz HM
      by_cases hl1:j<kl
      .
       have hl2:¬(j:Int)<(nk:Int):=V6;have hl1':(j:Int)<(kl:Int):=V6;exact U96
      .
       have hl1':¬(j:Int)<(kl:Int):=V6;exact U96
   clear h3 HKK;have n4:=N2.out.k 4
   by_cases hne:kl=nk
   .
    have hb1:((kl:Int) != (nk:Int))=false:=by rw[hne];simp
    have H0:=fun t14 t15 t16 t17 t18 t19 t20 t21 t22 t23 t24 t25 t26 t27 t28 t29 t30 t31 t32 t33 t34 t35 t36 t37 t38 t39 t40 t41 t42 t43 t44 t45 t46 t47 t48 t49 t50=>HK3.out 0 t14 t15 t16 t17 t18 t19 t20 t21 t22 t23 t24 t25 t26 t27 t28 t29 t30 t31 t32 t33 t34 t35 t36 t37 t38 t39 t40 t41 t42 t43 t44 t45 t46 t47 t48 t49 t50 (by rw[zC2 (by rw[HKL.out,Bn.out];simpa using hne)];rfl)
    exact U126
   .
    have hb1:((kl:Int) != (nk:Int))=true:=by simp;omega
    have H0:=fun t14 t15 t16 t17 t18 t19 t20 t21 t22 t23 t24 t25 t26 t27 t28 t29 t30 t31 t32 t33 t34 t35 t36 t37 t38 t39 t40 t41 t42 t43 t44 t45 t46 t47 t48 t49 t50=>HK3.out 4 t14 t15 t16 t17 t18 t19 t20 t21 t22 t23 t24 t25 t26 t27 t28 t29 t30 t31 t32 t33 t34 t35 t36 t37 t38 t39 t40 t41 t42 t43 t44 t45 t46 t47 t48 t49 t50 (by rw[zB3 (by rw[HKL.out,Bn.out];exact hne)];rfl)
    exact U126
 have g6:(x0 == 6)=false:=by simpa using hx6
 have n0:=z2.k 0
 have HF:Hid (exC m fs p (.mk x0 x1 mod name kids)=jC m fs p 0 kids):=iX (by rw[jV,if_neg hx1,if_neg V6,if_neg hx6])
 clear hx1 hx2 hx5 hx6 hx7 z0 z1 z2;go_wp2_with fail;exact HKK.out 0 w1 _ _ _ _ _ _ _ _ _ _ _ _ _ _ _ _ _ _ _ _ _ _ _ _ _ _ _ _ _ _ _ _ _ _ _ _ _ _ _ _ _ _ _ _ _ _ _ _ _ _ _ _ _ _ _ _ _ _ _ _ _ _ _ _ _ _ (aN0 _ _) HF.out
mutual
theorem aK5 (m:Mo)(fs:List Fa)(p:Pr):∀e:Ex,aLf m fs p e
 | .mk x0 x1 mod name kids=>aIe m fs p x0 x1 mod name kids (aGj m fs p kids)
theorem aGj (m:Mo)(fs:List Fa)(p:Pr):∀l:List Ex,∀e ∈ l,aLf m fs p e
 | [],e,h=>by simp at h
 | y :: l,e,h=>by
  rcases zH0.1 h with h|h
  .
   exact h ▸ aK5 m fs p y
  .
   exact aGj m fs p l e h
end
end Go.Proofs.YtegkhlkjfeafjaaGreatDoor

import Derived.Test.YtnelibmaancmkaaGreatDoorSpEx
import Derived.Test.YtnelibmaancmkaaGreatDoorSpNames
import Derived.Test.YtnelibmaancmkaaGreatDoorSpFaces
namespace Go.Proofs.YtnelibmaancmkaaGreatDoor
open Go.RowKit
set_option linter.unusedVariables false
set_option linter.unusedSimpArgs false
set_option maxRecDepth 100000
theorem V42{p:Prop}(h:p:=by rw[jV,if_neg (by decide),if_pos (by decide),if_neg (by rw[hv];decide)]):p:=h
theorem V54{p:Prop}(h:p:=by rw[jV,if_neg (by decide),if_pos (by decide),if_pos hv]):p:=h
theorem U20{p:Prop}(h:p:=by
 rw[hv]at H1
 clear hv
 go_wp2_with fail
 refine H1.mono ?_
 rintro r w2 ⟨rfl,hg⟩
 clear H1 n0 n3 k0 k1 k2 k3 q0 q1 q2 q3 q4 z0 z1 z2
 go_wp2_with fail
 exact HKK.out 0 w2 _ _ _ _ _ _ _ _ _ _ _ _ _ _ _ _ _ _ _ _ _ _ _ _ _ _ _ _ _ _ _ _ _ _ _ _ _ _ _ _ _ _ _ _ _ _ _ _ _ _ _ _ _ _ _ _ _ _ _ _ _ _ _ _ _ _ hg HF.out):p:=h
theorem U31{p:Prop}(h:p:=by
 rw[hv]at H1
 clear hv HKK
 go_wp2_with fail
 refine H1.mono ?_
 rintro r w2 ⟨rfl,hg⟩
 have yg:=aD y0 hg
 clear H1 n0 n3 k0 k1 k2 k3 q0 q1 q2 q3 q4 z0 z1 z2 hg
 go_wp2_with fail
 go_ret
 exact⟨aQ HF.out.symm,yg⟩):p:=h
theorem U75{p:Prop}(h:p:=by
 go_enter Tryz.func28,Tryz.ntmps28
 go_wp2_with fail
 go_ret
 exact⟨aQ HF.out.symm,rfl⟩):p:=h
theorem U96{p:Prop}(h:p:=by
 go_wp2_with fail
 exact HKK.out z wr _ _ _ _ _ _ _ _ _ _ _ _ _ _ _ _ _ _ _ _ _ _ _ _ _ _ _ _ _ _ _ _ _ _ _ _ _ _ _ _ _ _ _ _ _ _ _ _ _ _ _ _ _ _ _ _ _ _ _ _ _ _ _ _ _ _ Hg.out HEQ.out):p:=h
theorem U126{p:Prop}(h:p:=by
 clear hne
 go_wp2_with fail
 exact H0 _ _ _ _ _ _ _ _ _ _ _ _ _ _ _ _ _ _ _ _ _ _ _ _ _ _ _ _ _ _ _ _ _ _ _ _ _):p:=h
theorem U135{p:Prop}(h:p:=by
 go_wp2_with fail
 go_ret
 exact⟨aQ HF.out.symm,yw⟩):p:=h
def dE (a b:Int):Int:=if a=2\/b=2 then 2 else if b<a then a else b
def Ex.kd:Ex->Int
 | .mk k _ _ _ _=>k
def jR (ks:List Int)(kids:List Ex)(i:Nat):Bool:=(List.range i).any fun j=>(ks[j]?.getD 0 == 1) != ((kids[j]?.map Ex.kd).getD 0 == 7)
def aEo (ks:List Int)(kids:List Ex):Bool:=decide (ks.length ≠ kids.length) || jR ks kids (min ks.length kids.length)
def hdC (m:Mo)(fs:List Fa)(p:Pr):Ex->Option Int
 | .mk k _ mod name kids=>
  if k=1 then (if sgl m p name=true then some 0 else none)
  else if k=2\/k=5\/k=7 then (if arq m p name=true then some 0 else none)
  else if k=6 then (fO m fs mod name).map fun ks=>if aEo ks kids=true then 4 else 0
  else some 0
theorem jV (m:Mo)(fs:List Fa)(p:Pr)(k n:Int)(mod name:List Int)(kids:List Ex):hdC m fs p (.mk k n mod name kids) =
  if k=1 then (if sgl m p name=true then some 0 else none)
  else if k=2\/k=5\/k=7 then (if arq m p name=true then some 0 else none)
  else if k=6 then (fO m fs mod name).map fun ks=>if aEo ks kids=true then 4 else 0
  else some 0:=rfl
mutual
def exC (m:Mo)(fs:List Fa)(p:Pr):Ex->Int
 | .mk k n mod name kids=>match hdC m fs p (.mk k n mod name kids) with
  | none=>2
  | some c=>jC m fs p c kids
def jC (m:Mo)(fs:List Fa)(p:Pr):Int->List Ex->Int
 | c,[]=>c
 | c,e :: l=>jC m fs p (dE c (exC m fs p e)) l
end
theorem uZ (m:Mo)(fs:List Fa)(p:Pr)(c:Int)(l r:List Ex):jC m fs p c (l++r)=jC m fs p (jC m fs p c l) r:=by
 induction l generalizing c with
 | nil=>simp[jC]
 | cons e l ih=>simp[jC,ih]
theorem tA {m:Mo}{fs:List Fa}{p:Pr}{c:Int}{l:List Ex}{j:Nat}{e:Ex}(h:l[j]?=some e):jC m fs p c (l.take (j+1))=dE (jC m fs p c (l.take j)) (exC m fs p e):=by
 obtain⟨hj,rfl⟩:=List.getElem?_eq_some_iff.1 h;rw[List.take_succ_eq_append_getElem hj,uZ]
 simp[jC]
theorem kI {m:Mo}{fs:List Fa}{p:Pr}{k n:Int}{mod name:List Int}{kids:List Ex}(h:hdC m fs p (.mk k n mod name kids)=none):exC m fs p (.mk k n mod name kids)=2:=by unfold exC;rw[h]
theorem iX {m:Mo}{fs:List Fa}{p:Pr}{k n c:Int}{mod name:List Int}{kids:List Ex}(h:hdC m fs p (.mk k n mod name kids)=some c):exC m fs p (.mk k n mod name kids)=jC m fs p c kids:=by unfold exC;rw[h]
theorem uJ (ks:List Int)(kids:List Ex)(i:Nat):jR ks kids (i+1)=(jR ks kids i || ((ks[i]?.getD 0 == 1) != ((kids[i]?.map Ex.kd).getD 0 == 7))):=by
 unfold jR;rw[List.range_succ,List.any_append]
 simp
theorem bdn {B:Nat}{a w:World}(h:Below B a w)(n:Nat):Below B a (w.drewN n):=h.trans ⟨rfl,rfl,rfl,Nat.le_refl _,fun _ _=>rfl⟩
theorem rS (a b:Int)(w:World):Calls Tryz.prog 28 #[.int .i64 a,.int .i64 b] w fun e w'=>e=.returned (.int .i64 (dE a b))/\w'=w:=by
 by_cases h1:a=2
 .
  have HF:Hid (dE a b=2):=if_pos (.inl h1)
  subst h1;exact U75
 .
  have g1:(a == 2)=false:=by simpa using h1
  by_cases h2:b=2
  .
   have HF:Hid (dE a b=2):=if_pos (.inr h2)
   subst h2;exact U75
  .
   have g2:(b == 2)=false:=by simpa using h2
   by_cases h3:b<a
   .
    have HF:Hid (dE a b=a):=(if_neg V6).trans (if_pos h3)
    clear h1 h2;exact U75
   .
    have HF:Hid (dE a b=b):=(if_neg V6).trans (if_neg h3)
    clear h1 h2;exact U75
structure Env (w:World) (m:Mo) (fs:List Fa) (p:Pr) (vs us:List Value) (b:Option Addr) (nf d:Nat):Prop where
 rm:aO w m.fl vs
 rp:aO w p.fl us
 rf:aS w b d 2 (fs.map Fa.fl)
 fl:fs.length=nf
 pl:∀q ∈ m.procs,q.params.length<=1048576
theorem Env.below {w w':World}{m:Mo}{fs:List Fa}{p:Pr}{vs us:List Value}{b:Option Addr}{nf d:Nat}(h:Env w m fs p vs us b nf d)(hb:Below w.heap.size w w'):Env w' m fs p vs us b nf d:=
 ⟨h.rm.below hb,h.rp.below hb,h.rf.below hb,h.fl,h.pl⟩
def aLf (m:Mo)(fs:List Fa)(p:Pr)(e:Ex):Prop:=∀(w:World) (vs us es:List Value) (b:Option Addr) (nf d:Nat),Env w m fs p vs us b nf d->aO w e.fl es →
 Calls Tryz.prog 76 #[agg vs,.slice b nf d,agg us,agg es] w fun r w'=>r=.returned (.int .i64 (exC m fs p e))/\w.grownBy w' none
set_option maxHeartbeats 16000000 in
theorem aIe (m:Mo)(fs:List Fa)(p:Pr)(x0 x1:Int)(mod name:List Int)(kids:List Ex)(IH:∀e ∈ kids,aLf m fs p e):aLf m fs p (.mk x0 x1 mod name kids):=by
 intro w vs us es b nf d hE he
 obtain⟨v0,v1,v2,v3,rfl⟩:=mO (hE.rm.len.trans (show m.fl.length=4 from rfl))
 obtain⟨u0,u1,u2,u3,u4,rfl⟩:=eO (hE.rp.len.trans (show p.fl.length=5 from rfl))
 have he0:=he;obtain⟨e0,_,rfl,rfl,e1,_,rfl,rfl,e2,_,rfl,⟨am,cm,rfl,hbm,_⟩,e3,_,rfl,⟨an,cn,rfl,hbn,_⟩,e4,_,rfl,hk,rfl⟩:=he;obtain⟨ak,ck,rfl,hK⟩:=hk.list;have hk9:=hK.len9
 have As:(exs kids).length=kids.length:=by simp[aJ]
 rw[As]at hk9 he0 ⊢
 obtain⟨nk,hnk⟩:∃z,z=kids.length:=⟨_,rfl⟩
 have Bn:Hid (kids.length=nk):=hnk.symm
 rw[<-hnk]at hk9 he0 ⊢
 have HE:Hid (Env w m fs p [v0,v1,v2,v3] [u0,u1,u2,u3,u4] b nf d):=hE
 have HX:Hid (aO w (Ex.fl ⟨x0,x1,mod,name,kids⟩) [.int .i64 x0,.int .i64 x1,.slice am mod.length cm,.slice an name.length cn,.slice ak nk ck]):=he0
 have HK:Hid (aS w ak ck 5 (exs kids)):=hK
 have HBN:Hid (bW w an name.length name):=hbn
 have HI:Hid (∀e ∈ kids,aLf m fs p e):=IH
 clear hE he0 hK hbm hbn IH hk As hnk;have z0:=((Blk.new w 35 [v0,v1,v2,v3]).old (o:=.cells #[u0,u1,u2,u3,u4] 72 (0,0))).old (o:=.cells #[.int .i64 x0,.int .i64 x1,.slice am mod.length cm,.slice an name.length cn,.slice ak nk ck] 135 (0,0));have z1:=(Blk.new (w.alloc (.cells #[v0,v1,v2,v3] 35 (0,0))) 72 [u0,u1,u2,u3,u4]).old (o:=.cells #[.int .i64 x0,.int .i64 x1,.slice am mod.length cm,.slice an name.length cn,.slice ak nk ck] 135 (0,0));have z2:=Blk.new ((w.alloc (.cells #[v0,v1,v2,v3] 35 (0,0))).alloc (.cells #[u0,u1,u2,u3,u4] 72 (0,0))) 135 [.int .i64 x0,.int .i64 x1,.slice am mod.length cm,.slice an name.length cn,.slice ak nk ck]
 have hg1:(w.alloc (.cells #[v0,v1,v2,v3] 35 (0,0))).heap.size=w.heap.size+1:=by simp
 have Be:((w.alloc (.cells #[v0,v1,v2,v3] 35 (0,0))).alloc (.cells #[u0,u1,u2,u3,u4] 72 (0,0))).heap.size=w.heap.size+1+1:=by simp
 have y0:w.grownBy (((w.alloc (.cells #[v0,v1,v2,v3] 35 (0,0))).alloc (.cells #[u0,u1,u2,u3,u4] 72 (0,0))).alloc (.cells #[.int .i64 x0,.int .i64 x1,.slice am mod.length cm,.slice an name.length cn,.slice ak nk ck] 135 (0,0))) none:=aD (aD (aC w _ none) (aC _ _ none)) (aC _ _ none)
 simp only[List.toArray]at z0 z1 z2;rw[hg1]at z1;rw[Be]at z2;clear hg1 Be;simp only[agg];go_enter Tryz.func76,Tryz.ntmps76;go_upto_region 1 with fail;generalize ((w.alloc (.cells #[v0,v1,v2,v3] 35 (0,0))).alloc (.cells #[u0,u1,u2,u3,u4] 72 (0,0))).alloc (.cells #[.int .i64 x0,.int .i64 x1,.slice am mod.length cm,.slice an name.length cn,.slice ak nk ck] 135 (0,0))=w1 at *
 have Z0:Hid (Blk w1 w.heap.size 35 [v0,v1,v2,v3]):=z0
 have Z1:Hid (Blk w1 (w.heap.size+1) 72 [u0,u1,u2,u3,u4]):=z1
 have Z2:Hid (Blk w1 (w.heap.size+1+1) 135 [.int .i64 x0,.int .i64 x1,.slice am mod.length cm,.slice an name.length cn,.slice ak nk ck]):=z2
 have Y0:Hid (w.grownBy w1 none):=y0
 clear z0 z1 z2 y0;go_upto_region 2 with fail
 rename_i Q0 K1 h1 K2 h2
 have HKK:Hid (∀(c:Int) (w2:World) (t10 t11 t12 t14 t15 t16 t17 t18 t19 t20 t21 t22 t23 t24 t25 t26 t27 t28 t29 t30 t31 t32 t33 t34 t35 t36 t37 t38 t39 t40 t41 t42 t43 t44 t45 t46 t47 t48 t49 t50 t51 t52 t53 t54 t55 t56 t57 t58 t59 t60 t61 t62 t63 t64 t65 t66 t67 t68 t69 t70 t71 t72 t73 t74 t75 t76:Value),w1.grownBy w2 none->exC m fs p (.mk x0 x1 mod name kids)=jC m fs p c kids->K1 { tmps:=#[.agg #[v0,v1,v2,v3],.slice b nf d,.agg #[u0,u1,u2,u3,u4],.agg #[.int .i64 x0,.int .i64 x1,.slice am mod.length cm,.slice an name.length cn,.slice ak nk ck],.pointer (some ⟨w.heap.size,0,none⟩),undef,.pointer (some ⟨w.heap.size+1,0,none⟩),.pointer (some ⟨w.heap.size+1+1,0,none⟩),.int .i64 0,.int .i64 c,t10,t11,t12,undef,t14,t15,t16,t17,t18,t19,t20,t21,t22,t23,t24,t25,t26,t27,t28,t29,t30,t31,t32,t33,t34,t35,t36,t37,t38,t39,t40,t41,t42,t43,t44,t45,t46,t47,t48,t49,t50,t51,t52,t53,t54,t55,t56,t57,t58,t59,t60,t61,t62,t63,t64,t65,t66,t67,t68,t69,t70,t71,t72,t73,t74,t75,t76,undef,undef,undef,undef,undef,undef,undef,undef,undef,undef,undef,undef,undef,undef,undef,undef,undef,undef,undef],defers:=[] } w2):=by
  intro c w2 t10 t11 t12 t14 t15 t16 t17 t18 t19 t20 t21 t22 t23 t24 t25 t26 t27 t28 t29 t30 t31 t32 t33 t34 t35 t36 t37 t38 t39 t40 t41 t42 t43 t44 t45 t46 t47 t48 t49 t50 t51 t52 t53 t54 t55 t56 t57 t58 t59 t60 t61 t62 t63 t64 t65 t66 t67 t68 t69 t70 t71 t72 t73 t74 t75 t76 Be hc
  have HC:Hid (exC m fs p (.mk x0 x1 mod name kids)=jC m fs p c kids):=hc
  have G2:Hid (w1.grownBy w2 none):=Be
  clear hc Be h2;refine h1 _ _ ?_;clear h1;go_wp2_with fail
  go_loopw [9,13] (fun cc i wr=>∃(j:Nat) (z:Int),j<=nk/\i=.int .i64 j/\cc=.int .i64 z/\Hid (z=jC m fs p c (kids.take j))/\Hid (w1.grownBy wr none)) (fun _ i _=>nk-(intOf i).toNat)
  case atStart=>exact⟨0,c,Nat.zero_le _,rfl,rfl,(by show _=_;simp[jC]),G2⟩
  case round=>
   obtain⟨j,z,hj,rfl,rfl,hz,Hg⟩:=hrel;have hg:=Hg.out;have yw:=aD Y0.out hg;have bw:=aA yw;have z0:=Z0.out.below (aA hg) Z0.out.lt;have z1:=Z1.out.below (aA hg) Z1.out.lt;have z2:=Z2.out.below (aA hg) Z2.out.lt;have k4:=z2.cell (i:=4) rfl
   by_cases Ai:j<nk
   .
    obtain⟨e,hej⟩:∃e,kids[j]?=some e:=⟨_,List.getElem?_eq_getElem (by rw[Bn.out];exact Ai)⟩
    have HZ:Hid (dE z (exC m fs p e)=jC m fs p c (kids.take (j+1))):=by show _=_;rw[tA hej,hz.out]
    have HIe:=HI.out e (List.mem_of_getElem? hej)
    obtain⟨bk,off,es,rfl,hes,Ab⟩:=aS.cellsAt HK.out (show(exs kids)[j]?=some e.fl by rw[aJ,List.getElem?_map,hej];rfl)
    have hel:es.length=5:=by rw[hes.len];cases e;rfl
    obtain⟨s0,s1,s2,s3,s4,rfl⟩:=eO hel
    have HES:Hid (aO w e.fl [s0,s1,s2,s3,s4]):=hes
    have r0:=aB (Ab 0 _ rfl) bw;have r1:=aB (Ab 1 _ rfl) bw;have r2:=aB (Ab 2 _ rfl) bw;have r3:=aB (Ab 3 _ rfl) bw;have r4:=aB (Ab 4 _ rfl) bw;rw[Nat.add_zero]at r0;clear Ab hej hes hel hz
    have HS:∀{wl:World},Below wr.heap.size wr wl->wl.cell? ⟨w.heap.size,0,none⟩=some (v0)/\wl.cell? ⟨w.heap.size,1,none⟩=some (v1)/\wl.cell? ⟨w.heap.size,2,none⟩=some (v2)/\wl.cell? ⟨w.heap.size,3,none⟩=some (v3)/\wl.cell? ⟨w.heap.size+1,0,none⟩=some (u0)/\wl.cell? ⟨w.heap.size+1,1,none⟩=some (u1)/\wl.cell? ⟨w.heap.size+1,2,none⟩=some (u2)/\wl.cell? ⟨w.heap.size+1,3,none⟩=some (u3)/\wl.cell? ⟨w.heap.size+1,4,none⟩=some (u4)/\wl.cell? ⟨w.heap.size+1+1,4,none⟩=some (.slice (some ⟨bk,off,none⟩) nk ck)/\wl.cell? ⟨bk,off+j*5,none⟩=some s0/\wl.cell? ⟨bk,off+j*5+1,none⟩=some s1/\wl.cell? ⟨bk,off+j*5+2,none⟩=some s2/\wl.cell? ⟨bk,off+j*5+3,none⟩=some s3/\wl.cell? ⟨bk,off+j*5+4,none⟩=some s4:=fun hb=>⟨aB (z0.cell (i:=0) rfl) hb,aB (z0.cell (i:=1) rfl) hb,aB (z0.cell (i:=2) rfl) hb,aB (z0.cell (i:=3) rfl) hb,aB (z1.cell (i:=0) rfl) hb,aB (z1.cell (i:=1) rfl) hb,aB (z1.cell (i:=2) rfl) hb,aB (z1.cell (i:=3) rfl) hb,aB (z1.cell (i:=4) rfl) hb,aB k4 hb,aB r0 hb,aB r1 hb,aB r2 hb,aB r3 hb,aB r4 hb⟩
    have Al:=HS (wl:=wr.drew) (Below.refl _ _).drew;have H9:=HIe wr.drew _ _ _ b nf d (HE.out.below bw.drew) (aO.below HES.out bw.drew);simp only[agg,List.toArray]at H9;go_wp2_with fail
    refine wp_region_held_drew (S:=fun wl=>wl.cell? ⟨w.heap.size,0,none⟩=some (v0)/\wl.cell? ⟨w.heap.size,1,none⟩=some (v1)/\wl.cell? ⟨w.heap.size,2,none⟩=some (v2)/\wl.cell? ⟨w.heap.size,3,none⟩=some (v3)/\wl.cell? ⟨w.heap.size+1,0,none⟩=some (u0)/\wl.cell? ⟨w.heap.size+1,1,none⟩=some (u1)/\wl.cell? ⟨w.heap.size+1,2,none⟩=some (u2)/\wl.cell? ⟨w.heap.size+1,3,none⟩=some (u3)/\wl.cell? ⟨w.heap.size+1,4,none⟩=some (u4)/\wl.cell? ⟨w.heap.size+1+1,4,none⟩=some (.slice (some ⟨bk,off,none⟩) nk ck)/\wl.cell? ⟨bk,off+j*5,none⟩=some s0/\wl.cell? ⟨bk,off+j*5+1,none⟩=some s1/\wl.cell? ⟨bk,off+j*5+2,none⟩=some s2/\wl.cell? ⟨bk,off+j*5+3,none⟩=some s3/\wl.cell? ⟨bk,off+j*5+4,none⟩=some s4) V0 Al (fun Aa=>?_)
    refine wpAnyH_take (i:=0) (v:=?v501) rfl V0 V0 V0 (fun _ _ _ h=>h) (.inl ⟨by rfl, ?y501⟩) Aa ?_
    case y501=>intro w Bp;(try dsimp only at Bp);go_simp;first|done|rfl
    refine wpAnyH_take (i:=1) (v:=?v502) rfl V0 V0 V0 (fun _ _ _ h=>h) (.inl ⟨by rfl, ?y502⟩) Aa ?_
    case y502=>intro w Bp;(try dsimp only at Bp);go_simp;first|done|rfl
    refine wpAnyH_take (i:=2) (v:=?v503) rfl V0 V0 V0 (fun _ _ _ h=>h) (.inl ⟨by rfl, ?y503⟩) Aa ?_
    case y503=>intro w Bp;(try dsimp only at Bp);go_simp;first|done|rfl
    refine wpAnyH_take (i:=3) (v:=?v504) rfl V0 V0 V0 (fun _ _ _ h=>h) (.inl ⟨by rfl, ?y504⟩) Aa ?_
    case y504=>intro w Bp;(try dsimp only at Bp);go_simp;first|done|rfl
    refine wpAnyH_take (i:=4) (v:=?v505) rfl V0 V0 V0 (fun _ _ _ h=>h) (.inl ⟨by rfl, ?y505⟩) Aa ?_
    case y505=>intro w Bp;(try dsimp only at Bp);go_simp;first|done|rfl
    refine wpAnyH_take (i:=5) (v:=?v506) rfl V0 V0 V0 (fun _ _ _ h=>h) (.inl ⟨by rfl, ?y506⟩) Aa ?_
    case y506=>intro w Bp;(try dsimp only at Bp);go_simp;first|done|rfl
    refine wpAnyH_take (i:=6) (v:=?v507) rfl V0 V0 V0 (fun _ _ _ h=>h) (.inl ⟨by rfl, ?y507⟩) Aa ?_
    case y507=>intro w Bp;(try dsimp only at Bp);go_simp;first|done|rfl
    refine wpAnyH_take (i:=7) (v:=?v508) rfl V0 V0 V0 (fun _ _ _ h=>h) (.inl ⟨by rfl, ?y508⟩) Aa ?_
    case y508=>intro w Bp;(try dsimp only at Bp);go_simp;first|done|rfl
    refine wpAnyH_take (i:=8) (v:=?v509) rfl V0 V0 V0 (fun _ _ _ h=>h) (.inl ⟨by rfl, ?y509⟩) Aa ?_
    case y509=>intro w Bp;(try dsimp only at Bp);go_simp;first|done|rfl
    try simp only[Act.put,List.getElem_toArray,List.getElem_cons_zero,List.getElem_cons_succ,List.setIfInBounds_toArray,List.set_cons_zero,List.set_cons_succ]
    refine ra 9 fun K hK=>?_
    go_simp
    (with_reducible refine H9.mono ?_)
    rintro r w4 ⟨rfl,Bg⟩
    have b4:Below wr.heap.size wr w4:=(Below.refl wr.heap.size wr).drew.trans (aA Bg)
    have HS4:=HS b4;have H10:=rS z (exC m fs p e) w4;go_wp2_with fail
    refine hK.out _ _ (HS4) (fun Aa=>?_)
    clear hK K;try simp only[Act.put,List.getElem_toArray,List.getElem_cons_zero,List.getElem_cons_succ,List.setIfInBounds_toArray,List.set_cons_zero,List.set_cons_succ]
    refine ra 10 fun K hK=>?_
    go_simp
    (with_reducible refine H10.mono ?_)
    rintro r w5 ⟨rfl,rfl⟩;go_wp2_with fail
    refine hK.out _ _ (HS4) (fun Aa=>?_)
    clear hK K;try simp only[Act.put,List.getElem_toArray,List.getElem_cons_zero,List.getElem_cons_succ,List.setIfInBounds_toArray,List.set_cons_zero,List.set_cons_succ]
    refine wpAnyH_take (i:=11) (v:=?v512) rfl V0 V0 V0 (fun _ _ _ h=>h) (.inl ⟨by rfl, ?y512⟩) Aa ?_
    case y512=>intro w Bp;(try dsimp only at Bp);go_simp;first|done|rfl
    try simp only[Act.put,List.getElem_toArray,List.getElem_cons_zero,List.getElem_cons_succ,List.setIfInBounds_toArray,List.set_cons_zero,List.set_cons_succ]
    refine wpAnyH_done V0 ?_ _
    have HG5:Hid (w1.grownBy w5 none):=aD hg (aI b4 none)
    clear HS Al HS4 Aa H9 H10 r0 r1 r2 r3 r4 k4 z0 z1 z2 bw yw hg Hg Bg b4;generalize dE z (exC m fs p e)=z' at *;go_wp2_with fail;go_roundw
    case rel=>exact⟨j+1,z',by omega,by go_num,rfl,HZ,HG5⟩
    case measure=>simp[intOf];omega
   .
    have:nk=j:=V6
    subst this
    have HF:Hid (exC m fs p (.mk x0 x1 mod name kids)=z):=by show _=_;rw[HC.out,hz.out,List.take_of_length_le (by rw[Bn.out];exact Nat.le_refl _)]
    clear z0 z1 z2 bw hz Hg hg;exact U135
 clear h1;have z0:=Z0.out;have z1:=Z1.out;have z2:=Z2.out;have y0:=Y0.out
 by_cases hx1:x0=1
 .
  subst hx1;have n0:=z2.cell (i:=0) rfl;have n3:=z2.cell (i:=3) rfl;obtain⟨k0,k1,k2,k3⟩:=z0.c4;obtain⟨q0,q1,q2,q3,q4⟩:=z1.c5;have H1:=sS m p _ _ w1 (HE.out.rm.below (aA y0)) (HE.out.rp.below (aA y0)) an name.length cn name (bW.below HBN.out (aA y0));simp only[agg,List.toArray]at H1
  cases hv:sgl m p name
  .
   have HF:Hid (exC m fs p (.mk 1 x1 mod name kids)=2):=kI (by rw[jV,if_pos rfl,if_neg (by rw[hv];decide)])
   exact U31
  .
   have HF:Hid (exC m fs p (.mk 1 x1 mod name kids)=jC m fs p 0 kids):=iX (by rw[jV,if_pos rfl,if_pos hv])
   exact U20
 have g1:(x0 == 1)=false:=by simpa using hx1
 by_cases hx2:x0=2
 .
  subst hx2;have n0:=z2.cell (i:=0) rfl;have n3:=z2.cell (i:=3) rfl;obtain⟨k0,k1,k2,k3⟩:=z0.c4;obtain⟨q0,q1,q2,q3,q4⟩:=z1.c5;have H1:=nR m p _ _ w1 (HE.out.rm.below (aA y0)) (HE.out.rp.below (aA y0)) an name.length cn name (bW.below HBN.out (aA y0));simp only[agg,List.toArray]at H1
  cases hv:arq m p name
  .
   have HF:Hid (exC m fs p (.mk 2 x1 mod name kids)=2):=kI V42
   exact U31
  .
   have HF:Hid (exC m fs p (.mk 2 x1 mod name kids)=jC m fs p 0 kids):=iX V54
   exact U20
 have g2:(x0 == 2)=false:=by simpa using hx2
 by_cases hx5:x0=5
 .
  subst hx5;have n0:=z2.cell (i:=0) rfl;have n3:=z2.cell (i:=3) rfl;obtain⟨k0,k1,k2,k3⟩:=z0.c4;obtain⟨q0,q1,q2,q3,q4⟩:=z1.c5;have H1:=nR m p _ _ w1 (HE.out.rm.below (aA y0)) (HE.out.rp.below (aA y0)) an name.length cn name (bW.below HBN.out (aA y0));simp only[agg,List.toArray]at H1
  cases hv:arq m p name
  .
   have HF:Hid (exC m fs p (.mk 5 x1 mod name kids)=2):=kI V42
   exact U31
  .
   have HF:Hid (exC m fs p (.mk 5 x1 mod name kids)=jC m fs p 0 kids):=iX V54
   exact U20
 have g5:(x0 == 5)=false:=by simpa using hx5
 by_cases hx7:x0=7
 .
  subst hx7;have n0:=z2.cell (i:=0) rfl;have n3:=z2.cell (i:=3) rfl;obtain⟨k0,k1,k2,k3⟩:=z0.c4;obtain⟨q0,q1,q2,q3,q4⟩:=z1.c5;have H1:=nR m p _ _ w1 (HE.out.rm.below (aA y0)) (HE.out.rp.below (aA y0)) an name.length cn name (bW.below HBN.out (aA y0));simp only[agg,List.toArray]at H1
  cases hv:arq m p name
  .
   have HF:Hid (exC m fs p (.mk 7 x1 mod name kids)=2):=kI V42
   exact U31
  .
   have HF:Hid (exC m fs p (.mk 7 x1 mod name kids)=jC m fs p 0 kids):=iX V54
   exact U20
 have g7:(x0 == 7)=false:=by simpa using hx7
 by_cases hx6:x0=6
 .
  subst hx6;obtain⟨n0,n1,n2,n3,n4⟩:=z2.c5;obtain⟨k0,k1,k2,k3⟩:=z0.c4;have H1:=zE m fs 6 x1 mod name kids _ _ b nf d w1 (HE.out.rm.below (aA y0)) (HE.out.rf.below (aA y0)) HE.out.fl (aO.below HX.out (aA y0)) HE.out.pl;simp only[agg,List.toArray]at H1
  cases hq:fO m fs mod name with
  | none=>
   have HF:Hid (exC m fs p (.mk 6 x1 mod name kids)=2):=kI (by rw[jV,if_neg V7,if_neg V7,if_pos rfl,hq];rfl)
   rw[hq]at H1;clear hq HKK;go_wp2_with fail;refine H1.mono ?_;rintro r w2 ⟨v,rfl,_,hg⟩;have yg:=aD y0 hg;clear H1 n0 n1 n2 n3 n4 k0 k1 k2 k3 z0 z1 z2 hg;go_wp2_with fail;go_ret;exact⟨aQ HF.out.symm,yg⟩
  | some ks=>
   have HF:Hid (∀c,c=(if aEo ks kids=true then 4 else 0)->exC m fs p (.mk 6 x1 mod name kids)=jC m fs p c kids):=fun c hc=>iX (by rw[jV,if_neg V7,if_neg V7,if_pos rfl,hq,hc];rfl)
   rw[hq]at H1;clear hq;go_wp2_with fail;refine H1.mono ?_;rintro r w2 ⟨v,rfl,hv,hg⟩;obtain⟨ax,cx,rfl,hnr,hcx,hmx,_⟩:=hv ks rfl
   have HNR:Hid (pK w2 ax ks.length ks):=hnr
   have HG2:Hid (w1.grownBy w2 none):=hg
   have N2:Hid (Blk w2 (w.heap.size+1+1) 135 [.int .i64 6,.int .i64 x1,.slice am mod.length cm,.slice an name.length cn,.slice ak nk ck]):=z2.below (aA hg) z2.lt
   obtain⟨kl,As⟩:∃z,z=ks.length:=⟨_,rfl⟩
   have HKL:Hid (ks.length=kl):=As.symm
   rw[<-As]at HNR hcx ⊢
   have hkl9:kl<=9223372036854775807:=by unfold maxLen at hmx;omega
   clear H1 n0 n1 n2 n3 n4 k0 k1 k2 k3 z0 z1 z2 hg y0 hv hnr As;go_upto_region 15 with fail
   rename_i K3 h3 K4 h4
   have HK3:Hid (∀(c:Int) (t14 t15 t16 t17 t18 t19 t20 t21 t22 t23 t24 t25 t26 t27 t28 t29 t30 t31 t32 t33 t34 t35 t36 t37 t38 t39 t40 t41 t42 t43 t44 t45 t46 t47 t48 t49 t50:Value),c=(if decide (ks.length ≠ kids.length)=true then 4 else 0)->K3 { tmps:=#[.agg #[v0,v1,v2,v3],.slice b nf d,.agg #[u0,u1,u2,u3,u4],.agg #[.int .i64 6,.int .i64 x1,.slice am mod.length cm,.slice an name.length cn,.slice ak nk ck],.pointer (some ⟨w.heap.size,0,none⟩),undef,.pointer (some ⟨w.heap.size+1,0,none⟩),.pointer (some ⟨w.heap.size+1+1,0,none⟩),.int .i64 0,.int .i64 c,.slice ax kl cx,.bool true,undef,undef,t14,t15,t16,t17,t18,t19,t20,t21,t22,t23,t24,t25,t26,t27,t28,t29,t30,t31,t32,t33,t34,t35,t36,t37,t38,t39,t40,t41,t42,t43,t44,t45,t46,t47,t48,t49,t50,undef,undef,undef,undef,undef,undef,undef,undef,undef,undef,undef,undef,undef,undef,undef,undef,undef,undef,undef,undef,undef,undef,undef,undef,undef,undef,undef,undef,undef,undef,undef,undef,undef,undef,undef,undef,undef,undef,undef,undef,undef,undef,undef,undef,undef],defers:=[] } w2):=by
    intro c t14 t15 t16 t17 t18 t19 t20 t21 t22 t23 t24 t25 t26 t27 t28 t29 t30 t31 t32 t33 t34 t35 t36 t37 t38 t39 t40 t41 t42 t43 t44 t45 t46 t47 t48 t49 t50 hc
    have HC:Hid (c=(if decide (ks.length ≠ kids.length)=true then 4 else 0)):=hc
    clear hc;refine h3 _ _ ?_;clear h3 h4;go_wp2_with fail
    go_loopw [9,12] (fun cc i wr=>∃(j:Nat) (z:Int),j<=kl/\j<=nk/\i=.int .i64 j/\cc=.int .i64 z/\Hid (z=(if (decide (ks.length ≠ kids.length) || jR ks kids j)=true then 4 else 0))/\Hid (w1.grownBy wr none)/\Hid (Below w2.heap.size w2 wr)) (fun _ i _=>nk-(intOf i).toNat)
    case atStart=>exact⟨0,c,Nat.zero_le _,Nat.zero_le _,rfl,rfl,(by show _=_;rw[HC.out];simp[jR]),HG2,Below.refl _ _⟩
    case round=>
     obtain⟨j,z,hj1,hj2,rfl,rfl,hz,Hg,Hb⟩:=hrel;have zz:=N2.out.below Hb.out N2.out.lt;have n4:=zz.cell (i:=4) rfl;clear zz
     by_cases Ai:j<kl/\j<nk
     .
      obtain⟨hl1,hl2⟩:=Ai
      obtain⟨e,hej⟩:∃e,kids[j]?=some e:=⟨_,List.getElem?_eq_getElem (by rw[Bn.out];exact hl2)⟩
      obtain⟨kk,hkj⟩:∃k,ks[j]?=some k:=⟨_,List.getElem?_eq_getElem (by rw[HKL.out];exact hl1)⟩
      obtain⟨bx,ox,rfl,hcx2⟩:=HNR.out.2.2 V6;have yw:=aD Y0.out Hg.out;have r1:=aB (hcx2 j hl1) Hb.out;rw[hkj]at r1;simp only[Option.getD_some]at r1
      have HMN:Hid (jR ks kids (j+1)=(jR ks kids j || ((kk == 1) != (e.kd == 7)))):=by show _=_;rw[uJ,hkj,hej];rfl
      obtain⟨bk,off,es,rfl,hes,Ab⟩:=aS.cellsAt HK.out (show(exs kids)[j]?=some e.fl by rw[aJ,List.getElem?_map,hej];rfl)
      obtain⟨f0,f1,f2,f3,f4⟩:=e;obtain⟨s0,_,rfl,rfl,_⟩:=hes;have r2:=aB (Ab 0 _ rfl) (aA yw);rw[Nat.add_zero]at r2;simp only[Ex.kd]at HMN
      have HG3:Hid (∀n,w1.grownBy (wr.drewN n) none):=fun n=>aI (bdn (aA Hg.out) n) none
      have HB3:Hid (∀n,Below w2.heap.size w2 (wr.drewN n)):=fun n=>bdn Hb.out n
      have hl1':(j:Int)<(kl:Int):=V6;have hl2':(j:Int)<(nk:Int):=V6;clear Ab hej hkj hcx2 Hg Hb yw
      have hbe:(!(kk == 1) == (f0 == 7))=((kk == 1) != (f0 == 7)):=by cases (kk == 1) <;> cases (f0 == 7) <;> rfl
      cases hbb:((kk == 1) != (f0 == 7))
      .
       rw[hbb]at hbe
       have HZ:Hid (z=(if (decide (ks.length ≠ kids.length) || jR ks kids (j+1))=true then 4 else 0)):=by show _=_;rw[HMN.out,hbb,Bool.or_false];exact hz.out
       clear hz HMN hbb;go_wp2_with fail
       go_quiet (fail)
       go_wp2_with fail;go_roundw
       case rel=>exact⟨j+1,z,by omega,by omega,by go_num,rfl,HZ,HG3.out _,HB3.out _⟩
       case measure=>simp[intOf];omega
      .
       rw[hbb]at hbe
       have HZ:Hid (4=(if (decide (ks.length ≠ kids.length) || jR ks kids (j+1))=true then (4:Int) else 0)):=by show _=_;rw[HMN.out,hbb,Bool.or_true,Bool.or_true];rfl
       clear hz HMN hbb;go_wp2_with fail
       go_quiet (fail)
       go_wp2_with fail;go_roundw
       case rel=>exact⟨j+1,4,by omega,by omega,by go_num,rfl,HZ,HG3.out _,HB3.out _⟩
       case measure=>simp[intOf];omega
     .
      have HM:Hid (z=(if aEo ks kids=true then 4 else 0)):=by
       show _=_
       rw[hz.out];unfold aEo
       by_cases he:ks.length=kids.length
       .
        have h5:=HKL.out;have h6:=Bn.out
        have:min ks.length kids.length=j:=V6
        rw[this]
       .
        rw[decide_eq_true he,Bool.true_or,Bool.true_or]
      have HEQ:Hid (exC m fs p (.mk 6 x1 mod name kids)=jC m fs p z kids):=HF.out z HM.out
      clear hz HM
      by_cases hl1:j<kl
      .
       have hl2:¬(j:Int)<(nk:Int):=V6;have hl1':(j:Int)<(kl:Int):=V6;exact U96
      .
       have hl1':¬(j:Int)<(kl:Int):=V6;exact U96
   clear h3 HKK;have n4:=N2.out.cell (i:=4) rfl
   by_cases hne:kl=nk
   .
    have Aj:((kl:Int) != (nk:Int))=false:=by rw[hne];simp
    have H0:=fun t14 t15 t16 t17 t18 t19 t20 t21 t22 t23 t24 t25 t26 t27 t28 t29 t30 t31 t32 t33 t34 t35 t36 t37 t38 t39 t40 t41 t42 t43 t44 t45 t46 t47 t48 t49 t50=>HK3.out 0 t14 t15 t16 t17 t18 t19 t20 t21 t22 t23 t24 t25 t26 t27 t28 t29 t30 t31 t32 t33 t34 t35 t36 t37 t38 t39 t40 t41 t42 t43 t44 t45 t46 t47 t48 t49 t50 (by rw[decide_eq_false (by rw[HKL.out,Bn.out];simpa using hne)];rfl)
    exact U126
   .
    have Aj:((kl:Int) != (nk:Int))=true:=by simp;omega
    have H0:=fun t14 t15 t16 t17 t18 t19 t20 t21 t22 t23 t24 t25 t26 t27 t28 t29 t30 t31 t32 t33 t34 t35 t36 t37 t38 t39 t40 t41 t42 t43 t44 t45 t46 t47 t48 t49 t50=>HK3.out 4 t14 t15 t16 t17 t18 t19 t20 t21 t22 t23 t24 t25 t26 t27 t28 t29 t30 t31 t32 t33 t34 t35 t36 t37 t38 t39 t40 t41 t42 t43 t44 t45 t46 t47 t48 t49 t50 (by rw[decide_eq_true (by rw[HKL.out,Bn.out];exact hne)];rfl)
    exact U126
 have g6:(x0 == 6)=false:=by simpa using hx6
 have n0:=z2.cell (i:=0) rfl
 have HF:Hid (exC m fs p (.mk x0 x1 mod name kids)=jC m fs p 0 kids):=iX (by rw[jV,if_neg hx1,if_neg V6,if_neg hx6])
 clear hx1 hx2 hx5 hx6 hx7 z0 z1 z2;go_wp2_with fail;exact HKK.out 0 w1 _ _ _ _ _ _ _ _ _ _ _ _ _ _ _ _ _ _ _ _ _ _ _ _ _ _ _ _ _ _ _ _ _ _ _ _ _ _ _ _ _ _ _ _ _ _ _ _ _ _ _ _ _ _ _ _ _ _ _ _ _ _ _ _ _ _ (aP _ _) HF.out
mutual
theorem aK5 (m:Mo)(fs:List Fa)(p:Pr):∀e:Ex,aLf m fs p e
 | .mk x0 x1 mod name kids=>aIe m fs p x0 x1 mod name kids (aGj m fs p kids)
theorem aGj (m:Mo)(fs:List Fa)(p:Pr):∀l:List Ex,∀e ∈ l,aLf m fs p e
 | [],e,h=>by simp at h
 | y :: l,e,h=>by
  rcases List.mem_cons.1 h with h|h
  .
   exact h ▸ aK5 m fs p y
  .
   exact aGj m fs p l e h
end
theorem U35{p:Prop}(h:p:=by
 have HF:Hid (fY m fs p 0 l=fY m fs p (dE (jC m fs p z kids) (dE (fY m fs p 0 body) (fY m fs p 0 els))) (l.drop (j+1))):=by show _=_;rw[HZ.out,HDR.out];exact mF (by rw[pO];exact if_neg (by rw[hv];simp))
 rw[hv]at H1
 clear hv
 go_wp2_with fail
 refine H1.mono ?_
 rintro r w6 ⟨rfl,hg⟩
 replace z5:=z5.below (aA hg) z5.lt
 clear H1 n0 n2 k0 k1 k2 k3 q0 q1 q2 q3 q4 z0 z1
 have n0:=z5.cell (i:=0) rfl
 go_wp2_with fail
 exact HK3.out w6 _ _ _ _ _ _ _ _ _ _ _ _ _ _ _ _ _ _ _ _ _ _ _ _ _ _ _ _ _ _ _ _ _ _ _ _ _ _ _ _ _ _ _ _ _ _ _ _ _ _ _ _ _ _ _ _ _ _ _ _ _ _ _ _ _ _ _ _ _ hg HF.out):p:=h
theorem U55{p:Prop}(h:p:=by
 have HF:Hid (fY m fs p 0 l=2):=by show _=_;rw[HZ.out,HDR.out];exact pA (by rw[pO];exact if_pos (by rw[hv];simp))
 rw[hv]at H1
 clear hv HK3
 go_wp2_with fail
 refine H1.mono ?_
 rintro r w6 ⟨rfl,hg⟩
 have yg:=aD y5 hg
 replace z5:=z5.below (aA hg) z5.lt
 clear H1 n0 n2 k0 k1 k2 k3 q0 q1 q2 q3 q4 z0 z1 hg
 have n0:=z5.cell (i:=0) rfl
 go_wp2_with fail
 go_ret
 exact⟨aQ HF.out.symm,yg⟩):p:=h
mutual
def stC (m:Mo)(fs:List Fa)(p:Pr):Int->St->Option Int
 | c,.mk k _ name kids body els=>if ((decide (k=0) && !sgl m p name) || (decide (k=1) && !arq m p name))=true then none
  else some (dE (jC m fs p c kids) (dE (fY m fs p 0 body) (fY m fs p 0 els)))
def fY (m:Mo)(fs:List Fa)(p:Pr):Int->List St->Int
 | c,[]=>c
 | c,s :: l=>match stC m fs p c s with
  | none=>2
  | some c'=>fY m fs p c' l
end
theorem pO (m:Mo)(fs:List Fa)(p:Pr)(c k n:Int)(name:List Int)(kids:List Ex)(body els:List St):stC m fs p c (.mk k n name kids body els)=if ((decide (k=0) && !sgl m p name) || (decide (k=1) && !arq m p name))=true then none
  else some (dE (jC m fs p c kids) (dE (fY m fs p 0 body) (fY m fs p 0 els))):=by unfold stC;rfl
theorem pA {m:Mo}{fs:List Fa}{p:Pr}{c:Int}{s:St}{l:List St}(h:stC m fs p c s=none):fY m fs p c (s :: l)=2:=by unfold fY;rw[h]
theorem mF {m:Mo}{fs:List Fa}{p:Pr}{c c':Int}{s:St}{l:List St}(h:stC m fs p c s=some c'):fY m fs p c (s :: l)=fY m fs p c' l:=by conv=>lhs;unfold fY;rw[h]
theorem xC (m:Mo)(fs:List Fa)(p:Pr)(c:Int):fY m fs p c []=c:=by unfold fY;rfl
def nI (m:Mo)(fs:List Fa)(p:Pr)(l:List St):Prop:=∀(w:World) (vs us:List Value) (b:Option Addr) (nf d:Nat) (al:Option Addr) (cl:Nat),Env w m fs p vs us b nf d->aS w al cl 6 (sts l) →
 Calls Tryz.prog 29 #[agg vs,.slice b nf d,agg us,.slice al l.length cl] w fun r w'=>r=.returned (.int .i64 (fY m fs p 0 l))/\w.grownBy w' none
set_option maxHeartbeats 16000000 in
theorem qW (m:Mo)(fs:List Fa)(p:Pr)(l:List St)(IH:∀k n name kids body els,St.mk k n name kids body els ∈ l->nI m fs p body/\nI m fs p els):nI m fs p l:=by
 intro w vs us b nf d al cl hE hL
 obtain⟨v0,v1,v2,v3,rfl⟩:=mO (hE.rm.len.trans (show m.fl.length=4 from rfl))
 obtain⟨u0,u1,u2,u3,u4,rfl⟩:=eO (hE.rp.len.trans (show p.fl.length=5 from rfl))
 have hl9:=hL.len9
 have hll:(sts l).length=l.length:=by simp[aM]
 rw[hll]at hl9
 obtain⟨nl,hnl⟩:∃z,z=l.length:=⟨_,rfl⟩
 have HNL:Hid (l.length=nl):=hnl.symm
 rw[<-hnl]at hl9 ⊢
 have HE:Hid (Env w m fs p [v0,v1,v2,v3] [u0,u1,u2,u3,u4] b nf d):=hE
 have HL:Hid (aS w al cl 6 (sts l)):=hL
 have HI:Hid (∀k n name kids body els,St.mk k n name kids body els ∈ l->nI m fs p body/\nI m fs p els):=IH
 clear hE hL IH hll hnl;have z0:=(Blk.new w 35 [v0,v1,v2,v3]).old (o:=.cells #[u0,u1,u2,u3,u4] 72 (0,0));have z1:=Blk.new (w.alloc (.cells #[v0,v1,v2,v3] 35 (0,0))) 72 [u0,u1,u2,u3,u4]
 have hg1:(w.alloc (.cells #[v0,v1,v2,v3] 35 (0,0))).heap.size=w.heap.size+1:=by simp
 have y0:w.grownBy ((w.alloc (.cells #[v0,v1,v2,v3] 35 (0,0))).alloc (.cells #[u0,u1,u2,u3,u4] 72 (0,0))) none:=aD (aC w _ none) (aC _ _ none)
 simp only[List.toArray]at z0 z1;rw[hg1]at z1;clear hg1;simp only[agg];go_enter Tryz.func29,Tryz.ntmps29;go_upto_region 1 with fail;generalize (w.alloc (.cells #[v0,v1,v2,v3] 35 (0,0))).alloc (.cells #[u0,u1,u2,u3,u4] 72 (0,0))=w1 at *
 have Z0:Hid (Blk w1 w.heap.size 35 [v0,v1,v2,v3]):=z0
 have Z1:Hid (Blk w1 (w.heap.size+1) 72 [u0,u1,u2,u3,u4]):=z1
 have Y0:Hid (w.grownBy w1 none):=y0
 clear z0 z1 y0;go_wp2_with fail
 go_loopw [9,10] (fun cc i wr=>∃(j:Nat) (z:Int),j<=nl/\i=.int .i64 j/\cc=.int .i64 z/\Hid (fY m fs p 0 l=fY m fs p z (l.drop j))/\Hid (w1.grownBy wr none)) (fun _ i _=>nl-(intOf i).toNat)
 case atStart=>exact⟨0,0,Nat.zero_le _,rfl,rfl,rfl,aP _ _⟩
 case round=>
  obtain⟨j,z,hj,rfl,rfl,HZ,Hg⟩:=hrel;have hg:=Hg.out;have yw:=aD Y0.out hg
  by_cases Ai:j<nl
  .
   obtain⟨s,hsj⟩:∃s,l[j]?=some s:=⟨_,List.getElem?_eq_getElem (by rw[HNL.out];exact Ai)⟩
   obtain⟨y0,y1,name,kids,body,els⟩:=s
   have HDR:Hid (l.drop j=St.mk y0 y1 name kids body els :: l.drop (j+1)):=by
    obtain⟨h5,h6⟩:=List.getElem?_eq_some_iff.1 hsj
    show _=_
    rw[List.drop_eq_getElem_cons h5,h6]
   have HIs:=HI.out _ _ _ _ _ _ (List.mem_of_getElem? hsj)
   obtain⟨bs,ofs,ss,rfl,hss,Ab⟩:=aS.cellsAt HL.out (show(sts l)[j]?=some (St.fl ⟨y0,y1,name,kids,body,els⟩) by rw[aM,List.getElem?_map,hsj];rfl)
   obtain⟨s0,_,rfl,rfl,s1,_,rfl,rfl,s2,_,rfl,⟨an,cn,rfl,hbn,_⟩,s3,_,rfl,hk,s4,_,rfl,hbd,s5,_,rfl,hel,rfl⟩:=hss;obtain⟨ak,ck,rfl,hK⟩:=hk.list;obtain⟨ab,cb,rfl,hB⟩:=hbd.list;obtain⟨ae,ce,rfl,hEl⟩:=hel.list;have hk9:=hK.len9;have hb9:=hB.len9;have he9:=hEl.len9
   have e1:(exs kids).length=kids.length:=by simp[aJ]
   have e2:(sts body).length=body.length:=by simp[aM]
   have e3:(sts els).length=els.length:=by simp[aM]
   rw[e1]at hk9 Ab;rw[e2]at hb9 Ab;rw[e3]at he9 Ab
   obtain⟨nk,hnk⟩:∃z,z=kids.length:=⟨_,rfl⟩
   obtain⟨nb,hnb⟩:∃z,z=body.length:=⟨_,rfl⟩
   obtain⟨ne,hne⟩:∃z,z=els.length:=⟨_,rfl⟩
   have Bn:Hid (kids.length=nk):=hnk.symm
   have HNB:Hid (body.length=nb):=hnb.symm
   have HNE:Hid (els.length=ne):=hne.symm
   rw[<-hnk,<-hnb,<-hne]at Ab;rw[<-hnk]at hk9;rw[<-hnb]at hb9;rw[<-hne]at he9
   have HBN:Hid (bW w an name.length name):=hbn
   have HK:Hid (aS w ak ck 5 (exs kids)):=hK
   have HB:Hid (aS w ab cb 6 (sts body)):=hB
   have HEL:Hid (aS w ae ce 6 (sts els)):=hEl
   have HIB:Hid (nI m fs p body):=HIs.1
   have HIE:Hid (nI m fs p els):=HIs.2
   have bw:=aA yw;have r0:=aB (Ab 0 _ rfl) bw;have r1:=aB (Ab 1 _ rfl) bw;have r2:=aB (Ab 2 _ rfl) bw;have r3:=aB (Ab 3 _ rfl) bw;have r4:=aB (Ab 4 _ rfl) bw;have r5:=aB (Ab 5 _ rfl) bw;rw[Nat.add_zero]at r0;have z5:=Blk.new wr 131 [.int .i64 y0,.int .i64 y1,.slice an name.length cn,.slice ak nk ck,.slice ab nb cb,.slice ae ne ce];have g5:=aC wr (.cells #[.int .i64 y0,.int .i64 y1,.slice an name.length cn,.slice ak nk ck,.slice ab nb cb,.slice ae ne ce] 131 (0,0)) none;simp only[List.toArray]at z5;clear Ab hsj hbn hK hB hEl HIs hk hbd hel e1 e2 e3 hnk hnb hne;go_upto_region 6 with fail;generalize wr.alloc (.cells #[.int .i64 y0,.int .i64 y1,.slice an name.length cn,.slice ak nk ck,.slice ab nb cb,.slice ae ne ce] 131 (0,0))=w5 at *;have hgS:wr.heap.size=wr.heap.size:=rfl;generalize wr.heap.size=gS at *;have y5:=aD yw g5;have g15:=aD hg g5;have bw5:=aA y5
   have Y5:Hid (w.grownBy w5 none):=y5
   have G15:Hid (w1.grownBy w5 none):=g15
   have Z5:Hid (Blk w5 gS 131 [.int .i64 y0,.int .i64 y1,.slice an name.length cn,.slice ak nk ck,.slice ab nb cb,.slice ae ne ce]):=z5
   have z0:=Z0.out.below (aA g15) Z0.out.lt;have z1:=Z1.out.below (aA g15) Z1.out.lt
   have Z05:Hid (Blk w5 w.heap.size 35 [v0,v1,v2,v3]):=z0
   have Z15:Hid (Blk w5 (w.heap.size+1) 72 [u0,u1,u2,u3,u4]):=z1
   clear r0 r1 r2 r3 r4 r5 bw yw hg Hg g5 g15 hgS
   rename_i K3 h3 K4 h4
   have HK3:Hid (∀(w6:World) (t8 t12 t13 t14 t15 t16 t17 t18 t19 t20 t21 t22 t23 t24 t25 t26 t27 t28 t29 t30 t31 t32 t33 t34 t35 t36 t37 t38 t39 t40 t41 t42 t43 t44 t45 t46 t47 t48 t49 t50 t51 t52 t53 t54 t55 t56 t57 t58 t59 t60 t61 t62 t63 t64 t65 t66 t67 t68 t69 t70 t71 t72 t73 t74 t75 t76 t77 t78 t79:Value),w5.grownBy w6 none->fY m fs p 0 l=fY m fs p (dE (jC m fs p z kids) (dE (fY m fs p 0 body) (fY m fs p 0 els))) (l.drop (j+1))->K3 { tmps:=#[.agg #[v0,v1,v2,v3],.slice b nf d,.agg #[u0,u1,u2,u3,u4],.slice (some ⟨bs,ofs,none⟩) nl cl,.pointer (some ⟨w.heap.size,0,none⟩),undef,.pointer (some ⟨w.heap.size+1,0,none⟩),undef,t8,.int .i64 z,.int .i64 j,.pointer (some ⟨gS,0,none⟩),t12,t13,t14,t15,t16,t17,t18,t19,t20,t21,t22,t23,t24,t25,t26,t27,t28,t29,t30,t31,t32,t33,t34,t35,t36,t37,t38,t39,t40,t41,t42,t43,t44,t45,t46,t47,t48,t49,t50,t51,t52,t53,t54,t55,t56,t57,t58,t59,t60,t61,t62,t63,t64,t65,t66,t67,t68,t69,t70,t71,t72,t73,t74,t75,t76,t77,t78,t79,undef],defers:=[] } w6):=by
    intro w6 t8 t12 t13 t14 t15 t16 t17 t18 t19 t20 t21 t22 t23 t24 t25 t26 t27 t28 t29 t30 t31 t32 t33 t34 t35 t36 t37 t38 t39 t40 t41 t42 t43 t44 t45 t46 t47 t48 t49 t50 t51 t52 t53 t54 t55 t56 t57 t58 t59 t60 t61 t62 t63 t64 t65 t66 t67 t68 t69 t70 t71 t72 t73 t74 t75 t76 t77 t78 t79 hg6 heq
    have HEQ:Hid (fY m fs p 0 l=fY m fs p (dE (jC m fs p z kids) (dE (fY m fs p 0 body) (fY m fs p 0 els))) (l.drop (j+1))):=heq
    have G6:Hid (w5.grownBy w6 none):=hg6
    clear hg6 heq h4 z0 z1 z5 y5 bw5 HZ HDR;refine h3 _ _ ?_;clear h3;go_wp2_with fail
    go_loopw [9,12] (fun cc i wr=>∃(i':Nat) (x:Int),i'<=nk/\i=.int .i64 i'/\cc=.int .i64 x/\Hid (x=jC m fs p z (kids.take i'))/\Hid (w5.grownBy wr none)) (fun _ i _=>nk-(intOf i).toNat)
    case atStart=>exact⟨0,z,Nat.zero_le _,rfl,rfl,(by show _=_;simp[jC]),G6⟩
    case round=>
     obtain⟨i,x,hi,rfl,rfl,hx,Hg⟩:=hrel;have hg:=Hg.out;have yw:=aD Y5.out hg;have bw:=aA yw;have z0:=Z05.out.below (aA hg) Z05.out.lt;have z1:=Z15.out.below (aA hg) Z15.out.lt;have z5:=Z5.out.below (aA hg) Z5.out.lt;have n3:=z5.cell (i:=3) rfl
     by_cases hlk:i<nk
     .
      obtain⟨e,hej⟩:∃e,kids[i]?=some e:=⟨_,List.getElem?_eq_getElem (by rw[Bn.out];exact hlk)⟩
      have HX2:Hid (dE x (exC m fs p e)=jC m fs p z (kids.take (i+1))):=by show _=_;rw[tA hej,hx.out]
      obtain⟨bk,off,es,rfl,hes,Ab⟩:=aS.cellsAt HK.out (show(exs kids)[i]?=some e.fl by rw[aJ,List.getElem?_map,hej];rfl)
      have hel:es.length=5:=by rw[hes.len];cases e;rfl
      obtain⟨s0,s1,s2,s3,s4,rfl⟩:=eO hel
      have HES:Hid (aO w e.fl [s0,s1,s2,s3,s4]):=hes
      have r0:=aB (Ab 0 _ rfl) bw;have r1:=aB (Ab 1 _ rfl) bw;have r2:=aB (Ab 2 _ rfl) bw;have r3:=aB (Ab 3 _ rfl) bw;have r4:=aB (Ab 4 _ rfl) bw;rw[Nat.add_zero]at r0;clear Ab hej hes hel hx
      have HS:∀{wl:World},Below wr.heap.size wr wl->wl.cell? ⟨w.heap.size,0,none⟩=some (v0)/\wl.cell? ⟨w.heap.size,1,none⟩=some (v1)/\wl.cell? ⟨w.heap.size,2,none⟩=some (v2)/\wl.cell? ⟨w.heap.size,3,none⟩=some (v3)/\wl.cell? ⟨w.heap.size+1,0,none⟩=some (u0)/\wl.cell? ⟨w.heap.size+1,1,none⟩=some (u1)/\wl.cell? ⟨w.heap.size+1,2,none⟩=some (u2)/\wl.cell? ⟨w.heap.size+1,3,none⟩=some (u3)/\wl.cell? ⟨w.heap.size+1,4,none⟩=some (u4)/\wl.cell? ⟨gS,3,none⟩=some (.slice (some ⟨bk,off,none⟩) nk ck)/\wl.cell? ⟨bk,off+i*5,none⟩=some s0/\wl.cell? ⟨bk,off+i*5+1,none⟩=some s1/\wl.cell? ⟨bk,off+i*5+2,none⟩=some s2/\wl.cell? ⟨bk,off+i*5+3,none⟩=some s3/\wl.cell? ⟨bk,off+i*5+4,none⟩=some s4:=fun hb=>⟨aB (z0.cell (i:=0) rfl) hb,aB (z0.cell (i:=1) rfl) hb,aB (z0.cell (i:=2) rfl) hb,aB (z0.cell (i:=3) rfl) hb,aB (z1.cell (i:=0) rfl) hb,aB (z1.cell (i:=1) rfl) hb,aB (z1.cell (i:=2) rfl) hb,aB (z1.cell (i:=3) rfl) hb,aB (z1.cell (i:=4) rfl) hb,aB n3 hb,aB r0 hb,aB r1 hb,aB r2 hb,aB r3 hb,aB r4 hb⟩
      have Al:=HS (wl:=wr.drew) (Below.refl _ _).drew;have H9:=aK5 m fs p e wr.drew _ _ _ b nf d (HE.out.below bw.drew) (aO.below HES.out bw.drew);simp only[agg,List.toArray]at H9;go_wp2_with fail
      refine wp_region_held_drew (S:=fun wl=>wl.cell? ⟨w.heap.size,0,none⟩=some (v0)/\wl.cell? ⟨w.heap.size,1,none⟩=some (v1)/\wl.cell? ⟨w.heap.size,2,none⟩=some (v2)/\wl.cell? ⟨w.heap.size,3,none⟩=some (v3)/\wl.cell? ⟨w.heap.size+1,0,none⟩=some (u0)/\wl.cell? ⟨w.heap.size+1,1,none⟩=some (u1)/\wl.cell? ⟨w.heap.size+1,2,none⟩=some (u2)/\wl.cell? ⟨w.heap.size+1,3,none⟩=some (u3)/\wl.cell? ⟨w.heap.size+1,4,none⟩=some (u4)/\wl.cell? ⟨gS,3,none⟩=some (.slice (some ⟨bk,off,none⟩) nk ck)/\wl.cell? ⟨bk,off+i*5,none⟩=some s0/\wl.cell? ⟨bk,off+i*5+1,none⟩=some s1/\wl.cell? ⟨bk,off+i*5+2,none⟩=some s2/\wl.cell? ⟨bk,off+i*5+3,none⟩=some s3/\wl.cell? ⟨bk,off+i*5+4,none⟩=some s4) V0 Al (fun Aa=>?_)
      refine wpAnyH_take (i:=0) (v:=?v501) rfl V0 V0 V0 (fun _ _ _ h=>h) (.inl ⟨by rfl, ?y501⟩) Aa ?_
      case y501=>intro w Bp;(try dsimp only at Bp);go_simp;first|done|rfl
      refine wpAnyH_take (i:=1) (v:=?v502) rfl V0 V0 V0 (fun _ _ _ h=>h) (.inl ⟨by rfl, ?y502⟩) Aa ?_
      case y502=>intro w Bp;(try dsimp only at Bp);go_simp;first|done|rfl
      refine wpAnyH_take (i:=2) (v:=?v503) rfl V0 V0 V0 (fun _ _ _ h=>h) (.inl ⟨by rfl, ?y503⟩) Aa ?_
      case y503=>intro w Bp;(try dsimp only at Bp);go_simp;first|done|rfl
      refine wpAnyH_take (i:=3) (v:=?v504) rfl V0 V0 V0 (fun _ _ _ h=>h) (.inl ⟨by rfl, ?y504⟩) Aa ?_
      case y504=>intro w Bp;(try dsimp only at Bp);go_simp;first|done|rfl
      refine wpAnyH_take (i:=4) (v:=?v505) rfl V0 V0 V0 (fun _ _ _ h=>h) (.inl ⟨by rfl, ?y505⟩) Aa ?_
      case y505=>intro w Bp;(try dsimp only at Bp);go_simp;first|done|rfl
      refine wpAnyH_take (i:=5) (v:=?v506) rfl V0 V0 V0 (fun _ _ _ h=>h) (.inl ⟨by rfl, ?y506⟩) Aa ?_
      case y506=>intro w Bp;(try dsimp only at Bp);go_simp;first|done|rfl
      refine wpAnyH_take (i:=6) (v:=?v507) rfl V0 V0 V0 (fun _ _ _ h=>h) (.inl ⟨by rfl, ?y507⟩) Aa ?_
      case y507=>intro w Bp;(try dsimp only at Bp);go_simp;first|done|rfl
      refine wpAnyH_take (i:=7) (v:=?v508) rfl V0 V0 V0 (fun _ _ _ h=>h) (.inl ⟨by rfl, ?y508⟩) Aa ?_
      case y508=>intro w Bp;(try dsimp only at Bp);go_simp;first|done|rfl
      refine wpAnyH_take (i:=8) (v:=?v509) rfl V0 V0 V0 (fun _ _ _ h=>h) (.inl ⟨by rfl, ?y509⟩) Aa ?_
      case y509=>intro w Bp;(try dsimp only at Bp);go_simp;first|done|rfl
      try simp only[Act.put,List.getElem_toArray,List.getElem_cons_zero,List.getElem_cons_succ,List.setIfInBounds_toArray,List.set_cons_zero,List.set_cons_succ]
      refine ra 9 fun K hK=>?_
      go_simp
      (with_reducible refine H9.mono ?_)
      rintro r w4 ⟨rfl,Bg⟩
      have b4:Below wr.heap.size wr w4:=(Below.refl wr.heap.size wr).drew.trans (aA Bg)
      have HS4:=HS b4;have H10:=rS x (exC m fs p e) w4;go_wp2_with fail
      refine hK.out _ _ (HS4) (fun Aa=>?_)
      clear hK K;try simp only[Act.put,List.getElem_toArray,List.getElem_cons_zero,List.getElem_cons_succ,List.setIfInBounds_toArray,List.set_cons_zero,List.set_cons_succ]
      refine ra 10 fun K hK=>?_
      go_simp
      (with_reducible refine H10.mono ?_)
      rintro r w7 ⟨rfl,rfl⟩;go_wp2_with fail
      refine hK.out _ _ (HS4) (fun Aa=>?_)
      clear hK K;try simp only[Act.put,List.getElem_toArray,List.getElem_cons_zero,List.getElem_cons_succ,List.setIfInBounds_toArray,List.set_cons_zero,List.set_cons_succ]
      refine wpAnyH_take (i:=11) (v:=?v512) rfl V0 V0 V0 (fun _ _ _ h=>h) (.inl ⟨by rfl, ?y512⟩) Aa ?_
      case y512=>intro w Bp;(try dsimp only at Bp);go_simp;first|done|rfl
      try simp only[Act.put,List.getElem_toArray,List.getElem_cons_zero,List.getElem_cons_succ,List.setIfInBounds_toArray,List.set_cons_zero,List.set_cons_succ]
      refine wpAnyH_done V0 ?_ _
      have HG7:Hid (w5.grownBy w7 none):=aD hg (aI b4 none)
      clear HS Al HS4 Aa H9 H10 r0 r1 r2 r3 r4 n3 z0 z1 z5 bw yw hg Hg Bg b4;generalize dE x (exC m fs p e)=x' at *;go_wp2_with fail;go_roundw
      case rel=>exact⟨i+1,x',by omega,by go_num,rfl,HX2,HG7⟩
      case measure=>simp[intOf];omega
     .
      have:nk=i:=by omega
      subst this
      have HXF:Hid (x=jC m fs p z kids):=by show _=_;rw[hx.out,List.take_of_length_le (by rw[Bn.out];exact Nat.le_refl _)]
      clear hx;have n4:=z5.cell (i:=4) rfl;have n5:=z5.cell (i:=5) rfl
      have HS:∀{wl:World},Below wr.heap.size wr wl->wl.cell? ⟨w.heap.size,0,none⟩=some (v0)/\wl.cell? ⟨w.heap.size,1,none⟩=some (v1)/\wl.cell? ⟨w.heap.size,2,none⟩=some (v2)/\wl.cell? ⟨w.heap.size,3,none⟩=some (v3)/\wl.cell? ⟨w.heap.size+1,0,none⟩=some (u0)/\wl.cell? ⟨w.heap.size+1,1,none⟩=some (u1)/\wl.cell? ⟨w.heap.size+1,2,none⟩=some (u2)/\wl.cell? ⟨w.heap.size+1,3,none⟩=some (u3)/\wl.cell? ⟨w.heap.size+1,4,none⟩=some (u4)/\wl.cell? ⟨gS,4,none⟩=some (.slice ab nb cb)/\wl.cell? ⟨gS,5,none⟩=some (.slice ae ne ce):=fun hb=>⟨aB (z0.cell (i:=0) rfl) hb,aB (z0.cell (i:=1) rfl) hb,aB (z0.cell (i:=2) rfl) hb,aB (z0.cell (i:=3) rfl) hb,aB (z1.cell (i:=0) rfl) hb,aB (z1.cell (i:=1) rfl) hb,aB (z1.cell (i:=2) rfl) hb,aB (z1.cell (i:=3) rfl) hb,aB (z1.cell (i:=4) rfl) hb,aB n4 hb,aB n5 hb⟩
      have Al:=HS (wl:=wr.drew) (Below.refl _ _).drew;have H6:=HIB.out wr.drew _ _ b nf d ab cb (HE.out.below bw.drew) (aS.below HB.out bw.drew);rw[HNB.out]at H6;simp only[agg,List.toArray]at H6;go_wp2_with fail
      refine wp_region_held_drew (S:=fun wl=>wl.cell? ⟨w.heap.size,0,none⟩=some (v0)/\wl.cell? ⟨w.heap.size,1,none⟩=some (v1)/\wl.cell? ⟨w.heap.size,2,none⟩=some (v2)/\wl.cell? ⟨w.heap.size,3,none⟩=some (v3)/\wl.cell? ⟨w.heap.size+1,0,none⟩=some (u0)/\wl.cell? ⟨w.heap.size+1,1,none⟩=some (u1)/\wl.cell? ⟨w.heap.size+1,2,none⟩=some (u2)/\wl.cell? ⟨w.heap.size+1,3,none⟩=some (u3)/\wl.cell? ⟨w.heap.size+1,4,none⟩=some (u4)/\wl.cell? ⟨gS,4,none⟩=some (.slice ab nb cb)/\wl.cell? ⟨gS,5,none⟩=some (.slice ae ne ce)) V0 Al (fun Aa=>?_)
      refine wpAnyH_take (i:=0) (v:=?v513) rfl V0 V0 V0 (fun _ _ _ h=>h) (.inl ⟨by rfl, ?y513⟩) Aa ?_
      case y513=>intro w Bp;(try dsimp only at Bp);go_simp;first|done|rfl
      refine wpAnyH_take (i:=1) (v:=?v514) rfl V0 V0 V0 (fun _ _ _ h=>h) (.inl ⟨by rfl, ?y514⟩) Aa ?_
      case y514=>intro w Bp;(try dsimp only at Bp);go_simp;first|done|rfl
      refine wpAnyH_take (i:=2) (v:=?v515) rfl V0 V0 V0 (fun _ _ _ h=>h) (.inl ⟨by rfl, ?y515⟩) Aa ?_
      case y515=>intro w Bp;(try dsimp only at Bp);go_simp;first|done|rfl
      refine wpAnyH_take (i:=3) (v:=?v516) rfl V0 V0 V0 (fun _ _ _ h=>h) (.inl ⟨by rfl, ?y516⟩) Aa ?_
      case y516=>intro w Bp;(try dsimp only at Bp);go_simp;first|done|rfl
      refine wpAnyH_take (i:=4) (v:=?v517) rfl V0 V0 V0 (fun _ _ _ h=>h) (.inl ⟨by rfl, ?y517⟩) Aa ?_
      case y517=>intro w Bp;(try dsimp only at Bp);go_simp;first|done|rfl
      refine wpAnyH_take (i:=5) (v:=?v518) rfl V0 V0 V0 (fun _ _ _ h=>h) (.inl ⟨by rfl, ?y518⟩) Aa ?_
      case y518=>intro w Bp;(try dsimp only at Bp);go_simp;first|done|rfl
      refine wpAnyH_take (i:=7) (v:=?v519) rfl V0 V0 V0 (fun _ _ _ h=>h) (.inl ⟨by rfl, ?y519⟩) Aa ?_
      case y519=>intro w Bp;(try dsimp only at Bp);go_simp;first|done|rfl
      refine wpAnyH_take (i:=8) (v:=?v520) rfl V0 V0 V0 (fun _ _ _ h=>h) (.inl ⟨by rfl, ?y520⟩) Aa ?_
      case y520=>intro w Bp;(try dsimp only at Bp);go_simp;first|done|rfl
      refine wpAnyH_take (i:=9) (v:=?v521) rfl V0 V0 V0 (fun _ _ _ h=>h) (.inl ⟨by rfl, ?y521⟩) Aa ?_
      case y521=>intro w Bp;(try dsimp only at Bp);go_simp;first|done|rfl
      refine wpAnyH_take (i:=10) (v:=?v522) rfl V0 V0 V0 (fun _ _ _ h=>h) (.inl ⟨by rfl, ?y522⟩) Aa ?_
      case y522=>intro w Bp;(try dsimp only at Bp);go_simp;first|done|rfl
      refine wpAnyH_take (i:=11) (v:=?v523) rfl V0 V0 V0 (fun _ _ _ h=>h) (.inl ⟨by rfl, ?y523⟩) Aa ?_
      case y523=>intro w Bp;(try dsimp only at Bp);go_simp;first|done|rfl
      try simp only[Act.put,List.getElem_toArray,List.getElem_cons_zero,List.getElem_cons_succ,List.setIfInBounds_toArray,List.set_cons_zero,List.set_cons_succ]
      refine ra 6 fun K hK=>?_
      go_simp
      (with_reducible refine H6.mono ?_)
      rintro r w4 ⟨rfl,Bg⟩
      have b4:Below wr.heap.size wr w4:=(Below.refl wr.heap.size wr).drew.trans (aA Bg)
      have HS4:=HS b4
      have bw4:Below w.heap.size w w4:=bw.trans (b4.mono bw.size)
      have H12:=HIE.out w4 _ _ b nf d ae ce (HE.out.below bw4) (aS.below HEL.out bw4);rw[HNE.out]at H12;simp only[agg,List.toArray]at H12;go_wp2_with fail
      refine hK.out _ _ (HS4) (fun Aa=>?_)
      clear hK K;try simp only[Act.put,List.getElem_toArray,List.getElem_cons_zero,List.getElem_cons_succ,List.setIfInBounds_toArray,List.set_cons_zero,List.set_cons_succ]
      refine ra 12 fun K hK=>?_
      go_simp
      (with_reducible refine H12.mono ?_)
      rintro r w7 ⟨rfl,hg7⟩
      have b7:Below wr.heap.size wr w7:=b4.trans ((aA hg7).mono b4.size)
      have HS7:=HS b7;have H13:=rS (fY m fs p 0 body) (fY m fs p 0 els) w7;have H14:=rS x (dE (fY m fs p 0 body) (fY m fs p 0 els)) w7;go_wp2_with fail
      refine hK.out _ _ (HS7) (fun Aa=>?_)
      clear hK K;try simp only[Act.put,List.getElem_toArray,List.getElem_cons_zero,List.getElem_cons_succ,List.setIfInBounds_toArray,List.set_cons_zero,List.set_cons_succ]
      refine ra 13 fun K hK=>?_
      go_simp
      (with_reducible refine H13.mono ?_)
      rintro r w8 ⟨rfl,rfl⟩;go_wp2_with fail
      refine hK.out _ _ (HS7) (fun Aa=>?_)
      clear hK K;try simp only[Act.put,List.getElem_toArray,List.getElem_cons_zero,List.getElem_cons_succ,List.setIfInBounds_toArray,List.set_cons_zero,List.set_cons_succ]
      refine ra 14 fun K hK=>?_
      go_simp
      (with_reducible refine H14.mono ?_)
      rintro r w9 ⟨rfl,rfl⟩;go_wp2_with fail
      refine hK.out _ _ (HS7) (fun Aa=>?_)
      clear hK K;try simp only[Act.put,List.getElem_toArray,List.getElem_cons_zero,List.getElem_cons_succ,List.setIfInBounds_toArray,List.set_cons_zero,List.set_cons_succ]
      refine wpAnyH_take (i:=15) (v:=?v528) rfl V0 V0 V0 (fun _ _ _ h=>h) (.inl ⟨by rfl, ?y528⟩) Aa ?_
      case y528=>intro w Bp;(try dsimp only at Bp);go_simp;first|done|rfl
      try simp only[Act.put,List.getElem_toArray,List.getElem_cons_zero,List.getElem_cons_succ,List.setIfInBounds_toArray,List.set_cons_zero,List.set_cons_succ]
      refine wpAnyH_done V0 ?_ _
      have HG9:Hid (w1.grownBy w9 none):=aD G15.out (aD hg (aI b7 none))
      have HFIN:Hid (fY m fs p 0 l=fY m fs p (dE x (dE (fY m fs p 0 body) (fY m fs p 0 els))) (l.drop (j+1))):=by show _=_;rw[HXF.out];exact HEQ.out
      clear HS Al HS4 HS7 Aa H6 H12 H13 H14 n3 n4 n5 z0 z1 z5 bw bw4 yw hg Hg Bg hg7 b4 b7 HXF HEQ;generalize dE x (dE (fY m fs p 0 body) (fY m fs p 0 els))=x' at *;go_wp2_with fail;go_roundw
      case rel=>exact⟨j+1,x',by omega,by go_num,rfl,HFIN,HG9⟩
      case measure=>simp[intOf];omega
   clear h3
   by_cases hy0:y0=0
   .
    subst hy0;have n0:=z5.cell (i:=0) rfl;have n2:=z5.cell (i:=2) rfl;obtain⟨k0,k1,k2,k3⟩:=z0.c4;obtain⟨q0,q1,q2,q3,q4⟩:=z1.c5;have H1:=sS m p _ _ w5 (HE.out.rm.below bw5) (HE.out.rp.below bw5) an name.length cn name (bW.below HBN.out bw5);simp only[agg,List.toArray]at H1
    cases hv:sgl m p name
    .
     exact U55
    .
     exact U35
   have gy0:(y0 == 0)=false:=by simpa using hy0
   by_cases hy1:y0=1
   .
    subst hy1;have n0:=z5.cell (i:=0) rfl;have n2:=z5.cell (i:=2) rfl;obtain⟨k0,k1,k2,k3⟩:=z0.c4;obtain⟨q0,q1,q2,q3,q4⟩:=z1.c5;have H1:=nR m p _ _ w5 (HE.out.rm.below bw5) (HE.out.rp.below bw5) an name.length cn name (bW.below HBN.out bw5);simp only[agg,List.toArray]at H1
    cases hv:arq m p name
    .
     exact U55
    .
     exact U35
   have gy1:(y0 == 1)=false:=by simpa using hy1
   have HF:Hid (fY m fs p 0 l=fY m fs p (dE (jC m fs p z kids) (dE (fY m fs p 0 body) (fY m fs p 0 els))) (l.drop (j+1))):=by show _=_;rw[HZ.out,HDR.out];exact mF (by rw[pO];exact if_neg (by rw[decide_eq_false hy0,decide_eq_false hy1];simp))
   have n0:=z5.cell (i:=0) rfl;clear hy0 hy1 z0 z1 z5;go_wp2_with fail;exact HK3.out w5 _ _ _ _ _ _ _ _ _ _ _ _ _ _ _ _ _ _ _ _ _ _ _ _ _ _ _ _ _ _ _ _ _ _ _ _ _ _ _ _ _ _ _ _ _ _ _ _ _ _ _ _ _ _ _ _ _ _ _ _ _ _ _ _ _ _ _ _ _ (aP _ _) HF.out
  .
   have:nl=j:=by omega
   subst this
   have HF:Hid (fY m fs p 0 l=z):=by show _=_;rw[HZ.out,List.drop_of_length_le (by rw[HNL.out];exact Nat.le_refl _),xC]
   clear HZ;exact U135
mutual
theorem aLm (m:Mo)(fs:List Fa)(p:Pr):∀s:St,∀k n name kids body els,s=St.mk k n name kids body els->nI m fs p body/\nI m fs p els
 | .mk _ _ _ _ b1 e1,k,n,name,kids,body,els,h=>by
  have h1:=qW m fs p b1 (xB m fs p b1);have h2:=qW m fs p e1 (xB m fs p e1);cases h;exact⟨h1,h2⟩
theorem xB (m:Mo)(fs:List Fa)(p:Pr):∀l:List St,∀k n name kids body els,St.mk k n name kids body els ∈ l->nI m fs p body/\nI m fs p els
 | [],k,n,name,kids,body,els,h=>by simp at h
 | y :: l,k,n,name,kids,body,els,h=>by
  rcases List.mem_cons.1 h with h|h
  .
   exact aLm m fs p y k n name kids body els h.symm
  .
   exact xB m fs p l k n name kids body els h
end
theorem aMm (m:Mo)(fs:List Fa)(p:Pr)(l:List St):nI m fs p l:=qW m fs p l (xB m fs p l)
def UAt (m:Mo)(fs:List Fa)(i:Nat)(u:List Int):Prop:=u ≠ m.name/\ix (fs.map Fa.name) u ≠ none/\u ∉ m.uses.take i
def aJk (m:Mo)(fs:List Fa):Prop:=∀i u,m.uses[i]?=some u->UAt m fs i u
noncomputable def usB (m:Mo) (fs:List Fa):Bool:=@decide (aJk m fs) (Classical.propDecidable _)
theorem aDw {m:Mo}{fs:List Fa}(h:¬aJk m fs):usB m fs=false:=by unfold usB;exact @decide_eq_false _ (Classical.propDecidable _) h
theorem aF0 {m:Mo}{fs:List Fa}(h:aJk m fs):usB m fs=true:=by unfold usB;exact @decide_eq_true _ (Classical.propDecidable _) h
def qP (m:Mo)(fs:List Fa):Int->List Pr->Int
 | c,[]=>c
 | c,q :: l=>qP m fs (dE c (fY m fs q 0 q.body)) l
theorem uB (m:Mo)(fs:List Fa)(c:Int)(l r:List Pr):qP m fs c (l++r)=qP m fs (qP m fs c l) r:=by
 induction l generalizing c with
 | nil=>simp[qP]
 | cons e l ih=>simp[qP,ih]
theorem aBk {m:Mo}{fs:List Fa}{c:Int}{l:List Pr}{j:Nat}{q:Pr}(h:l[j]?=some q):qP m fs c (l.take (j+1))=dE (qP m fs c (l.take j)) (fY m fs q 0 q.body):=by
 obtain⟨hj,rfl⟩:=List.getElem?_eq_some_iff.1 h;rw[List.take_succ_eq_append_getElem hj,uB]
 simp[qP]
noncomputable def eY (m:Mo) (fs:List Fa):Int:=if (mX m && fsB fs)=false then 1 else if nmB m=false then 2 else if usB m fs=false then 3 else qP m fs 0 m.procs
def aDl (fs:List Fa):Prop:=∀f ∈ fs,f.name.length<=1048576/\∀q ∈ f.procs,q.name.length<=1048576
end Go.Proofs.YtnelibmaancmkaaGreatDoor

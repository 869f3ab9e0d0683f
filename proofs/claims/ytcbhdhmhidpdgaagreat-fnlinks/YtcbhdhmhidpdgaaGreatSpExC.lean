import Derived.Test.YtcbhdhmhidpdgaaGreatSpEx
import Derived.Test.YtcbhdhmhidpdgaaGreatPackG
namespace Go.Proofs.YtcbhdhmhidpdgaaGreat
open Go.RowKit
set_option linter.unusedVariables false
set_option linter.unusedSimpArgs false
set_option maxRecDepth 100000
theorem A20{p:Prop}(h:p:=by rw[Ap.out];exact zB0 _):p:=h
theorem A31{p:Prop}(h:p:=by rw[Ap.out];exact Ad):p:=h
theorem A32{p:Prop}(h:p:=by rw[gQ,if_neg (by decide),if_pos (by decide),if_neg (by rw[hv];decide)]):p:=h
theorem A44{p:Prop}(h:p:=by rw[gQ,if_neg (by decide),if_pos (by decide),if_pos hv]):p:=h
theorem A89{p:Prop}(h:p:=by rw[hv];decide):p:=h
theorem QA13{p:Prop}(h:p:=by
 rw[hv]at H1
 clear hv
 go_wp2_with fail
 refine H1.mono ?_
 rintro r w2 ⟨rfl,hg⟩
 clear H1 n0 n3 k0 k1 k2 k3 q0 q1 q2 q3 q4 z0 z1 z2
 go_wp2_with fail
 exact Rm.out 0 w2 _ _ _ _ _ _ _ _ _ _ _ _ _ _ _ _ _ _ _ _ _ _ _ _ _ _ _ _ _ _ _ _ _ _ _ _ _ _ _ _ _ _ _ _ _ _ _ _ _ _ _ _ _ _ _ _ _ _ _ _ _ _ _ _ _ _ hg HF.out):p:=h
theorem QA16{p:Prop}(h:p:=by
 rw[hv]at H1
 clear hv Rm
 go_wp2_with fail
 refine H1.mono ?_
 rintro r w2 ⟨rfl,hg⟩
 have yg:=aC y0 hg
 clear H1 n0 n3 k0 k1 k2 k3 q0 q1 q2 q3 q4 z0 z1 z2 hg
 go_wp2
 go_ret
 exact⟨bZ HF.out.symm,yg⟩):p:=h
theorem QA49{p:Prop}(h:p:=by
 go_enter Tryz.func76,Tryz.ntmps76
 go_wp2
 go_ret
 exact⟨bZ HF.out.symm,rfl⟩):p:=h
theorem QA55{p:Prop}(h:p:=by
 go_wp2_with fail
 exact Rm.out z wr _ _ _ _ _ _ _ _ _ _ _ _ _ _ _ _ _ _ _ _ _ _ _ _ _ _ _ _ _ _ _ _ _ _ _ _ _ _ _ _ _ _ _ _ _ _ _ _ _ _ _ _ _ _ _ _ _ _ _ _ _ _ _ _ _ _ Hg.out Ub.out):p:=h
theorem QA88{p:Prop}(h:p:=by
 clear Ae
 go_wp2_with fail
 exact H0 _ _ _ _ _ _ _ _ _ _ _ _ _ _ _ _ _ _ _ _ _ _ _ _ _ _ _ _ _ _ _ _ _ _ _ _ _):p:=h
theorem M975{p q:Prop}(k:q)(h:Kx q->p:=by
 intro kQ
 have n0:=z2.k 0
 have n3:=z2.k 3
 obtain⟨k0,k1,k2,k3⟩:=z0.c4
 obtain⟨q0,q1,q2,q3,q4⟩:=z1.c5
 have H1:=oL m p _ _ w1 (HE.out.rm.below (aA y0)) (HE.out.rp.below (aA y0)) an name.length cn name (aV.below Mu.out (aA y0))
 revert H1;revert q4;revert q3;revert q2;revert q1;revert q0;revert k3;revert k2;revert k1;revert k0;revert n3;revert n0
 exact kQ.o):p:=h ⟨k⟩
theorem M955{p q:Prop}(k:q)(h:Kx q->p:=by
 intro kQ
 have r0:=aB (Ab 0 _ rfl) bw
 have r1:=aB (Ab 1 _ rfl) bw
 have r2:=aB (Ab 2 _ rfl) bw
 have r3:=aB (Ab 3 _ rfl) bw
 have r4:=aB (Ab 4 _ rfl) bw
 revert r4;revert r3;revert r2;revert r1;revert r0
 exact kQ.o):p:=h ⟨k⟩
theorem M958{p q:Prop}(k:q)(h:Kx q->p:=by
 intro kQ
 rintro r w4 ⟨rfl,Ah⟩
 have b4:Below wr.heap.size wr w4:=(zD2 wr.heap.size wr).drew.trans (aA Ah)
 have Cq:=HS b4
 revert Cq;revert b4;revert Ah;revert w4
 exact kQ.o):p:=h ⟨k⟩
variable{c:Int}{kids:List Ex}{fs:List Fa}{m:Mo}{p:Pr}
def dJ (a b:Int):Int:=if a=2\/b=2 then 2 else if b<a then a else b
def Ex.kd:Ex->Int
 | .mk k _ _ _ _=>k
def lG (ks:List Int)(kids:List Ex)(i:Nat):Bool:=(List.range i).any fun j=>(ks[j]?.getD 0 == 1) != ((kids[j]?.map Ex.kd).getD 0 == 7)
def aPa (ks:List Int)(kids:List Ex):Bool:=decide (ks.length ≠ kids.length) || lG ks kids (min ks.length kids.length)
def hdC (m:Mo)(fs:List Fa)(p:Pr):Ex->Option Int
 | .mk k _ mod name kids=>
  if k=1 then (if sgl m p name=true then some 0 else none)
  else if k=2\/k=5\/k=7 then (if arq m p name=true then some 0 else none)
  else if k=6 then (fQ m fs mod name).map fun ks=>if aPa ks kids=true then 4 else 0
  else some 0
theorem gQ (m:Mo)(fs:List Fa)(p:Pr)(k n:Int)(mod name:List Int)(kids:List Ex):hdC m fs p (.mk k n mod name kids) =
  if k=1 then (if sgl m p name=true then some 0 else none)
  else if k=2\/k=5\/k=7 then (if arq m p name=true then some 0 else none)
  else if k=6 then (fQ m fs mod name).map fun ks=>if aPa ks kids=true then 4 else 0
  else some 0:=rfl
mutual
def exC (m:Mo)(fs:List Fa)(p:Pr):Ex->Int
 | .mk k n mod name kids=>match hdC m fs p (.mk k n mod name kids) with
  | none=>2| some c=>jI m fs p c kids
def jI (m:Mo)(fs:List Fa)(p:Pr):Int->List Ex->Int
 | c,[]=>c| c,e :: l=>jI m fs p (dJ c (exC m fs p e)) l
end
theorem xX (m:Mo)(fs:List Fa)(p:Pr)(c:Int)(l r:List Ex):jI m fs p c (l++r)=jI m fs p (jI m fs p c l) r:=by
 induction l generalizing c with
 | nil=>simp[jI]| cons e l ih=>simp[jI,ih]
theorem vL{l:List Ex}{j:Nat}{e:Ex}(h:l[j]?=some e):jI m fs p c (l.take (j+1))=dJ (jI m fs p c (l.take j)) (exC m fs p e):=by
 obtain⟨hj,rfl⟩:=zC1.1 h;rw[zF1 hj,xX];simp[jI]
theorem lB{k n:Int}{mod name:List Int}(h:hdC m fs p (.mk k n mod name kids)=none):exC m fs p (.mk k n mod name kids)=2:=by unfold exC;rw[h]
theorem jQ{k n:Int}{mod name:List Int}(h:hdC m fs p (.mk k n mod name kids)=some c):exC m fs p (.mk k n mod name kids)=jI m fs p c kids:=by unfold exC;rw[h]
theorem wZ (ks:List Int)(kids:List Ex)(i:Nat):lG ks kids (i+1)=(lG ks kids i || ((ks[i]?.getD 0 == 1) != ((kids[i]?.map Ex.kd).getD 0 == 7))):=by
 unfold lG;rw[List.range_succ,List.any_append];simp
theorem bdn{B:Nat}{a w:World}(h:Below B a w)(n:Nat):Below B a (w.drewN n):=h.trans ⟨rfl,rfl,rfl,zB0 _,fun _ _=>rfl⟩
theorem tF (a b:Int)(w:World):Calls Tryz.prog 76 #[.int .i64 a,.int .i64 b] w fun e w'=>e=.returned (.int .i64 (dJ a b))/\w'=w:=by
 by_cases h1:a=2
 .
  have HF:Hid (dJ a b=2):=if_pos (.inl h1);subst h1;exact QA49
 .
  have g1:(a == 2)=false:=by simpa using h1
  by_cases h2:b=2
  .
   have HF:Hid (dJ a b=2):=if_pos (.inr h2);subst h2;exact QA49
  .
   have g2:(b == 2)=false:=by simpa using h2
   by_cases h3:b<a
   .
    have HF:Hid (dJ a b=a):=(if_neg A0).trans (if_pos h3);clear h1 h2;exact QA49
   .
    have HF:Hid (dJ a b=b):=(if_neg A0).trans (if_neg h3);clear h1 h2;exact QA49
structure Env (w:World) (m:Mo) (fs:List Fa) (p:Pr) (vs us:List Value) (b:Option Addr) (nf d:Nat):Prop where
 rm:aL w m.fl vs
 rp:aL w p.fl us
 rf:aX w b d 2 (fs.map Fa.fl)
 fl:fs.length=nf
 pl:∀q ∈ m.procs,q.params.length<=1048576
theorem Env.below {w w':World}{m:Mo}{fs:List Fa}{p:Pr}{vs us:List Value}{b:Option Addr}{nf d:Nat}(h:Env w m fs p vs us b nf d)(hb:Below w.heap.size w w'):Env w' m fs p vs us b nf d:=
 ⟨h.rm.below hb,h.rp.below hb,h.rf.below hb,h.fl,h.pl⟩
def aRz (m:Mo)(fs:List Fa)(p:Pr)(e:Ex):Prop:=∀(w:World) (vs us es:List Value) (b:Option Addr) (nf d:Nat),Env w m fs p vs us b nf d->aL w e.fl es →
 Calls Tryz.prog 106 #[agg vs,.slice b nf d,agg us,agg es] w fun r w'=>r=.returned (.int .i64 (exC m fs p e))/\w.grownBy w' none
set_option maxHeartbeats 16000000 in
theorem aL4 (m:Mo)(fs:List Fa)(p:Pr)(x0 x1:Int)(mod name:List Int)(kids:List Ex)(IH:∀e ∈ kids,aRz m fs p e):aRz m fs p (.mk x0 x1 mod name kids):=by
 intro w vs us es b nf d hE he;obtain⟨v0,v1,v2,v3,rfl⟩:=xQ (hE.rm.len.trans (show m.fl.length=4 from rfl));obtain⟨u0,u1,u2,u3,u4,rfl⟩:=dV (hE.rp.len.trans (show p.fl.length=5 from rfl));have he0:=he;obtain⟨e0,_,rfl,rfl,e1,_,rfl,rfl,e2,_,rfl,⟨am,cm,rfl,Eq,_⟩,e3,_,rfl,⟨an,cn,rfl,Be,_⟩,e4,_,rfl,hk,rfl⟩:=he;obtain⟨ak,ck,rfl,hK⟩:=hk.list;have Kq:=hK.len9;have Ds:(exs kids).length=kids.length:=by simp[aY]
 rw[Ds]at Kq he0 ⊢;obtain⟨nk,hnk⟩:=zx (kids.length);have Ap:=hid hnk.symm;rw[<-hnk]at Kq he0 ⊢;have HE:=hid hE;have HX:=hid he0;have HK:=hid hK;have Mu:=hid Be;have HI:=hid IH;clear hE he0 hK Eq Be IH hk Ds hnk;have z0:=((Blk.new w 81 [v0,v1,v2,v3]).old (o:=.cells #[u0,u1,u2,u3,u4] 111 (0,0))).old (o:=.cells #[.int .i64 x0,.int .i64 x1,.slice am mod.length cm,.slice an name.length cn,.slice ak nk ck] 147 (0,0));have z1:=(Blk.new (w.alloc (.cells #[v0,v1,v2,v3] 81 (0,0))) 111 [u0,u1,u2,u3,u4]).old (o:=.cells #[.int .i64 x0,.int .i64 x1,.slice am mod.length cm,.slice an name.length cn,.slice ak nk ck] 147 (0,0));have z2:=Blk.new ((w.alloc (.cells #[v0,v1,v2,v3] 81 (0,0))).alloc (.cells #[u0,u1,u2,u3,u4] 111 (0,0))) 147 [.int .i64 x0,.int .i64 x1,.slice am mod.length cm,.slice an name.length cn,.slice ak nk ck];have hg1:(w.alloc (.cells #[v0,v1,v2,v3] 81 (0,0))).heap.size=w.heap.size+1:=by simp
 have hg2:((w.alloc (.cells #[v0,v1,v2,v3] 81 (0,0))).alloc (.cells #[u0,u1,u2,u3,u4] 111 (0,0))).heap.size=w.heap.size+1+1:=by simp
 have y0:w.grownBy (((w.alloc (.cells #[v0,v1,v2,v3] 81 (0,0))).alloc (.cells #[u0,u1,u2,u3,u4] 111 (0,0))).alloc (.cells #[.int .i64 x0,.int .i64 x1,.slice am mod.length cm,.slice an name.length cn,.slice ak nk ck] 147 (0,0))) none:=aC (aC (aE w _ none) (aE _ _ none)) (aE _ _ none);simp only[List.toArray]at z0 z1 z2;rw[hg1]at z1;rw[hg2]at z2;clear hg1 hg2;simp only[agg];go_enter Tryz.func106,Tryz.ntmps106;go_upto_region 1 with fail;generalize ((w.alloc (.cells #[v0,v1,v2,v3] 81 (0,0))).alloc (.cells #[u0,u1,u2,u3,u4] 111 (0,0))).alloc (.cells #[.int .i64 x0,.int .i64 x1,.slice am mod.length cm,.slice an name.length cn,.slice ak nk ck] 147 (0,0))=w1 at *;have Z0:=hid z0;have Z1:=hid z1;have Z2:=hid z2;have Y0:=hid y0;clear z0 z1 z2 y0;go_upto_region 2 with fail;rename_i Q0 K1 h1 K2 h2;have Rm:Hid (∀(c:Int) (w2:World) (t10 t11 t12 Th Tf Te Td Tc Tb Ta Sz Sy Sx Km Sw Sv Su Ss Sr Sq Sp Sn Sk Sj Si Sh Sf Sd Sc Sa Ry Rx Rw Rv Ru Rt Rr Rq Rp Ro t51 t52 t53 t54 t55 t56 t57 t58 t59 t60 t61 t62 t63 t64 t65 t66 t67 t68 t69 t70 t71 t72 t73 t74 t75 t76:Value),w1.grownBy w2 none->exC m fs p (.mk x0 x1 mod name kids)=jI m fs p c kids->K1 { tmps:=#[.agg #[v0,v1,v2,v3],.slice b nf d,.agg #[u0,u1,u2,u3,u4],.agg #[.int .i64 x0,.int .i64 x1,.slice am mod.length cm,.slice an name.length cn,.slice ak nk ck],.pointer (some ⟨w.heap.size,0,none⟩),undef,.pointer (some ⟨w.heap.size+1,0,none⟩),.pointer (some ⟨w.heap.size+1+1,0,none⟩),.int .i64 0,.int .i64 c,t10,t11,t12,undef,Th,Tf,Te,Td,Tc,Tb,Ta,Sz,Sy,Sx,Km,Sw,Sv,Su,Ss,Sr,Sq,Sp,Sn,Sk,Sj,Si,Sh,Sf,Sd,Sc,Sa,Ry,Rx,Rw,Rv,Ru,Rt,Rr,Rq,Rp,Ro,t51,t52,t53,t54,t55,t56,t57,t58,t59,t60,t61,t62,t63,t64,t65,t66,t67,t68,t69,t70,t71,t72,t73,t74,t75,t76,undef,undef,undef,undef,undef,undef,undef,undef,undef,undef,undef,undef,undef,undef,undef,undef,undef,undef,undef],defers:=[] } w2):=by
  intro c w2 t10 t11 t12 Th Tf Te Td Tc Tb Ta Sz Sy Sx Km Sw Sv Su Ss Sr Sq Sp Sn Sk Sj Si Sh Sf Sd Sc Sa Ry Rx Rw Rv Ru Rt Rr Rq Rp Ro t51 t52 t53 t54 t55 t56 t57 t58 t59 t60 t61 t62 t63 t64 t65 t66 t67 t68 t69 t70 t71 t72 t73 t74 t75 t76 hg2 hc;have HC:=hid hc;have G2:=hid hg2;clear hc hg2 h2;refine h1 _ _ ?_;clear h1;go_wp2_with fail;go_loopw [9,13] (fun cc i wr=>∃(j:Nat) (z:Int),j<=nk/\i=.int .i64 j/\cc=.int .i64 z/\Hid (z=jI m fs p c (kids.take j))/\Hid (w1.grownBy wr none)) (fun _ i _=>nk-(intOf i).toNat)
  case atStart=>exact⟨0,c,zD1 _,rfl,rfl,(by show _=_;simp[jI]),G2⟩
  case round=>
   obtain⟨j,z,hj,rfl,rfl,hz,Hg⟩:=hrel;have hg:=Hg.out;have yw:=aC Y0.out hg;have bw:=aA yw;have z0:=Z0.out.below (aA hg) Z0.out.lt;have z1:=Z1.out.below (aA hg) Z1.out.lt;have z2:=Z2.out.below (aA hg) Z2.out.lt;have k4:=z2.k 4;by_cases Ad:j<nk
   .
    obtain⟨e,Pb⟩:∃e,kids[j]?=some e:=⟨_,zA0 A31⟩
    have HZ:Hid (dJ z (exC m fs p e)=jI m fs p c (kids.take (j+1))):=by show _=_;rw[vL Pb,hz.out]
    have HIe:=HI.out e (zA3 Pb);obtain⟨bk,off,es,rfl,Ts,Ab⟩:=aX.cellsAt HK.out (show(exs kids)[j]?=some e.fl by rw[aY,zA2,Pb];rfl);have Nk:es.length=5:=by rw[Ts.len];cases e;rfl
    obtain⟨s0,s1,s2,s3,s4,rfl⟩:=dV Nk;have HES:=hid Ts;refine M955 ?_;intro r0 r1 r2 r3 r4;rw[zG1]at r0;clear Ab Pb Ts Nk hz;have HS:∀{wl:World},Below wr.heap.size wr wl->wl.cell? ⟨w.heap.size,0,none⟩=some (v0)/\wl.cell? ⟨w.heap.size,1,none⟩=some (v1)/\wl.cell? ⟨w.heap.size,2,none⟩=some (v2)/\wl.cell? ⟨w.heap.size,3,none⟩=some (v3)/\wl.cell? ⟨w.heap.size+1,0,none⟩=some (u0)/\wl.cell? ⟨w.heap.size+1,1,none⟩=some (u1)/\wl.cell? ⟨w.heap.size+1,2,none⟩=some (u2)/\wl.cell? ⟨w.heap.size+1,3,none⟩=some (u3)/\wl.cell? ⟨w.heap.size+1,4,none⟩=some (u4)/\wl.cell? ⟨w.heap.size+1+1,4,none⟩=some (.slice (some ⟨bk,off,none⟩) nk ck)/\wl.cell? ⟨bk,off+j*5,none⟩=some s0/\wl.cell? ⟨bk,off+j*5+1,none⟩=some s1/\wl.cell? ⟨bk,off+j*5+2,none⟩=some s2/\wl.cell? ⟨bk,off+j*5+3,none⟩=some s3/\wl.cell? ⟨bk,off+j*5+4,none⟩=some s4:=fun hb=>⟨aB (z0.k 0) hb,aB (z0.k 1) hb,aB (z0.k 2) hb,aB (z0.k 3) hb,aB (z1.k 0) hb,aB (z1.k 1) hb,aB (z1.k 2) hb,aB (z1.k 3) hb,aB (z1.k 4) hb,aB k4 hb,aB r0 hb,aB r1 hb,aB r2 hb,aB r3 hb,aB r4 hb⟩;have Ao:=HS (wl:=wr.drew) (zD2 _ _).drew;have H9:=HIe wr.drew _ _ _ b nf d (HE.out.below bw.drew) (aL.below HES.out bw.drew);simp only[agg,List.toArray]at H9;go_wp2_with fail;refine zK0 (S:=fun wl=>wl.cell? ⟨w.heap.size,0,none⟩=some (v0)/\wl.cell? ⟨w.heap.size,1,none⟩=some (v1)/\wl.cell? ⟨w.heap.size,2,none⟩=some (v2)/\wl.cell? ⟨w.heap.size,3,none⟩=some (v3)/\wl.cell? ⟨w.heap.size+1,0,none⟩=some (u0)/\wl.cell? ⟨w.heap.size+1,1,none⟩=some (u1)/\wl.cell? ⟨w.heap.size+1,2,none⟩=some (u2)/\wl.cell? ⟨w.heap.size+1,3,none⟩=some (u3)/\wl.cell? ⟨w.heap.size+1,4,none⟩=some (u4)/\wl.cell? ⟨w.heap.size+1+1,4,none⟩=some (.slice (some ⟨bk,off,none⟩) nk ck)/\wl.cell? ⟨bk,off+j*5,none⟩=some s0/\wl.cell? ⟨bk,off+j*5+1,none⟩=some s1/\wl.cell? ⟨bk,off+j*5+2,none⟩=some s2/\wl.cell? ⟨bk,off+j*5+3,none⟩=some s3/\wl.cell? ⟨bk,off+j*5+4,none⟩=some s4) A1 Ao (fun Aa=>?_);refine M921 ?_;refine M925 ?_;refine ta 6 ?_;refine ta 7 ?_;refine ta 8 ?_;try simp only[nrm]
    refine ra 9 fun K hK=>?_;go_simp
    (with_reducible refine H9.mono ?_)
    refine M958 ?_;intro w4 Ah b4 Cq;have H10:=tF z (exC m fs p e) w4;go_wp2_with fail;refine hK.out _ _ (Cq) (fun Aa=>?_);clear hK K;try simp only[nrm]
    refine ra 10 fun K hK=>?_;go_simp
    (with_reducible refine H10.mono ?_)
    rintro r w5 ⟨rfl,rfl⟩;go_wp2_with fail;refine hK.out _ _ (Cq) (fun Aa=>?_);clear hK K;try simp only[nrm]
    refine ta 11 ?_;try simp only[nrm]
    refine zK1 A1 ?_ _;have HG5:=hid (aC hg (aN b4 none));clear HS Ao Cq Aa H9 H10 r0 r1 r2 r3 r4 k4 z0 z1 z2 bw yw hg Hg Ah b4;generalize dJ z (exC m fs p e)=z' at *;go_wp2;go_roundw
    case rel=>exact⟨j+1,z',by omega,by go_num,rfl,HZ,HG5⟩
    case measure=>simp[intOf];omega
   .
    have:nk=j:=A0;subst this;have HF:Hid (exC m fs p (.mk x0 x1 mod name kids)=z):=by show _=_;rw[HC.out,hz.out,zD3 A20]
    clear z0 z1 z2 bw hz Hg hg;go_wp2;go_ret;exact⟨bZ HF.out.symm,yw⟩
 clear h1;have z0:=Z0.out;have z1:=Z1.out;have z2:=Z2.out;have y0:=Y0.out;by_cases Gd:x0=1
 .
  subst Gd;have n0:=z2.k 0;have n3:=z2.k 3;obtain⟨k0,k1,k2,k3⟩:=z0.c4;obtain⟨q0,q1,q2,q3,q4⟩:=z1.c5;have H1:=uQ m p _ _ w1 (HE.out.rm.below (aA y0)) (HE.out.rp.below (aA y0)) an name.length cn name (aV.below Mu.out (aA y0));simp only[agg,List.toArray]at H1;cases hv:sgl m p name
  .
   have HF:Hid (exC m fs p (.mk 1 x1 mod name kids)=2):=lB (by rw[gQ,if_pos rfl,if_neg A89]);exact QA16
  .
   have HF:Hid (exC m fs p (.mk 1 x1 mod name kids)=jI m fs p 0 kids):=jQ (by rw[gQ,if_pos rfl,if_pos hv]);exact QA13
 have g1:(x0 == 1)=false:=by simpa using Gd
 by_cases Mm:x0=2
 .
  subst Mm;refine M975 ?_;intro n0 n3 k0 k1 k2 k3 q0 q1 q2 q3 q4 H1;simp only[agg,List.toArray]at H1;cases hv:arq m p name
  .
   have HF:Hid (exC m fs p (.mk 2 x1 mod name kids)=2):=lB A32;exact QA16
  .
   have HF:Hid (exC m fs p (.mk 2 x1 mod name kids)=jI m fs p 0 kids):=jQ A44;exact QA13
 have g2:(x0 == 2)=false:=by simpa using Mm
 by_cases hx5:x0=5
 .
  subst hx5;refine M975 ?_;intro n0 n3 k0 k1 k2 k3 q0 q1 q2 q3 q4 H1;simp only[agg,List.toArray]at H1;cases hv:arq m p name
  .
   have HF:Hid (exC m fs p (.mk 5 x1 mod name kids)=2):=lB A32;exact QA16
  .
   have HF:Hid (exC m fs p (.mk 5 x1 mod name kids)=jI m fs p 0 kids):=jQ A44;exact QA13
 have g5:(x0 == 5)=false:=by simpa using hx5
 by_cases hx7:x0=7
 .
  subst hx7;refine M975 ?_;intro n0 n3 k0 k1 k2 k3 q0 q1 q2 q3 q4 H1;simp only[agg,List.toArray]at H1;cases hv:arq m p name
  .
   have HF:Hid (exC m fs p (.mk 7 x1 mod name kids)=2):=lB A32;exact QA16
  .
   have HF:Hid (exC m fs p (.mk 7 x1 mod name kids)=jI m fs p 0 kids):=jQ A44;exact QA13
 have g7:(x0 == 7)=false:=by simpa using hx7
 by_cases hx6:x0=6
 .
  subst hx6;obtain⟨n0,n1,n2,n3,n4⟩:=z2.c5;obtain⟨k0,k1,k2,k3⟩:=z0.c4;have H1:=aBz m fs 6 x1 mod name kids _ _ b nf d w1 (HE.out.rm.below (aA y0)) (HE.out.rf.below (aA y0)) HE.out.fl (aL.below HX.out (aA y0)) HE.out.pl;simp only[agg,List.toArray]at H1;cases hq:fQ m fs mod name with
  | none=>
   have HF:Hid (exC m fs p (.mk 6 x1 mod name kids)=2):=lB (by rw[gQ,if_neg A6,if_neg A6,if_pos rfl,hq];rfl);rw[hq]at H1;clear hq Rm;go_wp2_with fail;refine H1.mono ?_;rintro r w2 ⟨v,rfl,_,hg⟩;have yg:=aC y0 hg;clear H1 n0 n1 n2 n3 n4 k0 k1 k2 k3 z0 z1 z2 hg;go_wp2;go_ret;exact⟨bZ HF.out.symm,yg⟩
  | some ks=>
   have HF:Hid (∀c,c=(if aPa ks kids=true then 4 else 0)->exC m fs p (.mk 6 x1 mod name kids)=jI m fs p c kids):=fun c hc=>jQ (by rw[gQ,if_neg A6,if_neg A6,if_pos rfl,hq,hc];rfl);rw[hq]at H1;clear hq;go_wp2_with fail;refine H1.mono ?_;rintro r w2 ⟨v,rfl,hv,hg⟩;obtain⟨ax,cx,rfl,hnr,hcx,hmx,_⟩:=hv ks rfl;have HNR:=hid hnr;have Er:=hid hg;have N2:=hid (z2.below (aA hg) z2.lt);obtain⟨kl,Ds⟩:=zx (ks.length);have HKL:=hid Ds.symm;rw[<-Ds]at HNR hcx ⊢;have hkl9:kl<=9223372036854775807:=by unfold maxLen at hmx;omega
   clear H1 n0 n1 n2 n3 n4 k0 k1 k2 k3 z0 z1 z2 hg y0 hv hnr Ds;go_upto_region 15 with fail;rename_i K3 h3 K4 h4;have HK3:Hid (∀(c:Int) (Th Tf Te Td Tc Tb Ta Sz Sy Sx Km Sw Sv Su Ss Sr Sq Sp Sn Sk Sj Si Sh Sf Sd Sc Sa Ry Rx Rw Rv Ru Rt Rr Rq Rp Ro:Value),c=(if decide (ks.length ≠ kids.length)=true then 4 else 0)->K3 { tmps:=#[.agg #[v0,v1,v2,v3],.slice b nf d,.agg #[u0,u1,u2,u3,u4],.agg #[.int .i64 6,.int .i64 x1,.slice am mod.length cm,.slice an name.length cn,.slice ak nk ck],.pointer (some ⟨w.heap.size,0,none⟩),undef,.pointer (some ⟨w.heap.size+1,0,none⟩),.pointer (some ⟨w.heap.size+1+1,0,none⟩),.int .i64 0,.int .i64 c,.slice ax kl cx,.bool true,undef,undef,Th,Tf,Te,Td,Tc,Tb,Ta,Sz,Sy,Sx,Km,Sw,Sv,Su,Ss,Sr,Sq,Sp,Sn,Sk,Sj,Si,Sh,Sf,Sd,Sc,Sa,Ry,Rx,Rw,Rv,Ru,Rt,Rr,Rq,Rp,Ro,undef,undef,undef,undef,undef,undef,undef,undef,undef,undef,undef,undef,undef,undef,undef,undef,undef,undef,undef,undef,undef,undef,undef,undef,undef,undef,undef,undef,undef,undef,undef,undef,undef,undef,undef,undef,undef,undef,undef,undef,undef,undef,undef,undef,undef],defers:=[] } w2):=by
    intro c Th Tf Te Td Tc Tb Ta Sz Sy Sx Km Sw Sv Su Ss Sr Sq Sp Sn Sk Sj Si Sh Sf Sd Sc Sa Ry Rx Rw Rv Ru Rt Rr Rq Rp Ro hc;have HC:=hid hc;clear hc;refine h3 _ _ ?_;clear h3 h4;go_wp2_with fail;go_loopw [9,12] (fun cc i wr=>∃(j:Nat) (z:Int),j<=kl/\j<=nk/\i=.int .i64 j/\cc=.int .i64 z/\Hid (z=(if (decide (ks.length ≠ kids.length) || lG ks kids j)=true then 4 else 0))/\Hid (w1.grownBy wr none)/\Hid (Below w2.heap.size w2 wr)) (fun _ i _=>nk-(intOf i).toNat)
    case atStart=>exact⟨0,c,zD1 _,zD1 _,rfl,rfl,(by show _=_;rw[HC.out];simp[lG]),Er,zD2 _ _⟩
    case round=>
     obtain⟨j,z,hj1,hj2,rfl,rfl,hz,Hg,Hb⟩:=hrel;have zz:=N2.out.below Hb.out N2.out.lt;have n4:=zz.k 4;clear zz;by_cases Ad:j<kl/\j<nk
     .
      obtain⟨Xl,Dx⟩:=Ad;obtain⟨e,Pb⟩:∃e,kids[j]?=some e:=⟨_,zA0 (by rw[Ap.out];exact Dx)⟩
      obtain⟨kk,hkj⟩:∃k,ks[j]?=some k:=⟨_,zA0 (by rw[HKL.out];exact Xl)⟩
      obtain⟨bx,ox,rfl,hcx2⟩:=HNR.out.2.2 A0;have yw:=aC Y0.out Hg.out;have r1:=aB (hcx2 j Xl) Hb.out;rw[hkj]at r1;simp only[zI0]at r1;have HMN:Hid (lG ks kids (j+1)=(lG ks kids j || ((kk == 1) != (e.kd == 7)))):=by show _=_;rw[wZ,hkj,Pb];rfl
      obtain⟨bk,off,es,rfl,Ts,Ab⟩:=aX.cellsAt HK.out (show(exs kids)[j]?=some e.fl by rw[aY,zA2,Pb];rfl);obtain⟨f0,f1,f2,f3,f4⟩:=e;obtain⟨s0,_,rfl,rfl,_⟩:=Ts;have r2:=aB (Ab 0 _ rfl) (aA yw);rw[zG1]at r2;simp only[Ex.kd]at HMN;have HG3:Hid (∀n,w1.grownBy (wr.drewN n) none):=fun n=>aN (bdn (aA Hg.out) n) none;have Bv:Hid (∀n,Below w2.heap.size w2 (wr.drewN n)):=fun n=>bdn Hb.out n;have hl1':(j:Int)<(kl:Int):=A0;have hl2':(j:Int)<(nk:Int):=A0;clear Ab Pb hkj hcx2 Hg Hb yw;have hbe:(!(kk == 1) == (f0 == 7))=((kk == 1) != (f0 == 7)):=by cases (kk == 1) <;> cases (f0 == 7) <;> rfl
      cases hbb:((kk == 1) != (f0 == 7))
      .
       rw[hbb]at hbe;have HZ:Hid (z=(if (decide (ks.length ≠ kids.length) || lG ks kids (j+1))=true then 4 else 0)):=by show _=_;rw[HMN.out,hbb,Bool.or_false];exact hz.out
       clear hz HMN hbb;go_wp2_with fail;go_quiet (fail);go_wp2;go_roundw
       case rel=>exact⟨j+1,z,by omega,by omega,by go_num,rfl,HZ,HG3.out _,Bv.out _⟩
       case measure=>simp[intOf];omega
      .
       rw[hbb]at hbe;have HZ:Hid (4=(if (decide (ks.length ≠ kids.length) || lG ks kids (j+1))=true then (4:Int) else 0)):=by show _=_;rw[HMN.out,hbb,Bool.or_true,Bool.or_true];rfl
       clear hz HMN hbb;go_wp2_with fail;go_quiet (fail);go_wp2;go_roundw
       case rel=>exact⟨j+1,4,by omega,by omega,by go_num,rfl,HZ,HG3.out _,Bv.out _⟩
       case measure=>simp[intOf];omega
     .
      have HM:Hid (z=(if aPa ks kids=true then 4 else 0)):=by
       show _=_
       rw[hz.out];unfold aPa;by_cases he:ks.length=kids.length
       .
        have h5:=HKL.out;have h6:=Ap.out;have:min ks.length kids.length=j:=A0;rw[this]
       .
        rw[zB3 he,Bool.true_or,Bool.true_or]
      have Ub:=hid (HF.out z HM.out);clear hz HM;by_cases Xl:j<kl
      .
       have Dx:¬(j:Int)<(nk:Int):=A0;have hl1':(j:Int)<(kl:Int):=A0;exact QA55
      .
       have hl1':¬(j:Int)<(kl:Int):=A0;exact QA55
   clear h3 Rm;have n4:=N2.out.k 4;by_cases Ae:kl=nk
   .
    have hb1:((kl:Int) != (nk:Int))=false:=by rw[Ae];simp
    have H0:=fun Th Tf Te Td Tc Tb Ta Sz Sy Sx Km Sw Sv Su Ss Sr Sq Sp Sn Sk Sj Si Sh Sf Sd Sc Sa Ry Rx Rw Rv Ru Rt Rr Rq Rp Ro=>HK3.out 0 Th Tf Te Td Tc Tb Ta Sz Sy Sx Km Sw Sv Su Ss Sr Sq Sp Sn Sk Sj Si Sh Sf Sd Sc Sa Ry Rx Rw Rv Ru Rt Rr Rq Rp Ro (by rw[zC2 (by rw[HKL.out,Ap.out];simpa using Ae)];rfl);exact QA88
   .
    have hb1:((kl:Int) != (nk:Int))=true:=by simp;omega
    have H0:=fun Th Tf Te Td Tc Tb Ta Sz Sy Sx Km Sw Sv Su Ss Sr Sq Sp Sn Sk Sj Si Sh Sf Sd Sc Sa Ry Rx Rw Rv Ru Rt Rr Rq Rp Ro=>HK3.out 4 Th Tf Te Td Tc Tb Ta Sz Sy Sx Km Sw Sv Su Ss Sr Sq Sp Sn Sk Sj Si Sh Sf Sd Sc Sa Ry Rx Rw Rv Ru Rt Rr Rq Rp Ro (by rw[zB3 (by rw[HKL.out,Ap.out];exact Ae)];rfl);exact QA88
 have g6:(x0 == 6)=false:=by simpa using hx6
 have n0:=z2.k 0;have HF:Hid (exC m fs p (.mk x0 x1 mod name kids)=jI m fs p 0 kids):=jQ (by rw[gQ,if_neg Gd,if_neg A0,if_neg hx6]);clear Gd Mm hx5 hx6 hx7 z0 z1 z2;go_wp2_with fail;exact Rm.out 0 w1 _ _ _ _ _ _ _ _ _ _ _ _ _ _ _ _ _ _ _ _ _ _ _ _ _ _ _ _ _ _ _ _ _ _ _ _ _ _ _ _ _ _ _ _ _ _ _ _ _ _ _ _ _ _ _ _ _ _ _ _ _ _ _ _ _ _ (aQ _ _) HF.out
mutual
theorem aQu (m:Mo)(fs:List Fa)(p:Pr):∀e:Ex,aRz m fs p e
 | .mk x0 x1 mod name kids=>aL4 m fs p x0 x1 mod name kids (aKg m fs p kids)
theorem aKg (m:Mo)(fs:List Fa)(p:Pr):∀l:List Ex,∀e ∈ l,aRz m fs p e
 | [],e,h=>by simp at h
 | y :: l,e,h=>by
  rcases zG3.1 h with h|h
  .
   exact h ▸ aQu m fs p y
  .
   exact aKg m fs p l e h
end
end Go.Proofs.YtcbhdhmhidpdgaaGreat

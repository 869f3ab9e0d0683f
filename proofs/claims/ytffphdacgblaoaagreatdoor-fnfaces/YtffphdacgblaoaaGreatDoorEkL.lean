import Derived.Test.YtffphdacgblaoaaGreatDoorPackAA
import Derived.Test.YtffphdacgblaoaaGreatDoorPackAH
import Derived.Test.YtffphdacgblaoaaGreatDoorModBoth
import Derived.Test.YtffphdacgblaoaaGreatDoorFaceImpl
namespace Go.Proofs.YtffphdacgblaoaaGreatDoor
open Go.RowKit
set_option linter.unusedVariables false
set_option linter.unusedSimpArgs false
set_option maxRecDepth 100000
structure tR (w:World):Prop where
 tb:nF w
 exs:∀i,i<8->w.cell? ⟨1,i,none⟩=some (.int .i64 (vU i))
 sts:∀i,i<8->w.cell? ⟨0,i,none⟩=some (.int .i64 (wQ i))
theorem tR.below {w w':World}(h:tR w)(hb:Below w.heap.size w w'):tR w':=⟨h.tb.below hb,fun i hi=>aC (h.exs i hi) hb,fun i hi=>aC (h.sts i hi) hb⟩
theorem DrF.uses {w:World}{a1:Option Addr}{n1 c1:Nat}{s0 s2 s3:Value}{av:Option Addr}{nv cv:Nat}{m:Mo}{fs:List Fa}(h:DrF w [s0,.slice a1 n1 c1,s2,s3] av nv cv m fs):m.uses.length=n1/\bQ w a1 c1 1 (dC m.uses):=by
 obtain⟨u0,_,e0,_,u1,_,rfl,hU,_⟩:=h.mo;obtain⟨a1',c1',e1,hU1⟩:=hU.list;simp only[zK0]at e0;obtain⟨_,e2,_⟩:=e0;rw[<-e2]at e1;simp only[Value.slice.injEq]at e1;obtain⟨rfl,e3,rfl⟩:=e1
 exact⟨by rw[e3];simp[dC],hU1⟩
theorem DrF.name {w:World}{a0:Option Addr}{n0 c0:Nat}{s1 s2 s3:Value}{av:Option Addr}{nv cv:Nat}{m:Mo}{fs:List Fa}(h:DrF w [.slice a0 n0 c0,s1,s2,s3] av nv cv m fs):eG w a0 n0 m.name:=by
 obtain⟨u0,_,e0,⟨a9,c9,e1,hb,_⟩,_⟩:=h.mo;simp only[zK0]at e0;obtain⟨e2,_⟩:=e0;rw[<-e2]at e1;simp only[Value.slice.injEq]at e1;obtain⟨rfl,e3,rfl⟩:=e1;rw[e3];exact hb
theorem aAh {fs:List Fa}{k:Nat}(h:aH (fs.map Fa.fl)<=k)(hk:k<=1048576):aM4 fs:=by
 intro f hf;have h1:=aX (List.mem_map_of_mem (f:=Fa.fl) hf)
 have e:aL f.fl=f.name.length+((f.procs.map Fp.fl).length+aH (f.procs.map Fp.fl)):=by simp[Fa.fl,aL,Fl.len]
 refine⟨by omega,fun q hq=>?_⟩
 have h2:=aX (List.mem_map_of_mem (f:=Fp.fl) hq)
 have e2:aL q.fl=q.name.length+q.kinds.length:=by simp[Fp.fl,aL,Fl.len]
 omega
def qW (w:World):World:=(w.alloc (.cells #[.int .u8 81,.int .u8 113] 5 (0,0))).freeze ⟨w.heap.size,2,none⟩ 1
theorem aLd (w:World):(convert 22 22 (.slice (some ⟨w.heap.size,0,none⟩) 2 2)).run Tryz.prog (w.alloc (.cells #[.int .u8 81,.int .u8 113] 5 (0,0)))=.ok (.slice (some ⟨w.heap.size,0,none⟩) 2 2) (qW w):=
 Eg.run_mark (n:=2) (c:=2) (o:=0) (Blk.new w 5 [.int .u8 81,.int .u8 113])
theorem aEc (w:World):Below w.heap.size w (qW w):=by
 have h:Below w.heap.size w (w.alloc (.cells #[.int .u8 81,.int .u8 113] 5 (0,0))):=(zD2 _ _).alloc (zB0 _) _
 have h1:(qW w).os=w.os/\(qW w).tape=w.tape/\(qW w).output=w.output:=by unfold qW World.freeze;rw[if_neg Q5];exact⟨h.os,h.tape,h.output⟩
 exact⟨h1.1,h1.2.1,h1.2.2,by unfold qW;rw[Eg.freeze_size];exact h.size,fun j hj=>(Eg.freeze_other Q0).trans (h.block j hj)⟩
theorem aQl (w:World):(qW w).heap.size=w.heap.size+1:=by
 unfold qW;rw[Eg.freeze_size];exact Array.size_push _
theorem aPx (w:World):eG (qW w) (some ⟨w.heap.size,0,none⟩) 2 qQ:=by
 have x:=Blk.new w 5 [.int .u8 81,.int .u8 113];obtain⟨fl,hf⟩:=Eg.freeze_block (n:=2) x
 refine⟨rfl,by decide,fun _=>⟨_,0,rfl,fun i hi=>?_⟩⟩
 have:i=0\/i=1:=Q0
 rcases this with rfl|rfl
 .
  show(qW w).cell? ⟨w.heap.size,0,none⟩=_
  rw[cell_of_row (qW w) w.heap.size 0 _ _ fl hf];rfl
 .
  show(qW w).cell? ⟨w.heap.size,1,none⟩=_
  rw[cell_of_row (qW w) w.heap.size 1 _ _ fl hf];rfl
theorem rE {w:World}{b:Nat}:∀(rs:List Fa) (off:Nat),eT w b 2 off (rs.map Fa.fl)->∃xs:List Value,xs.length=rs.length*2/\(∀j u,xs[j]?=some u->w.cell? ⟨b,off+j,none⟩=some u)/\(∀u ∈ xs,u.oneCell'=true)/\∀w' b' off',Below w.heap.size w w'->(∀j u,xs[j]?=some u->w'.cell? ⟨b',off'+j,none⟩=some u)->eT w' b' 2 off' (rs.map Fa.fl)
 | [],off,_=>⟨[],rfl,fun j u h=>by simp at h,fun u h=> Q69,fun _ _ _ _ _=>trivial⟩
 | f :: rs,off,⟨⟨⟨v0,c0,h0⟩,⟨v1,c1,h1⟩,_⟩,ht⟩=>by
  obtain⟨xs,x1,x2,x3,x4⟩:=rE rs (off+2) ht
  refine⟨v0 :: v1 :: xs,by simp[x1];omega,fun j u hj=>?_,fun u hu=>?_,fun w' b' off' hb hc=>?_⟩
  .
   match j,hj with
   | 0,hj=>simp only[List.getElem?_cons_zero,zG2]at hj;subst hj;exact c0
   | 1,hj=>simp only[List.getElem?_cons_succ,List.getElem?_cons_zero,zG2]at hj;subst hj;exact c1
   | j+2,hj=>
    simp only[List.getElem?_cons_succ]at hj
    have:=x2 j u hj
    rwa [show off+2+j=off+(j+2) by omega]at this
  .
   rcases zG3.1 hu with rfl|hu
   .
    obtain⟨a9,c9,e9,_⟩:=h0;rw[e9];rfl
   .
    rcases zG3.1 hu with rfl|hu
    .
     obtain⟨a9,c9,e9,_⟩:=h1;rw[e9];rfl
    .
     exact x3 u hu
  .
   refine⟨⟨⟨v0,hc 0 v0 rfl,h0.below hb⟩,⟨v1,hc 1 v1 rfl,h1.below hb⟩,trivial⟩,x4 w' b' (off'+2) hb fun j u hj=>?_⟩
   have:=hc (j+2) u (by simpa using hj)
   rwa [show off'+(j+2)=off'+2+j by omega]at this
def FaC (w:World)(xs:List Value)(fs:List Fa):Prop:=∀w' b' off',Below w.heap.size w w'->(∀j u,xs[j]?=some u->w'.cell? ⟨b',off'+j,none⟩=some u)->eT w' b' 2 off' (fs.map Fa.fl)
theorem aOy:(Tryz.prog.info? 35).map (fun i=>(i.zero,i.size,i.bytes))=some (some (.agg #[.slice none 0 0,.slice none 0 0]),2,48):=by kernel_rfl
theorem oA {w:World}{ops:Array Oper}{rest:List Oper}{o:Oper}{a:Act}{Q:Exit->Act->World->Prop}(hgd:o.guard=none)(s x:Operand)
  (ho:o.op=.call { callee:=.builtin .append,args:=#[s,x],argTypes:=#[28,28] })
  (base:Nat) (v:Value) (n:Nat) (xs0:List Value) (hs:a.eval s=v) (hown:w.ownsRow base 35 2 v n xs0)
  (ax:Option Addr) (m cx:Nat) (fs:List Fa) (hx:a.eval x=.slice ax m cx) (hm:fs.length=m) (wb:World) (hb:Below wb.heap.size wb w) (hL:bQ wb ax cx 2 (fs.map Fa.fl)) (Am:n+m<=1000) (hbase:base<=w.heap.size)
  (h:∀v' w' xs,xs.length=m*2->FaC wb xs fs->(∀b off,ax=some ⟨b,off,none⟩->∀j u,xs[j]?=some u->w.cell? ⟨b,off+j,none⟩=some u)->w'.ownsRow base 35 2 v' (n+m) (xs0++xs)->w.grownBy w' v.ownBlock->wpList Tryz.prog ops Q rest (a.put o.dst v') w'):wpList Tryz.prog ops Q (o :: rest) a w:=by
 obtain⟨i0,hi,hz0,hz1,hz2⟩:=info_parts aOy
 cases ax with
 | none=>
  have hc:=hL.nil rfl
  have h0:fs=[]:=by
   have:=hL.cap
   rw[zB2,hc]at this;exact List.length_eq_zero_iff.1 (Nat.le_zero.1 this)
  subst h0 hc;have hm:m=0:=hm.symm;subst hm;refine wpList_append_own_none hgd s x 28 ho base 35 i0 2 Tryz.underlying28 hi v n _ hs hown hx ?_
  exact h v w [] rfl (fun _ _ _ _ _=>trivial) (fun _ _ _ j u hj=>by simp at hj) (by simpa using hown) (World.grownBy.refl _ _)
 | some ad=>
  obtain⟨xs,q1,q2,q3,q4⟩:∃xs:List Value,xs.length=fs.length*2/\(∀j u,xs[j]?=some u->w.cell? (ad.add j)=some u)/\(∀u ∈ xs,u.oneCell'=true)/\FaC wb xs fs:=by
   rcases zG0 fs.length with h0|h0
   .
    have:fs=[]:=List.length_eq_zero_iff.1 h0
    subst this
    exact⟨[],rfl,fun j u hj=>by simp at hj,(fun u hu=>by cases hu),fun _ _ _ _ _=>trivial⟩
   .
    obtain⟨b,off,e,hR⟩:=hL.row (by rw[zB2];exact h0)
    cases e;obtain⟨xs,p1,p2,p3,p4⟩:=rE fs off hR
    exact⟨xs,p1,fun j u hj=>by rw[Addr.add_lit];exact aC (p2 j u hj) hb,p3,p4⟩
  subst hm;refine wpList_append_own w hgd s x 28 ho base 35 i0 (.agg #[.slice none 0 0,.slice none 0 0]) 2 48 Tryz.underlying28 hi hz0 hz1 hz2 rfl Q5 v n _ hs hown ad fs.length cx xs hx q1 q2 q3 Q17 Q0 hbase ?_;intro v' w' h2 h3 _
  exact h v' w' xs q1 q4 (fun b off e j u hj=>by have:=q2 j u hj;cases e;rw[Addr.add_lit]at this;exact this) h2 h3
set_option maxHeartbeats 16000000 in
theorem aC7 (a:Option Addr)(n c:Nat)(l:List Int)(w:World)(hT:tR w)(h:eG w a n l)(hn:n<=9223372036854775807):Calls Tryz.prog 3 #[.slice a n c] w fun e w'=>e=.returned (.bool true)/\Below w.heap.size w w':=by
 have HDC:=aDh a n c l w h hn
 have HTW:Hid (tR w):=hT
 clear hT h;go_enter Tryz.func3,Tryz.ntmps3;go_wp2_with fail;refine HDC.mono ?_;rintro e w1 ⟨a0,n0,c0,a1,n1,c1,a2,n2,c2,a3,n3,c3,av,nv,cv,m,fs,rfl,hD,hB⟩;clear HDC
 have y1:Below w1.heap.size w1 (w1.alloc (.cells #[.slice a0 n0 c0,.slice a1 n1 c1,.slice a2 n2 c2,.slice a3 n3 c3] 27 (0,0))):=(zD2 _ _).alloc (zB0 _) _
 have x1:=Blk.new w1 27 [.slice a0 n0 c0,.slice a1 n1 c1,.slice a2 n2 c2,.slice a3 n3 c3];have hD1:=hD.below y1;have hB1:=hB.trans (y1.mono hB.size);have hT1:=(HTW.out.below hB).below y1;simp only[List.toArray]at x1;clear hD hB y1;go_upto_region 2 with fail;generalize w1.alloc (.cells #[.slice a0 n0 c0,.slice a1 n1 c1,.slice a2 n2 c2,.slice a3 n3 c3] 27 (0,0))=w2 at *;generalize w1.heap.size=gM at *
 have HC:=aAd m fs _ av nv cv w2 hT1.tb hT1.exs hT1.sts hD1.mo (by have:=hD1.len;omega) hD1.fa hD1.num (aAh hD1.lens Q0)
 have HD:Hid (DrF w2 [.slice a0 n0 c0,.slice a1 n1 c1,.slice a2 n2 c2,.slice a3 n3 c3] av nv cv m fs):=hD1
 have HB:Hid (Below w.heap.size w w2):=hB1
 have HT:Hid (tR w2):=hT1
 obtain⟨p0,p1,p2,p3⟩:=x1.c4;have hnv:nv<=3:=hD1.few;clear hD1 hB1 hT1 HTW;simp only[agg]at HC;go_wp2_with fail;refine HC.mono ?_;rintro e w3 ⟨rfl,hg⟩;have g3:=aA hg
 have HD3:Hid (DrF w3 [.slice a0 n0 c0,.slice a1 n1 c1,.slice a2 n2 c2,.slice a3 n3 c3] av nv cv m fs):=HD.out.below g3
 have HB3:Hid (Below w.heap.size w w3):=HB.out.trans (g3.mono HB.out.size)
 have HT3:Hid (tR w3):=HT.out.below g3
 have x3:=x1.below g3 x1.lt;clear HC HD HB HT x1 p0 p1 p2 p3 g3 hg w2 w1;obtain⟨p0,p1,p2,p3⟩:=x3.c4
 obtain⟨tc,htc⟩:∃z,z=iP m fs:=⟨_,rfl⟩
 rw[<-htc]
 have HTC:Hid (iP m fs=tc):=htc.symm
 clear htc
 by_cases h1:tc=1
 .
  subst h1
  have HM:=aHm m w3 _ HD3.out.mo (by have:=HD3.out.len;omega)
  obtain⟨mo,hmo⟩:∃z,z=lN m:=⟨_,rfl⟩
  rw[<-hmo]at HM;simp only[List.toArray]at HM
  have HMO:Hid (mo=true->0<nv):=fun e9=>by
   rcases zG0 nv with h0|h0
   .
    exfalso
    have h9:=HD3.out.num;rw[h0]at h9
    have:fs=[]:=List.length_eq_zero_iff.1 h9
    have h8:=HTC.out;rw[this]at h8;rw[aHf h8]at hmo;rw[hmo]at e9;cases e9
   .
    exact h0
  clear hmo;go_wp2_with fail;refine HM.mono ?_;rintro e w4 ⟨rfl,hg⟩
  have HB4:Hid (Below w.heap.size w w4):=HB3.out.trans ((aA hg).mono HB3.out.size)
  clear HM hg p0 p1 p2 p3 x3 HD3 HB3 HT3
  cases mo with
  | false=>
   go_wp2;go_ret;exact⟨rfl,HB4.out⟩
  | true=>
   have h0:=HMO.out rfl;go_wp2;go_ret;exact⟨rfl,HB4.out⟩
 .
  have HF:=aCy m _ w3 HT3.out.tb HD3.out.mo (by have:=HD3.out.len;omega)
  simp only[agg]at HF;go_wp2_with fail;refine HF.mono ?_;rintro e w4 ⟨fnv,fpv,rfl,hS⟩
  have HD4:Hid (DrF w4 [.slice a0 n0 c0,.slice a1 n1 c1,.slice a2 n2 c2,.slice a3 n3 c3] av nv cv m fs):=HD3.out.below hS.below
  have HB4:Hid (Below w.heap.size w w4):=HB3.out.trans (hS.below.mono HB3.out.size)
  have HT4:Hid (tR w4):=HT3.out.below hS.below
  have x4:=x3.below hS.below x3.lt;obtain⟨lf,hfg⟩:=hS.got;obtain⟨b0,_,e0,⟨an,cn,rfl,hbr,hnc,hcm,_⟩,b1,_,rfl,hpr,rfl⟩:=hfg.vals;simp only[zK0,and_true]at e0;obtain⟨rfl,rfl⟩:=e0;obtain⟨ap,cp,rfl,hLp⟩:=hpr.list;rw[zB2]
  obtain⟨ln,hln⟩:∃z,z=(jK m).name.length:=⟨_,rfl⟩
  obtain⟨lp,hlp⟩:∃z,z=(jK m).procs.length:=⟨_,rfl⟩
  have HLN:Hid ((jK m).name.length=ln):=hln.symm
  have HLP:Hid ((jK m).procs.length=lp):=hlp.symm
  rw[<-hln,<-hlp]
  have HBN:Hid (eG w4 an ln (jK m).name):=by show eG _ _ _ _;rw[hln];exact hbr
  have HLpp:Hid (bQ w4 ap cp 2 ((jK m).procs.map Fp.fl)):=hLp
  have HNC:Hid (ln<=cn):=by show _<=_;rw[hln];exact hnc
  have y5:Below w4.heap.size w4 (w4.alloc (.cells #[.slice an ln cn,.slice ap lp cp] 35 (0,0))):=(zD2 _ _).alloc (zB0 _) _
  have x5:=Blk.new w4 35 [.slice an ln cn,.slice ap lp cp];have x45:=x4.below y5 x4.lt
  have HD5:Hid (DrF _ [.slice a0 n0 c0,.slice a1 n1 c1,.slice a2 n2 c2,.slice a3 n3 c3] av nv cv m fs):=HD4.out.below y5
  have HB5:Hid (Below w.heap.size w _):=HB4.out.trans (y5.mono HB4.out.size)
  have HT5:Hid (tR _):=HT4.out.below y5
  have HBN5:Hid (eG _ an ln (jK m).name):=HBN.out.below y5
  have HLp5:Hid (bQ _ ap cp 2 ((jK m).procs.map Fp.fl)):=HLpp.out.below y5
  simp only[List.toArray]at x5;clear HF hS hfg hbr hnc hcm hpr hLp hln hlp HD4 HB4 HT4 HBN HLpp x4 y5 HD3 HB3 HT3 x3 p0 p1 p2 p3 lf;go_upto_region 6 with fail;generalize w4.alloc (.cells #[.slice an ln cn,.slice ap lp cp] 35 (0,0))=w5 at *;generalize w4.heap.size=gF at *;clear w4 w3;go_wp2_with fail
  go_loopw [7] (fun i wr=>∃j:Nat,j<=nv/\i=.int .i64 j/\Hid (Below w5.heap.size w5 wr/\∀k f,k<j->fs[k]?=some f->f.name ≠ qQ)) (fun i _=>nv-(intOf i).toNat)
  case atStart=>exact⟨0,zD1 _,rfl,⟨zD2 _ _,fun k f hk=>by omega⟩⟩
  case round=>
   obtain⟨j,hj,rfl,hst⟩:=hrel;have hbw:=hst.out.1
   have HNO:Hid (∀k f,k<j->fs[k]?=some f->f.name ≠ qQ):=hst.out.2
   clear hst
   by_cases Aj:j<nv
   .
    have hLf:=HD5.out.fa;have hnum:=HD5.out.num
    obtain⟨f,hf⟩:∃f,fs[j]?=some f:=⟨_,zA0 Q0⟩
    obtain⟨bf,off,rfl⟩:=hLf.addr (by rw[zB2];omega)
    obtain⟨⟨v0,hc0,ax,cx,rfl,hbx,_⟩,_⟩:=hLf.el (show(fs.map Fa.fl)[j]?=some f.fl by rw[zA2,hf];rfl)
    have hc1:=aC hc0 hbw
    obtain⟨lx,hlx⟩:∃z,z=f.name.length:=⟨_,rfl⟩
    rw[<-hlx]at hc1 hbx
    have HBX:Hid (eG wr ax lx f.name):=hbx.below hbw
    have HJ:Hid (fs[j]?=some f):=hf
    have HBW:Hid (Below w5.heap.size w5 wr):=hbw
    clear hLf hnum hf hc0 hbx hlx hbw;have yq:=aEc wr;have kq:=aLd wr;have HQ:=aK9 ax lx cx f.name (some ⟨wr.heap.size,0,none⟩) 2 2 qQ _ (HBX.out.below yq) (aPx wr)
    have HYQ:Hid (Below w5.heap.size w5 _):=HBW.out.trans (yq.mono HBW.out.size)
    have HWQ:Hid (Below w.heap.size w _):=HB5.out.trans (HYQ.out.mono HB5.out.size)
    clear yq HBW HBX
    by_cases hq:f.name=qQ
    .
     rw[zB3 hq]at HQ;clear hq;go_wp2_with fail;refine HQ.mono ?_;rintro e w6 ⟨rfl,rfl⟩;clear HQ hc1 kq;go_wp2;go_ret;exact⟨rfl,HWQ.out⟩
    .
     rw[zC2 hq]at HQ
     have HS:Hid (Below w5.heap.size w5 _/\∀k f,k<j+1->fs[k]?=some f->f.name ≠ qQ):=⟨HYQ.out,fun k g hk hg=>by
      rcases Nat.lt_or_eq_of_le (Nat.le_of_lt_succ hk) with h9|h9
      .
       exact HNO.out k g h9 hg
      .
       subst h9;have h8:=HJ.out;rw[hg]at h8;cases h8
       exact hq⟩
     clear hq;go_wp2_with fail;refine HQ.mono ?_;rintro e w6 ⟨rfl,rfl⟩;clear HQ hc1 kq;exact U48
   .
    have:nv=j:=Q0
    subst this
    have HNQ:Hid (qQ ∉ fs.map Fa.name):=fun hm=>by
     obtain⟨f,hf,e9⟩:=zE1.1 hm;obtain⟨k,hk⟩:=zH3 hf
     exact HNO.out k f (by have:=(zC1.1 hk).1;rw[HD5.out.num]at this;exact this) hk e9
    have HBW:Hid (Below w5.heap.size w5 wr):=hbw
    clear hbw HNO;go_upto_region 11 with fail
    have hw0:Below wr.heap.size wr (wr.alloc (.cells #[] 35 (0,0))):=(zD2 _ _).alloc (zB0 _) _
    have HO0:Hid ((wr.alloc (.cells #[] 35 (0,0))).ownsRow wr.heap.size 35 2 (.slice (some ⟨wr.heap.size,0,none⟩) 0 0) 0 []):=World.ownsRow_made wr #[] 0 (zB0 _) Q17 rfl
    have HW0:Hid (Below w5.heap.size w5 (wr.alloc (.cells #[] 35 (0,0)))):=HBW.out.trans (hw0.mono HBW.out.size)
    have hsz0:(wr.alloc (.cells #[] 35 (0,0))).heap.size=wr.heap.size+1:=Array.size_push _
    clear hw0
    go_wp2_with (at_builtin;refine oA rfl _ _ rfl wr.heap.size _ 0 [] rfl HO0.out av nv cv fs rfl HD5.out.num w5 HW0.out HD5.out.fa Q0 Q0 ?_)
    intro v6 w6 xs hxl hFC _ ho6 hg6;obtain⟨a6,c6,rfl,_⟩:=dK ho6;have hs0:=HW0.out.size;have hsr:=HBW.out.size
    have HW6:Hid (Below w5.heap.size w5 w6):=HW0.out.grown hg6 hs0 (fun k hk=>by simp only[Value.ownBlock,zG2]at hk;omega)
    have bR6:Below wr.heap.size wr w6:=((zD2 wr.heap.size wr).alloc (zB0 _) (.cells #[] 35 (0,0))).grown hg6 Q0 (fun k hk=>by simp only[Value.ownBlock,zG2]at hk;omega)
    have hs6:wr.heap.size+1<=w6.heap.size:=by rw[<-hsz0];exact hg6.size
    have kq:=aLd w6;have bq:=aEc w6;have sq:=aQl w6
    have bB:Below w6.heap.size w6 ((qW w6).alloc (.cells #[.slice (some ⟨w6.heap.size,0,none⟩) 2 2,.slice none 0 0] 35 (0,0))):=bq.alloc (by rw[sq];omega) _
    have HO2:Hid (((qW w6).alloc (.cells #[.slice (some ⟨w6.heap.size,0,none⟩) 2 2,.slice none 0 0] 35 (0,0))).ownsRow wr.heap.size 35 2 (.slice a6 nv c6) nv xs):=jN ho6 (fun g hg=>bB.block g (ho6.lt g hg).2)
    have xB:=Blk.new (qW w6) 35 [.slice (some ⟨w6.heap.size,0,none⟩) 2 2,.slice none 0 0]
    have hqB:eG ((qW w6).alloc (.cells #[.slice (some ⟨w6.heap.size,0,none⟩) 2 2,.slice none 0 0] 35 (0,0))) (some ⟨w6.heap.size,0,none⟩) 2 qQ:=(aPx w6).below ((zD2 _ _).alloc (zB0 _) _)
    have HLQ:Hid (bQ ((qW w6).alloc (.cells #[.slice (some ⟨w6.heap.size,0,none⟩) 2 2,.slice none 0 0] 35 (0,0))) (some ⟨(qW w6).heap.size,0,none⟩) 1 2 ([faQ].map Fa.fl)):=
     ⟨zB0 _,by unfold maxLen;omega,(fun h9=>by cases h9),fun _=>⟨_,0,rfl,⟨⟨_,xB.cell (i:=0) (v:=_) rfl,_,_,rfl,hqB,zB0 _,by unfold maxLen;omega,(fun h9=>by cases h9)⟩,⟨_,xB.cell (i:=1) (v:=_) rfl,_,_,rfl,zB0 _,zD1 _,(fun _=>rfl),(fun h9=>by cases h9)⟩,trivial⟩,trivial⟩⟩
    have HWB:Hid (Below w5.heap.size w5 ((qW w6).alloc (.cells #[.slice (some ⟨w6.heap.size,0,none⟩) 2 2,.slice none 0 0] 35 (0,0)))):=HW6.out.trans (bB.mono HW6.out.size)
    have HFC:Hid (FaC w5 xs fs):=hFC
    have HXL:Hid (xs.length=nv*2):=hxl
    have HG6:Hid ((wr.alloc (.cells #[] 35 (0,0))).grownBy w6 (some wr.heap.size)):=hg6
    have hsB:((qW w6).alloc (.cells #[.slice (some ⟨w6.heap.size,0,none⟩) 2 2,.slice none 0 0] 35 (0,0))).heap.size=w6.heap.size+2:=by rw[show((qW w6).alloc (.cells #[.slice (some ⟨w6.heap.size,0,none⟩) 2 2,.slice none 0 0] 35 (0,0))).heap.size=(qW w6).heap.size+1 from Array.size_push _,sq]
    have HQ6:Hid (((qW w6).alloc (.cells #[.slice (some ⟨w6.heap.size,0,none⟩) 2 2,.slice none 0 0] 35 (0,0))).heap[w6.heap.size]?=(qW w6).heap[w6.heap.size]?):=((zD2 (qW w6).heap.size (qW w6)).alloc (zB0 _) _).block _ (by rw[sq];omega)
    have HXB:Hid (((qW w6).alloc (.cells #[.slice (some ⟨w6.heap.size,0,none⟩) 2 2,.slice none 0 0] 35 (0,0))).cell? ⟨(qW w6).heap.size,0+0,none⟩=some (.slice (some ⟨w6.heap.size,0,none⟩) 2 2)/\((qW w6).alloc (.cells #[.slice (some ⟨w6.heap.size,0,none⟩) 2 2,.slice none 0 0] 35 (0,0))).cell? ⟨(qW w6).heap.size,0+1,none⟩=some (.slice none 0 0)):=⟨xB.k 0,xB.k 1⟩
    have HA6:Hid (∀k,(Value.slice a6 nv c6).ownBlock=some k->k<w6.heap.size):=fun k hk=>(ho6.lt k hk).2
    clear bq sq bB xB hqB hxl hFC hg6 ho6 HO0
    go_wp2_with (at_builtin;refine oA rfl _ _ rfl wr.heap.size _ nv xs rfl HO2.out (some ⟨(qW w6).heap.size,0,none⟩) 1 1 [faQ] rfl rfl _ (zD2 _ _) HLQ.out Q0 Q0 ?_)
    intro v7 w7 xq hql _ hqc ho7 hg7;obtain⟨a7,c7,rfl,hcap7,hmax7,hnil7,hsome7⟩:=dK ho7;obtain⟨g7,rfl⟩:=hsome7 Q0
    have ha6:∀k,(Value.slice a6 nv c6).ownBlock=some k->wr.heap.size<=k/\k<w6.heap.size:=fun k hk=>by
     obtain⟨q1,_⟩:=HO2.out.lt k hk;refine⟨q1, ?_⟩
     rcases HO2.out.2 with⟨e9,_⟩|⟨g9,cap9,cur9,e9,_,h9,_⟩
     .
      rw[e9]at hk;cases hk
     .
      rw[e9]at hk;simp only[Value.ownBlock,zG2]at hk;subst hk
      exact HA6.out g9 (by rw[e9];rfl)
    have HW7:Hid (Below w5.heap.size w5 w7):=HWB.out.grown hg7 HWB.out.size (fun k hk=>by have:=ha6 k hk;omega)
    have hqn:w7.heap[w6.heap.size]?=(qW w6).heap[w6.heap.size]?:=(hg7.block _ (by rw[hsB];omega) (fun e9=>by have:=ha6 _ e9.symm;omega)).trans (HQ6.out)
    have hqr:eG w7 (some ⟨w6.heap.size,0,none⟩) 2 qQ:=by
     obtain⟨_,q2,q3⟩:=aPx w6
     refine⟨rfl,q2,fun h9=>?_⟩
     obtain⟨b9,o9,e9,hc9⟩:=q3 h9;cases e9
     exact⟨_,_,rfl,fun i hi=>(World.cell?_of_block hqn).trans (hc9 i hi)⟩
    have Bg:∀j u,(xs++xq)[j]?=some u->w7.cell? ⟨g7,0+j,none⟩=some u:=fun j u hj=>by rw[zJ2];exact rI ho7 j u hj
    have hx0:xq[0]?=some (.slice (some ⟨w6.heap.size,0,none⟩) 2 2)/\xq[1]?=some (.slice none 0 0):=by
     obtain⟨x0,x1,rfl⟩:∃a b,xq=[a,b]:=by
      match xq,hql with
      | [a,b],_=>exact⟨a,b,rfl⟩
     have h0:=hqc 0 x0 rfl;have h1:=hqc 1 x1 rfl;simp only[List.getElem?_cons_zero,List.getElem?_cons_succ,zG2]at h0 h1;subst h0 h1;exact⟨rfl,rfl⟩
    have HMR:Hid (bQ w7 (some ⟨g7,0,none⟩) c7 2 ((fs++[faQ]).map Fa.fl)):=by
     refine⟨by rw[zB2,zA1,HD5.out.num];exact hcap7,hmax7,(fun h9=>by cases h9),fun _=>⟨g7,0,rfl, ?_⟩⟩
     rw[List.map_append]
     refine Eg.rdRows_snoc (HFC.out w7 g7 0 HW7.out (fun j u hj=>Bg j u (by rw[List.getElem?_append_left (zC1.1 hj).1];exact hj))) ?_
     rw[zB2,HD5.out.num,zJ2]
     have k0:=Bg (nv*2) _ (by rw[List.getElem?_append_right (by rw[HXL.out];exact zB0 _),HXL.out,Nat.sub_self];exact hx0.1)
     have k1:=Bg (nv*2+1) _ (by rw[List.getElem?_append_right (by rw[HXL.out];omega),HXL.out,Nat.add_sub_cancel_left];exact hx0.2)
     rw[zJ2]at k0 k1
     exact⟨⟨_,k0,_,_,rfl,hqr,zB0 _,by unfold maxLen;omega,(fun h9=>by cases h9)⟩,⟨_,k1,_,_,rfl,zB0 _,zD1 _,(fun _=>rfl),(fun h9=>by cases h9)⟩,trivial⟩
    clear hcap7 hmax7 hnil7 hsome7 ha6 hqn hqr Bg hx0 HXL HFC HXB HO2 HLQ HWB HQ6 HA6 hg7 ho7 hqc hql hsB kq hs6 bR6 HW6 HW0 hsz0 hs0 hsr HG6 HBW
    have HN1:Hid (m.uses.length=n1):=HD5.out.uses.1
    have hn1:n1<=1000000:=by
     have h8:=HD5.out.len;have h9:=HD5.out.uses.1;simp only[Mo.fl,aL,Fl.len,dC,zB2]at h8
     omega
    have HU1:Hid (bQ w7 a1 c1 1 (dC m.uses)):=HD5.out.uses.2.below HW7.out
    have x7:=x45.below HW7.out x45.lt;have p1:=x7.k 1;go_wp2_with fail;clear p1
    go_loopw [9,10] (fun u i wr=>∃(j:Nat) (ub:Bool),j<=n1/\i=.int .i64 j/\u=.bool ub/\Hid (Below w7.heap.size w7 wr/\ub=decide (qQ ∈ m.uses.take j))) (fun u i _=>n1-(intOf i).toNat)
    case atStart=>exact⟨0,false,zD1 _,rfl,rfl,⟨zD2 _ _,by simp⟩⟩
    case round=>
     obtain⟨j,ub,hj,rfl,rfl,hst⟩:=hrel;have hbz:=hst.out.1
     have HUB:Hid (ub=decide (qQ ∈ m.uses.take j)):=hst.out.2
     clear hst;have xz:=x7.below hbz x7.lt;have p1:=xz.k 1
     by_cases Aj:j<n1
     .
      cases ub with
      | true=>
       have HS:Hid (Below w7.heap.size w7 wr/\true=decide (qQ ∈ m.uses.take (j+1))):=⟨hbz,by
        have h9:=HUB.out
        symm at h9 ⊢
        rw[zE3]at h9 ⊢;rw[List.take_add_one]
        exact List.mem_append_left _ h9⟩
       clear hbz xz;go_wp2;go_roundw
       case rel=>exact⟨j+1,true,by omega,by go_num,rfl,HS⟩
       case measure=>simp[intOf];omega
      | false=>
       obtain⟨x,hx⟩:∃x,m.uses[j]?=some x:=⟨_,zA0 Q48⟩
       obtain⟨bu,off,rfl⟩:=HU1.out.addr (by simp only[dC,zB2];rw[HN1.out];omega)
       obtain⟨⟨v0,hc0,ax,cx,rfl,hbx,_⟩,_⟩:=HU1.out.el (show(dC m.uses)[j]?=some [.b x] by simp[dC,hx])
       rw[Nat.mul_one]at hc0;have hc1:=aC hc0 hbz
       obtain⟨lx,hlx⟩:∃z,z=x.length:=⟨_,rfl⟩
       rw[<-hlx]at hc1 hbx
       have HBX:Hid (eG wr ax lx x):=hbx.below hbz
       have yq:=aEc wr;have kq:=aLd wr;have HQ:=aK9 ax lx cx x (some ⟨wr.heap.size,0,none⟩) 2 2 qQ _ (HBX.out.below yq) (aPx wr)
       obtain⟨ub,hub⟩:∃z,z=decide (x=qQ):=⟨_,rfl⟩
       rw[<-hub]at HQ
       have HS:Hid (Below w7.heap.size w7 _/\ub=decide (qQ ∈ m.uses.take (j+1))):=⟨hbz.trans (yq.mono hbz.size),by
        have h9:=HUB.out
        symm at h9
        rw[zH0]at h9;rw[hub,decide_eq_decide,List.take_add_one,hx]
        constructor
        .
         intro e9;subst e9;exact List.mem_append_right _ (List.mem_singleton.2 rfl)
        .
         intro h8
         rcases List.mem_append.1 h8 with h8|h8
         .
          exact absurd h8 h9
         .
          exact(List.mem_singleton.1 h8).symm⟩
       clear hc0 hbx hlx hub yq hbz xz HBX hx;go_wp2_with fail;refine HQ.mono ?_;rintro e w8 ⟨rfl,rfl⟩;clear HQ hc1 kq p1;go_wp2;go_roundw
       case rel=>exact⟨j+1,ub,by omega,by go_num,rfl,HS⟩
       case measure=>simp[intOf];omega
     .
      have:n1=j:=Q0
      subst this
      have HUB2:Hid (ub=decide (qQ ∈ m.uses)):=by
       have h9:=HUB.out
       rw[zD3 (by rw[HN1.out];exact zB0 _)]at h9
       exact h9
      have HWZ:Hid (Below w5.heap.size w5 wr):=HW7.out.trans (hbz.mono HW7.out.size)
      have HMZ:Hid (bQ wr (some ⟨g7,0,none⟩) c7 2 ((fs++[faQ]).map Fa.fl)):=HMR.out.below hbz
      have xF:=x5.below HWZ.out x5.lt;have p0:=xz.k 0;have p2:=xz.k 2;have p3:=xz.k 3;obtain⟨f0,f1⟩:=xF.c2
      have HCK:ub=false->∀wx,Below wr.heap.size wr wx->Calls Tryz.prog 5 #[.agg #[.slice a0 n0 c0,.slice a1 n1 c1,.slice a2 n2 c2,.slice a3 n3 c3],.slice (some ⟨g7,0,none⟩) (nv+1) c7] wx fun e w'=>e=.returned (.int .i64 tc)/\wx.grownBy w' none:=fun hu wx hx=>by
       have b5:=HWZ.out.trans (hx.mono HWZ.out.size);have hD:=HD5.out.below b5;have hTx:=HT5.out.below b5
       have hq:qQ ∉ m.uses:=fun h9=>by
        have h8:=HUB2.out;rw[hu,zB3 h9]at h8;cases h8
       have Ak:aH ((fs++[faQ]).map Fa.fl)<=1000:=by
        have h9:=HD5.out.lens;rw[List.map_append,qU]
        have:aH ([faQ].map Fa.fl)=2:=by decide
        omega
       have H:=aAd m (fs++[faQ]) _ (some ⟨g7,0,none⟩) (nv+1) c7 wx hTx.tb hTx.exs hTx.sts hD.mo (by have:=hD.len;omega) (HMZ.out.below hx) (by rw[zA1,HD5.out.num];rfl) (aAh Ak Q0)
       rw[aDt (by rw[HTC.out];exact h1) HNQ.out hq (by rw[HD5.out.num];omega),HTC.out]at H
       exact H
      have HEND:Hid (∀wx,Below wr.heap.size wr wx->Below w.heap.size w wx):=fun wx hx=>(HB5.out.trans (HWZ.out.mono HB5.out.size)).trans (hx.mono (zF2 HB5.out.size HWZ.out.size))
      by_cases h0:tc=0
      .
       have hfw:=aFt (HTC.out.trans h0)
       have hfp:jK m=aFu m:=by unfold jK;rw[if_pos hfw.1]
       have hfk:vS (jK m)=true:=by rw[hfp];exact hfw.2
       have hnm:(jK m).name=m.name:=by rw[hfp];rfl
       have hpt:=hfk;unfold vS at hpt;simp only[zC0,zE3,zF3]at hpt
       have nl:∀{l:List Int} {g:Bool},aK l g=true->l.length<=8:=fun {l g} h9=>by
        unfold aK at h9;simp only[zC0,zE3]at h9;exact h9.1.2
       have HFK:=rK (jK m) an cn ap cp wr (by rw[HLN.out];exact HBN5.out.below HWZ.out) (by have:=nl hpt.1.1.1;omega) (by rw[HLN.out];exact HNC.out) (HLp5.out.below HWZ.out) (fun q hq=>by
        have h9:=hpt.1.2 q hq;unfold aDm at h9;simp only[zC0]at h9
        have:=nl h9.1.1
        omega)
       rw[HLN.out,HLP.out,hfk]at HFK
       have HSM:∀wx,Below wr.heap.size wr wx->Calls Tryz.prog 8 #[.slice an ln cn,.slice a0 n0 c0] wx fun e w'=>e=.returned (.bool true)/\w'=wx:=fun wx hx=>by
        have b5:=HWZ.out.trans (hx.mono HWZ.out.size);have H:=aK9 an ln cn (jK m).name a0 n0 c0 m.name wx (HBN5.out.below b5) (HD5.out.below b5).name;rw[hnm,zB3 rfl]at H;exact H
       subst h0;clear hfw hfp hfk hnm hpt nl HBN5 HLp5 HMZ HUB HUB2 x7 HU1 hbz;go_wp2_with fail;refine HFK.mono ?_;rintro e w8 ⟨rfl,hg8⟩;have b8:=aA hg8;have HS8:=HSM w8 b8
       have HC8:=fun hu=>HCK hu w8 b8
       have f0:=(xF.below b8 xF.lt).k 0;have f1:=(xF.below b8 xF.lt).k 1;have p0:=(xz.below b8 xz.lt).k 0;have p1:=(xz.below b8 xz.lt).k 1;have p2:=(xz.below b8 xz.lt).k 2;have p3:=(xz.below b8 xz.lt).k 3
       have HE8:Hid (∀wx,w8.grownBy wx none->Below w.heap.size w wx):=fun wx hx=>HEND.out wx (b8.trans ((aA hx).mono b8.size))
       clear HFK hg8 HSM HCK HEND xF xz b8;go_wp2_with fail;refine HS8.mono ?_;rintro e w9 ⟨rfl,rfl⟩;clear HS8
       cases ub with
       | true=>
        clear HC8;go_wp2;go_ret;exact⟨rfl,HE8.out _ (World.grownBy.refl _ _)⟩
       | false=>
        have HC9:=HC8 rfl;clear HC8;go_wp2_with fail;refine HC9.mono ?_;rintro e w10 ⟨rfl,hg⟩;clear HC9 f0 f1 p0 p1 p2 p3;go_wp2;go_ret;exact⟨rfl,HE8.out _ hg⟩
      .
       clear HBN5 HLp5 HMZ HUB HUB2 x7 HU1 hbz
       cases ub with
       | true=>
        clear HCK;go_wp2;go_ret;exact⟨rfl,HEND.out _ (zD2 _ _)⟩
       | false=>
        have HC9:=HCK rfl wr (zD2 _ _);clear HCK;go_wp2_with fail;refine HC9.mono ?_;rintro e w10 ⟨rfl,hg⟩;clear HC9 f0 f1 p0 p1 p2 p3 xF xz;go_wp2;go_ret;exact⟨rfl,HEND.out _ (aA hg)⟩
end Go.Proofs.YtffphdacgblaoaaGreatDoor

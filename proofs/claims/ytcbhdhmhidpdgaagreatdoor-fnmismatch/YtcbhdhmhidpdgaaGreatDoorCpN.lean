import Derived.Test.YtcbhdhmhidpdgaaGreatDoorPackI
namespace Go.Proofs.YtcbhdhmhidpdgaaGreatDoor
open Go.RowKit
set_option linter.unusedVariables false
set_option linter.unusedSimpArgs false
set_option maxRecDepth 100000
theorem QA0{p:Prop}(h:p:=by
 have HY:Hid _:=HSX.out wz bz
 have HC:Hid _:=C13'.out wz bz
 have Ny:Blk wz g1 80 [.slice Ln f.name.length Lm,.slice (some ⟨pb,po,none⟩) nq pc]:=BZ
 have Vs:=HY.out
 have Fq:=HC.out
 have Nn:∀wl,Below wz.heap.size wz wl->wl.cell? ⟨g1,0,none⟩=some (.slice Ln f.name.length Lm)/\wl.cell? ⟨g1,1,none⟩=some (.slice (some ⟨pb,po,none⟩) nq pc)/\wl.cell? ⟨gx,3,none⟩=some (.slice an name.length cn)/\wl.cell? ⟨pb,po+pi*2+1,none⟩=some (.slice ka y.kinds.length kc):=fun wl hb=>⟨aB (Ny.k 0) hb,aB (Ny.k 1) hb,aB Vs.2.1 hb,aB Vs.2.2 hb⟩
 have Vt:Hid (∀wl,Below wz.heap.size wz wl->wl.cell? ⟨E.g,13,none⟩=some (.slice ai ni qi)/\wl.cell? ⟨gx,2,none⟩=some (.slice am mod.length cm)/\wl.cell? ⟨gx,3,none⟩=some (.slice an name.length cn)):=fun wl hb=>⟨aB Fq hb,aB Vs.1 hb,aB Vs.2.1 hb⟩
 have hz:Below E.w0.heap.size E.w0 wz:=Qx.out.gs.bel
 have H2:=lE f _ wz.drew (aL.below HFR.out hz.drew) an name.length cn name (HN.out.1.below hz.drew)
 simp only[agg,List.toArray]at H2
 rw[cJ HP1.out]at H2
 have Is:=Nn wz.drew (zD2 _ _).drew
 have HFM:Hid (f ∈ E.fs/\y ∈ f.procs):=HMEM
 clear Vs Fq Ny hz BZ bz H1 Bi Br
 go_wp2_with fail
 refine zJ3 (S:=fun wl=>wl.cell? ⟨g1,0,none⟩=some (.slice Ln f.name.length Lm)/\wl.cell? ⟨g1,1,none⟩=some (.slice (some ⟨pb,po,none⟩) nq pc)/\wl.cell? ⟨gx,3,none⟩=some (.slice an name.length cn)/\wl.cell? ⟨pb,po+pi*2+1,none⟩=some (.slice ka y.kinds.length kc)) A1 Is (fun Aa=>?_)
 refine ta 0 ?_
 refine ta 1 ?_
 refine ta 2 ?_
 try simp only[nrm]
 refine ta 3 ?_
 refine ta 4 ?_
 try simp only[nrm]
 refine ra 5 fun K hK=>?_
 go_simp
 (with_reducible refine H2.mono ?_)
 rintro e wy ⟨rfl,hgy⟩
 have Vr:Below wz.heap.size wz wy:=(zD2 wz.heap.size wz).drew.trans (aA hgy)
 have Tk:=Nn wy Vr
 clear hgy
 go_wp2_with fail
 refine hK.out _ _ (Tk) (fun Aa=>?_)
 clear hK K
 try simp only[nrm]
 refine ta 6 ?_
 refine ta 7 ?_
 refine ta 8 ?_
 try simp only[nrm]
 refine ta 9 ?_
 try simp only[nrm]
 refine zK0 A1 ?_ _
 have HQ5:Hid (Us E d wb (aD ks) d2 wy):=Qx.out.on HE.out Vr
 have Fc:Hid (∀wl,Below wy.heap.size wy wl->wl.cell? ⟨E.g,13,none⟩=some (.slice ai ni qi)/\wl.cell? ⟨gx,2,none⟩=some (.slice am mod.length cm)/\wl.cell? ⟨gx,3,none⟩=some (.slice an name.length cn)):=fun wl hb=>Vt.out wl (Vr.trans (hb.mono Vr.size))
 have hw:Below E.w0.heap.size E.w0 wy:=HQ5.out.gs.bel
 have H3:=kF an name.length cn name ka y.kinds.length kc y.kinds wy.drew (HN.out.1.below hw.drew) HN.out.2 (HKR.out.below hw.drew) (by have:=aCp HE.out.th HTY.out.2;omega) (Jo.out f HFM.out.1 y HFM.out.2)
 have hI:Eg.I64 (fZ (name++cW y.kinds) (name.length+y.kinds.length)):=by have:=kE (name++cW y.kinds) (name.length+y.kinds.length);unfold Eg.I64;omega
 generalize fZ (name++cW y.kinds) (name.length+y.kinds.length)=pr at *
 have HV:Hid (Eg.RV E.τ0 [.b 4,.b 4,.n] [.slice am mod.length cm,.slice an name.length cn,.int .i64 pr]):=⟨_,_,rfl,HTY.out.1,_,_,rfl,HTY.out.2,_,_,rfl,⟨pr,rfl,hI⟩,rfl⟩
 clear Tk Is H2 Vr hw hI Nn Vt
 go_wp2_with fail
 have Jz:=Fc.out wy.drew (zD2 _ _).drew
 refine rl 18 (S:=fun wl=>wl.cell? ⟨E.g,13,none⟩=some (.slice ai ni qi)/\wl.cell? ⟨gx,2,none⟩=some (.slice am mod.length cm)/\wl.cell? ⟨gx,3,none⟩=some (.slice an name.length cn)) A1 Jz (fun Aa=>?_)
 refine la 0 ?_
 refine la 1 ?_
 refine la 2 ?_
 try simp only[nrm]
 refine la 3 ?_
 refine la 4 ?_
 refine la 5 ?_
 try simp only[nrm]
 refine la 6 ?_
 refine la 7 ?_
 refine la 8 ?_
 try simp only[nrm]
 refine la 9 ?_
 refine la 10 ?_
 refine la 11 ?_
 try simp only[nrm]
 try simp only[nrm]
 refine da 12 fun K hK=>?_
 go_simp
 (with_reducible refine H3.mono ?_)
 rintro e wp ⟨rfl,bp0⟩
 have bp:Below wy.heap.size wy wp:=(zD2 wy.heap.size wy).drew.trans bp0
 have Nd:=Fc.out wp bp
 clear bp0 H3
 go_wp2_with fail
 refine hK.out _ _ (Nd) (fun Aa=>?_)
 clear hK K
 try simp only[nrm]
 refine la 13 ?_
 try simp only[nrm]
 have xC:Blk (wp.alloc (.cells #[.slice am mod.length cm,.slice an name.length cn,.int .i64 pr] 42 (0,0))) wp.heap.size 42 [.slice am mod.length cm,.slice an name.length cn,.int .i64 pr]:=Blk.new wp 42 [.slice am mod.length cm,.slice an name.length cn,.int .i64 pr]
 have bc:Below wy.heap.size wy (wp.alloc (.cells #[.slice am mod.length cm,.slice an name.length cn,.int .i64 pr] 42 (0,0))):=bp.alloc bp.size _
 have Fy:=Fc.out _ bc
 refine da 14 fun K hK=>?_
 go_simp
 refine hK.out _ _ (Fy) (fun Aa=>?_)
 clear hK K
 try simp only[nrm]
 have Ed:Hid (Us E d wb (aD ks) d2 (wp.alloc (.cells #[.slice am mod.length cm,.slice an name.length cn,.int .i64 pr] 42 (0,0)))):=HQ5.out.on HE.out bc
 clear bc bp
 generalize (wp.alloc (.cells #[.slice am mod.length cm,.slice an name.length cn,.int .i64 pr] 42 (0,0)))=wd at *
 generalize wp.heap.size=gz at *
 have Au:wd.ownsRow E.w0.heap.size 42 3 (.slice ai ni qi) ni (d2.r 1).xs:=by have:=Ed.out.gs.row 1 A0;rw[Vw.out,HNI.out]at this;exact this
 refine da 15 fun K hK=>?_
 rw[if_pos A1]
 refine mI aD4 Tryz.underlying37 rfl A6 A6 _ _ rfl (v:=.slice ai ni qi) rfl Au rfl xC rfl (Eg.RV.one HV.out) hq Ed.out.gs.bel.size ?_
 intro g' c' we ho Al hl
 have Ch:wd.grownBy we (d2.r 1).v.ownBlock:=by rw[Vw.out];exact Al
 have HF:Hid (GS E ((d2.at d2.sl d2.s4).put 1 ⟨(.slice (some ⟨g',0,none⟩) (ni+1) c'),(d2.r 1).n+1,(d2.r 1).xs++[.slice am mod.length cm,.slice an name.length cn,.int .i64 pr]⟩) (we.setCell ⟨E.g,13,none⟩ (.slice (some ⟨g',0,none⟩) (ni+1) c'))):=
  Ed.out.gs.put HE.out (i:=1) A0 (q:=(⟨(.slice (some ⟨g',0,none⟩) (ni+1) c'),(d2.r 1).n+1,(d2.r 1).xs++[Value.slice am mod.length cm,Value.slice an name.length cn,Value.int .i64 pr]⟩:RD)) Ch (by rw[HNI.out];exact ho) (fun b hb=>by
   have hb:some g'=some b:=hb
   rw[Vw.out]
   cases hb
   exact hl.imp id (fun e=>Nat.le_of_eq e.symm)) d2.sl d2.s4 (Ed.out.gs.el.imp HV.out)
 have Yp:Hid (Kt wb (we.setCell ⟨E.g,13,none⟩ (.slice (some ⟨g',0,none⟩) (ni+1) c'))):=Ed.out.kt.trans (Ed.out.gs.kt (i:=1) A0 Ch _)
 have Ew:we.heap[E.g]?=wd.heap[E.g]?:=Ch.block E.g Ed.out.gs.lt (fun e=>Ed.out.gs.ng 1 E.g A0 e.symm rfl)
 have b3:Blk we E.g 143 (cells E d2):=Ew.trans Ed.out.gs.blk
 have f13:=b3.free 13
 have Gx:Blk we gx 176 [.int .i64 6,.int .i64 n,.slice am mod.length cm,.slice an name.length cn,.slice ak nk ck]:=by
  have hxw:=Ed.out.b HX.out
  exact(((Kt.grown (w:=wd) Ch fun b eb cs T fl hb=>by
   obtain⟨Qt,e'⟩:=iU (Ed.out.gs.row 1 A0) eb
   rw[e']at hb
   cases hb
   exact mL (i:=1)).blk gx _ _ _ hxw A6).trans hxw:we.heap[gx]?=_)
 have k13:we.cell? ⟨E.g,13,none⟩=some (.slice ai ni qi):=b3.cell (i:=13) (by rw[<-Vw.out];rfl)
 have h9:=(⟨k13,Gx.k 2,Gx.k 3⟩:we.cell? ⟨E.g,13,none⟩=some (.slice ai ni qi)/\we.cell? ⟨gx,2,none⟩=some (.slice am mod.length cm)/\we.cell? ⟨gx,3,none⟩=some (.slice an name.length cn))
 clear Gx
 refine hK.out _ _ (h9) (fun Aa=>?_)
 clear hK K
 try simp only[nrm]
 refine da 16 fun K hK=>?_
 go_simp
 refine hK.out _ _ (h9) (fun Aa=>?_)
 clear hK K
 try simp only[nrm]
 refine la 17 ?_
 try simp only[nrm]
 refine ea fun K hK=>?_
 go_simp
 refine hK.out _ _ ?_
 clear hK K Aa h9 k13 f13 b3 Ew Au Ch ho Al hl xC Fy Nd Jz
 have HZ:Hid (Us E d wb (1+aD ks) _ _):=⟨HF.out,fun i hi=>(GD.put_ne hi).trans (Ed.out.r i hi),Ed.out.fr,Ed.out.p,by have:=Ed.out.n;show(d2.r 1).n+1<=_;omega,Yp.out,Ed.out.sl,Ed.out.s4⟩
 go_wp2_with fail
 exact nY Tryz.results109 (HK.out _ _ HZ.out)):p:=h
theorem QA89{p:Prop}(h:p:=by
 obtain⟨_,_,e0,_,_,_,e1,_,_,_,e2,h2,_,_,e3,h3,_⟩:=h
 cases e0;cases e1;cases e2;cases e3
 exact⟨h2,h3⟩):p:=h
theorem QA130{p:Prop}(h:p:=by
 go_wp2_with fail
 exact aKr Tryz.results109 (HK.out _ _ (q0.wide A0))):p:=h
namespace Cp
def UC (e:Ex):Prop:=∀(n:Nat) (E:En) (d:GD) (w:World) (Q:Ending->World->Prop) (p:Pr) (v0 v1 v2 v3 v4:Value),n<=3->Eg.RV E.τ0 (XF n) [v0,v1,v2,v3,v4]->dX E->(∀f ∈ E.fs,∀y ∈ f.procs,y.kinds.length<=1048576)->GS E d w->(d.r 1).n+cQ e<=1000000->qA E.m E.fs p e=true->aL E.w0 e.fl [v0,v1,v2,v3,v4]->(∀d' w',Us E d w (cQ e) d' w'->Q (.returned (.tuple #[])) w') →
 Calls Tryz.prog 109 #[.pointer (some ⟨E.g,0,none⟩),.agg #[v0,v1,v2,v3,v4]] w Q
theorem aQf {τ:Eg.Sm}{n:Nat}{v0 v1 v2 v3 v4:Value}(h:Eg.RV τ (XF n) [v0,v1,v2,v3,v4]):Eg.FV τ (.b 4) v2/\Eg.FV τ (.b 4) v3:=by
 match n,h with
 | 0,h=>
  exact QA89
 | n+1,h=>
  exact QA89
theorem aD4:(Tryz.prog.info? 42).map (fun i=>(i.zero,i.size,i.bytes))=some (some (.agg #[.slice none 0 0,.slice none 0 0,.int .i64 0]),3,56):=by kernel_rfl
theorem aCp {τ:Eg.Sm}{W:World}(hT:Eg.TH τ W){a:Option Addr}{n c m:Nat}(h:Eg.FV τ (.b m) (.slice a n c)):n<=m:=by
 obtain⟨k,hk,hs⟩:=h;obtain⟨_,_,e,_⟩:=hs.sh hT;cases e;exact hk
set_option maxHeartbeats 40000000 in
theorem aQ4 (k n:Int)(mod name:List Int)(ks:List Ex)(IH:∀e ∈ ks,UC e):UC (.mk k n mod name ks):=by
 intro nt E d w Q p v0 v1 v2 v3 v4 Ht Xq hE Ca hG hn hg hv kk;have Jo:Hid (∀f ∈ E.fs,∀y ∈ f.procs,y.kinds.length<=1048576):=Ca;have HE:Hid (dX E):=hE;have Ks:Hid (∀e ∈ ks,UC e):=IH;have HTY:Hid (Eg.FV E.τ0 (.b 4) v2/\Eg.FV E.τ0 (.b 4) v3):=aQf Xq;obtain⟨_,_,e0,rfl,_,_,e1,rfl,_,_,e2,⟨am,cm,rfl,Es,_,_,Gz⟩,_,_,e3,⟨an,cn,rfl,Be,_,_,Iv⟩,_,_,e4,hl,e5⟩:=hv;cases e0;cases e1;cases e2;cases e3;cases e4;obtain⟨ak,ck,rfl,hL⟩:=hl.list;have Ay:(exs ks).length=ks.length:=by rw[aX,zB2]
 rw[Ay]at Xq ⊢;have HT:Hid (nt<=3/\Eg.RV E.τ0 (XF nt) [.int .i64 k,.int .i64 n,.slice am mod.length cm,.slice an name.length cn,.slice ak ks.length ck]):=⟨Ht,Xq⟩
 obtain⟨nk,hnk⟩:=zx (ks.length);have Am:Hid (ks.length=nk):=hnk.symm;rw[<-hnk];have HL:Hid (aW E.w0 ak ck 5 (exs ks)):=hL;have HM:Hid (aV E.w0 am mod.length mod):=Es;have HN:Hid (aV E.w0 an name.length name/\(an=none->cn=0)):=⟨Be,Iv⟩
 have hnd:cQ (.mk k n mod name ks)=1+aD ks:=by simp[cQ]
 rw[hnd]at hn kk;simp only[qA,zC0,zE3]at hg;obtain⟨⟨⟨⟨⟨⟨_,_⟩,Bm⟩,_⟩,Az⟩,_⟩,Dx⟩:=hg;rw[<-hnk]at Bm;have Tq:Hid ((!decide (k=6) || aJt E.m E.fs mod name)=true):=Az;have Do:Hid (fJ E.m E.fs p ks=true):=Dx;have hy:Below w.heap.size w (w.alloc (.cells #[.int .i64 k,.int .i64 n,.slice am mod.length cm,.slice an name.length cn,.slice ak nk ck] 176 (0,0))):=(zD2 _ _).alloc (zB0 _) _;have x1:=Blk.new w 176 [.int .i64 k,.int .i64 n,.slice am mod.length cm,.slice an name.length cn,.slice ak nk ck];simp only[List.toArray]at x1;obtain⟨gx,Ar⟩:=zx (w.heap.size);have S0:=Us.start (hG.on hE hy);have HK:Hid (∀d' w',Us E d (w.alloc (.cells #[.int .i64 k,.int .i64 n,.slice am mod.length cm,.slice an name.length cn,.slice ak nk ck] 176 (0,0))) (1+aD ks) d' w'->Q (.returned (.tuple #[])) w'):=fun d' w' s=>kk d' w' ⟨s.gs,s.r,s.fr,s.p,s.n,(Kt.below hy).trans s.kt,s.sl,s.s4⟩;have Gn:Hid ((d.r 1).n+(1+aD ks)<=1000000):=hn;clear kk Ca hE Az Dx Es Be hL hl hnd Ay IH hG hn hy hnk Xq Ht Gz Iv;go_enter Tryz.func109,Tryz.ntmps109;go_upto_region 1 with fail;generalize w.alloc (.cells #[.int .i64 k,.int .i64 n,.slice am mod.length cm,.slice an name.length cn,.slice ak nk ck] 176 (0,0))=wb at *;rw[<-Ar]at x1 ⊢;have HX:Hid (Blk wb gx 176 [.int .i64 k,.int .i64 n,.slice am mod.length cm,.slice an name.length cn,.slice ak nk ck]):=x1;clear x1 Ar;go_wp2_with fail;go_loopw [4] (fun i wr=>∃(j:Nat) (d':GD),j<=nk/\i=.int .i64 j/\Hid (Us E d wb (aD (ks.take j)) d' wr)) (fun i _=>nk-(intOf i).toNat)
 case atStart=>exact⟨0,d,zD1 _,rfl,by show Us _ _ _ _ _ _;simpa [aD] using S0⟩
 case round=>
  obtain⟨j,d2,hj,rfl,Hs⟩:=hrel;have hj9:(j:Int)<=4:=A0;have x4:=(Hs.out.b HX.out).k 4;by_cases Ad:j<nk
  .
   obtain⟨e,he⟩:∃e,ks[j]?=some e:=⟨_,zA0 A27⟩
   have Ax:Hid (aD (ks.take (j+1))=aD (ks.take j)+cQ e):=bR he;have Lw:Hid (aD (ks.take j)+cQ e<=aD ks):=by
    exact QA111
   have HME:Hid (e ∈ ks):=zA3 he;obtain⟨b,off,s0,s1,s2,s3,s4,rfl,Sx,⟨mt,hmt,hmv⟩,r0,r1,r2,r3,r4⟩:=aOm HE.out.th HL.out HT.out.1 HT.out.2 he;have HV:Hid (aL E.w0 e.fl [s0,s1,s2,s3,s4]):=Sx;have HMT:Hid (mt<=3/\Eg.RV E.τ0 (XF mt) [s0,s1,s2,s3,s4]):=⟨hmt,hmv⟩
   have Bf:=Hs.out.gs.bel;refine M945 ?_;intro r0 r1 r2 r3 r4;have Gs:(j:Int)<(nk:Int):=A0;clear Sx Bf he hmt hmv;go_wp2_with fail;refine Ks.out e HME.out mt E d2 wr _ p _ _ _ _ _ HMT.out.1 HMT.out.2 HE.out Jo.out Hs.out.gs (by have:=Lw.out;have:=Hs.out.n;have:=Gn.out;omega) (dG Do.out e HME.out) HV.out (fun d3 w3 t3=>?_);have q3:=Hs.out.trans t3;clear r0 r1 r2 r3 r4 x4 t3;go_wp2;go_roundw
   case rel=>exact⟨j+1,d3,by omega,by go_num,by show Us _ _ _ _ _ _;rw[Ax.out];exact q3⟩
   case measure=>simp[intOf];omega
  .
   have:nk=j:=A0;subst this;have q0:Us E d wb (aD ks) d2 wr:=by have:=Hs.out;rwa [zD3 A18]at this
   have x0:=(q0.b HX.out).k 0;clear Hs S0;by_cases hk:k=6
   .
    subst hk;have x2:=(q0.b HX.out).k 2;by_cases Fv:mod.length=0
    .
     rw[Fv]at x2;exact QA130
    .
     have hmp:((mod.length:Int) == 0)=false:=by simpa using Fv
     have hmq:((mod.length:Int)=0)=False:=by simpa using Fv
     go_wp2_with fail;clear x0 x2 hmp hmq;have HMD:Hid (mod ≠ []):=fun e=>Fv A76;obtain⟨ni,Mf⟩:=zx ((d2.r 1).n);have HNI:Hid ((d2.r 1).n=ni):=Mf.symm;have Jb:=q0.gs.row 1 A0;obtain⟨ai,qi,ei,_,hq9,_⟩:=aH Jb;rw[<-Mf]at Jb ei;have hq:ni<=1000000:=by rw[Mf];have:=q0.n;have:=Gn.out;omega
     have HI:Hid (∀i,i<ni->∃g c a0 c0 l0 a1 c1 l1 x,Value.slice ai ni qi=.slice (some ⟨g,0,none⟩) ni c/\aV E.w0 a0 (List.length l0) l0/\aV E.w0 a1 (List.length l1) l1/\wr.cell? ⟨g,i*3,none⟩=some (.slice a0 l0.length c0)/\wr.cell? ⟨g,i*3+1,none⟩=some (.slice a1 l1.length c1)/\wr.cell? ⟨g,i*3+2,none⟩=some (.int .i64 x)):=by
      intro i hi;obtain⟨g,c,a0,c0,l0,a1,c1,l1,x,e9,h⟩:=aPl HE.out Jb q0.gs.el.e1 (i:=i) hi;exact⟨g,c,a0,c0,l0,a1,c1,l1,x,ei.symm.trans e9,h⟩
     have C13:Hid (wr.cell? ⟨E.g,13,none⟩=some (.slice ai ni qi)):=q0.gs.blk.cell (i:=13) (by rw[<-ei];rfl);have X1:Hid (wr.cell? ⟨gx,2,none⟩=some (.slice am mod.length cm)/\wr.cell? ⟨gx,3,none⟩=some (.slice an name.length cn)):=⟨(q0.b HX.out).k 2,(q0.b HX.out).k 3⟩
     have HQ0:Hid (Us E d wb (aD ks) d2 wr):=q0;have Vw:Hid ((d2.r 1).v=.slice ai ni qi):=ei;generalize wr=w2 at *;clear q0 Jb ei Mf Fv hq9;go_loopw [5] (fun i wr=>∃j:Nat,j<=ni/\i=.int .i64 j/\Hid (Below w2.heap.size w2 wr)) (fun i _=>ni-(intOf i).toNat)
     case atStart=>exact⟨0,zD1 _,rfl,zD2 _ _⟩
     case round=>
      obtain⟨j,hj,rfl,Hb⟩:=hrel;have q1:=aB C13.out Hb.out;by_cases Ad:j<ni
      .
       obtain⟨g,c,a0,c0,l0,a1,c1,l1,x,e9,b0,b1,r0,r1,_⟩:=HI.out j Ad;cases e9;have Pz:Below E.w0.heap.size E.w0 wr:=HQ0.out.gs.bel.trans (Hb.out.mono HQ0.out.gs.bel.size);have r0:=aB r0 Hb.out;have r1:=aB r1 Hb.out;have p2:=aB X1.out.1 Hb.out;have p3:=aB X1.out.2 Hb.out;have Xk:=fun d=>aR c0 ((b0.below Pz).drewN d);have Xj:=fun d=>aR cm ((HM.out.below Pz).drewN d);have kc3:=fun d=>aR c1 ((b1.below Pz).drewN d);have kc4:=fun d=>aR cn ((HN.out.1.below Pz).drewN d);have Gs:(j:Int)<(ni:Int):=A0;clear b0 b1 Pz;cases hb1:((strOfNums l0).toList == (strOfNums mod).toList) with
       | false=>
        exact QA22
       | true=>
        cases hb2:((strOfNums l1).toList == (strOfNums name).toList) with
        | false=>
         exact QA22
        | true=>
         go_wp2_with fail;go_quiet (fail);go_wp2_with fail;exact aKr Tryz.results109 (HK.out _ _ ((HQ0.out.on HE.out (Hb.out.trans ((dN9 _ _).mono Hb.out.size))).wide A0))
      .
       have:ni=j:=A0;subst this;go_wp2_with fail;clear q1;have q3:Us E d wb (aD ks) d2 wr:=HQ0.out.on HE.out Hb.out;obtain⟨fi,f,pi,y,hfi,Yd,hpi,Xv⟩:∃fi f pi y,ix (E.fs.map Fa.name) mod=some fi/\E.fs[fi]?=some f/\ix (f.procs.map Fp.name) name=some pi/\f.procs[pi]?=some y:=by
        have h1:=Tq.out;simp only[decide_true,Bool.not_true,Bool.false_or]at h1;unfold aJt at h1;rw[if_neg HMD.out]at h1;unfold sJ at h1;cases hfi:ix (E.fs.map Fa.name) mod with
        | none=>rw[hfi]at h1;cases h1| some fi=>
         rw[hfi]at h1;obtain⟨f,hf,_⟩:=lT hfi;rw[Option.bind_some,hf]at h1;obtain⟨pi,hpi⟩:=Option.isSome_iff_exists.1 h1;obtain⟨y,hy,_⟩:=lT hpi;exact⟨fi,f,pi,y,rfl,hf,hpi,hy⟩
       obtain⟨fb,fo,fvs,efa,Og,hfc⟩:=aW.cellsAt HE.out.rf (show(E.fs.map Fa.fl)[fi]?=some f.fl by rw[zA2,Yd];rfl);have HFR:Hid (aL E.w0 f.fl fvs):=Og;obtain⟨fv0,_,rfl,⟨Ln,Lm,rfl,_⟩,fv1,_,rfl,hfl1,rfl⟩:=id Og;obtain⟨pa,pc,rfl,hPL⟩:=hfl1.list;obtain⟨pb,po,pvs,rfl,hpr,Me⟩:=hPL.cellsAt (show(f.procs.map Fp.fl)[pi]?=some y.fl by rw[zA2,Xv];rfl);obtain⟨pv0,_,rfl,_,pv1,_,rfl,⟨ka,kc,rfl,hkr,_⟩,rfl⟩:=hpr;obtain⟨nf,hnf⟩:=zx (E.fn);have HNF:Hid (E.fs.length=nf):=HE.out.fl.trans hnf.symm;have hfn:(fi:Int)<(nf:Int):=by
        have h1:=(zC1.1 Yd).1;have h2:=HNF.out;omega
       rw[zB2]at HFR hfc;obtain⟨nq,Js⟩:=zx (f.procs.length);have hpn:(pi:Int)<(nq:Int):=by have:=(zC1.1 Xv).1;omega
       rw[<-Js]at HFR hfc;have Kz:=q3.gs.bel;have c4:wr.cell? ⟨E.g,4,none⟩=some (.slice (some ⟨fb,fo,none⟩) nf E.fc):=q3.gs.blk.cell (i:=4) (by rw[<-efa,hnf];rfl);have x2:=(q3.b HX.out).k 2;have x3:=(q3.b HX.out).k 3;have fc0':=aB (hfc 0 _ rfl) Kz;rw[zG1]at fc0';have fc1':=aB (hfc 1 _ rfl) Kz;have pc1':=aB (Me 1 _ rfl) Kz;have HKR:Hid (aFq E.w0 ka y.kinds.length y.kinds):=hkr;have HRF:=HE.out.rf;rw[efa]at HRF;have H1:=fun W (hb:Below wr.heap.size wr W)=>pB E.fs (some ⟨fb,fo,none⟩) nf E.fc W (aW.below HRF (Kz.trans (hb.mono Kz.size))) HNF.out am mod.length cm mod (HM.out.below (Kz.trans (hb.mono Kz.size)));have HMEM:f ∈ E.fs/\y ∈ f.procs:=⟨zA3 Yd,zA3 Xv⟩
       have HP1:Hid (ix (f.procs.map Fp.name) name=some pi):=hpi;have HQ3:Hid (Us E d wb (aD ks) d2 wr):=q3;have hf0:¬((fi:Int)<0):=A0;have La:¬((pi:Int)<0):=A0;simp only[cJ hfi]at H1;have Bi:∀wl,Below wr.heap.size wr wl->wl.cell? ⟨E.g,4,none⟩=some (.slice (some ⟨fb,fo,none⟩) nf E.fc)/\wl.cell? ⟨gx,2,none⟩=some (.slice am mod.length cm)/\wl.cell? ⟨fb,fo+fi*2,none⟩=some (.slice Ln f.name.length Lm)/\wl.cell? ⟨fb,fo+fi*2+1,none⟩=some (.slice (some ⟨pb,po,none⟩) nq pc):=fun wl hb=>⟨aB c4 hb,aB x2 hb,aB fc0' hb,aB fc1' hb⟩;have HSX:Hid (∀wl,Below wr.heap.size wr wl->wl.cell? ⟨gx,2,none⟩=some (.slice am mod.length cm)/\wl.cell? ⟨gx,3,none⟩=some (.slice an name.length cn)/\wl.cell? ⟨pb,po+pi*2+1,none⟩=some (.slice ka y.kinds.length kc)):=fun wl hb=>⟨aB x2 hb,aB x3 hb,aB pc1' hb⟩;have C13':Hid (∀wl,Below wr.heap.size wr wl->wl.cell? ⟨E.g,13,none⟩=some (.slice ai ni qi)):=fun wl hb=>aB (aB C13.out Hb.out) hb;have Br:=Bi wr.drew (zD2 _ _).drew;clear q3 hfi Yd hpi Xv efa Og hfc hfl1 hPL Me hkr hnf Js Kz c4 x2 x3 fc0' fc1' pc1' HRF;refine zJ3 (S:=fun wl=>wl.cell? ⟨E.g,4,none⟩=some (.slice (some ⟨fb,fo,none⟩) nf E.fc)/\wl.cell? ⟨gx,2,none⟩=some (.slice am mod.length cm)/\wl.cell? ⟨fb,fo+fi*2,none⟩=some (.slice Ln f.name.length Lm)/\wl.cell? ⟨fb,fo+fi*2+1,none⟩=some (.slice (some ⟨pb,po,none⟩) nq pc)) A1 Br (fun Aa=>?_);refine M949 ?_;refine M960 ?_;refine ta 8 ?_;try simp only[nrm]
       refine ta 9 ?_;try simp only[nrm]
       refine wpAnyH_ready (rs:=[10,13]) A1 A8 ?_;refine AllReadyH.cons (i:=10) (o:=?oA) ?iA ?gA (AllReadyH.cons (i:=13) (o:=?oB) ?iB ?gB AllReadyH.nil)
       case iA=>exact rfl
       case iB=>exact rfl
       case gA=>
        intro K hK;go_simp
        (with_reducible refine(H1 wr.drew (zD2 _ _).drew).mono ?_)
        rintro e wa ⟨rfl,Um⟩;have ba:Below wr.heap.size wr wa:=(zD2 wr.heap.size wr).drew.trans (aA Um);have hSa:=Bi wa ba;clear Um;go_wp2_with fail;refine hK.out _ _ (hSa) (fun Aa=>?_);clear hK K;try simp only[nrm]
        refine ta 11 ?_;refine ta 12 ?_;try simp only[nrm]
        refine ra 13 fun K hK=>?_;go_simp;have hSb:=Bi (wa.alloc (.cells #[.slice none 0 0,.slice none 0 0] 80 (0,0))) (ba.alloc ba.size _);refine hK.out _ _ (hSb) (fun Aa=>?_);clear hK K;try simp only[nrm]
        refine ra 14 fun K hK=>?_;go_simp;have bz:Below wr.heap.size wr (wa.alloc (.cells #[.slice Ln f.name.length Lm,.slice (some ⟨pb,po,none⟩) nq pc] 80 (0,0))):=ba.alloc ba.size _;have Fy:=Bi (wa.alloc (.cells #[.slice Ln f.name.length Lm,.slice (some ⟨pb,po,none⟩) nq pc] 80 (0,0))) bz;have BZ:Blk (wa.alloc (.cells #[.slice Ln f.name.length Lm,.slice (some ⟨pb,po,none⟩) nq pc] 80 (0,0))) wa.heap.size 80 [.slice Ln f.name.length Lm,.slice (some ⟨pb,po,none⟩) nq pc]:=Blk.new wa 80 [.slice Ln f.name.length Lm,.slice (some ⟨pb,po,none⟩) nq pc];refine hK.out _ _ (Fy) (fun Aa=>?_);clear hK K;try simp only[nrm]
        refine zK0 A1 ?_ _;clear hSa hSb Fy;generalize (wa.alloc (.cells #[.slice Ln f.name.length Lm,.slice (some ⟨pb,po,none⟩) nq pc] 80 (0,0)))=wz at *;generalize wa.heap.size=g1 at *;have Qx:Hid (Us E d wb (aD ks) d2 wz):=HQ3.out.on HE.out bz;exact QA0
       case gB=>
        intro K hK;go_simp;have bb:Below wr.heap.size wr (wr.alloc (.cells #[.slice none 0 0,.slice none 0 0] 80 (0,0))).drew:=((zD2 wr.heap.size wr).alloc (zB0 _) _).drew;have hSb:=Bi _ bb;have BB:Blk (wr.alloc (.cells #[.slice none 0 0,.slice none 0 0] 80 (0,0))).drew wr.heap.size 80 [.slice none 0 0,.slice none 0 0]:=Blk.new wr 80 [.slice none 0 0,.slice none 0 0];refine hK.out _ _ (hSb) (fun Aa=>?_);clear hK K;try simp only[nrm]
        generalize hg1:wr.heap.size=g1 at *;have Wz:Hid (wr.heap.size=g1):=hg1;clear hg1;generalize (wr.alloc (.cells #[.slice none 0 0,.slice none 0 0] 80 (0,0))).drew=wv at *;refine ra 10 fun K hK=>?_;go_simp
        (with_reducible refine(H1 wv bb).mono ?_)
        rintro e wa ⟨rfl,Um⟩;have ba0:=aA Um;have ba:Below g1 wr wa:=bb.trans (ba0.mono (by have:=bb.size;rw[Wz.out]at this;exact this));have hSa:=Bi wa ba;have B0:=BB.below ba0 BB.lt;clear Um;go_wp2_with fail;refine hK.out _ _ (hSa) (fun Aa=>?_);clear hK K;try simp only[nrm]
        refine ta 11 ?_;refine ta 12 ?_;try simp only[nrm]
        have B1:=B0.set (i:=0) (.slice Ln f.name.length Lm);have BZ:=B1.set (i:=1) (.slice (some ⟨pb,po,none⟩) nq pc);have z0:=B0.k 0;have f0:=B0.free 0;have z1:=B1.k 1;have f1:=B1.free 1;refine ra 14 fun K hK=>?_;go_simp;have bz:Below g1 wr ((wa.setCell ⟨g1,0,none⟩ (.slice Ln f.name.length Lm)).setCell ⟨g1,1,none⟩ (.slice (some ⟨pb,po,none⟩) nq pc)):=(ba.setCell (p:=⟨g1,0,none⟩) (zB0 _) _).setCell (p:=⟨g1,1,none⟩) (zB0 _) _;have Fy:=Bi _ bz;refine hK.out _ _ (Fy) (fun Aa=>?_);clear hK K;try simp only[nrm]
        refine zK0 A1 ?_ _;clear hSa hSb Fy z0 f0 z1 f1 B0 B1 BB;generalize ((wa.setCell ⟨g1,0,none⟩ (.slice Ln f.name.length Lm)).setCell ⟨g1,1,none⟩ (.slice (some ⟨pb,po,none⟩) nq pc))=wz at *;have Qx:Hid (Us E d wb (aD ks) d2 wz):=HQ3.out.on HE.out (by have:=bz;rw[<-Wz.out]at this;exact this);exact QA0
   .
    have Ld:(k == 6)=false:=by simpa using hk
    exact QA130
mutual
theorem aNf:∀e:Ex,UC e
 | .mk k n mod name ks=>aQ4 k n mod name ks (aIv ks)
theorem aIv:∀l:List Ex,∀e ∈ l,UC e
 | [],e,h=>by cases h
 | x :: l,e,h=>(zG3.1 h).elim (fun q=>q ▸ aNf x) (aIv l e)
end
end Cp
end Go.Proofs.YtcbhdhmhidpdgaaGreatDoor

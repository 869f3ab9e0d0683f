import Derived.Test.YtcbhdhmhidpdgaaGreatCpM
namespace Go.Proofs.YtcbhdhmhidpdgaaGreat
open Go.RowKit
set_option linter.unusedVariables false
set_option linter.unusedSimpArgs false
set_option maxRecDepth 100000
theorem QA0{p:Prop}(h:p:=by
 have HY:Hid _:=HSX.out wz bz
 have HC:Hid _:=C13'.out wz bz
 have Ot:Blk wz g1 75 [.slice Lz f.name.length Ly,.slice (some ⟨pb,po,none⟩) nq pc]:=BZ
 have Wt:=HY.out
 have Fq:=HC.out
 have Of:∀wl,Below wz.heap.size wz wl->wl.cell? ⟨g1,0,none⟩=some (.slice Lz f.name.length Ly)/\wl.cell? ⟨g1,1,none⟩=some (.slice (some ⟨pb,po,none⟩) nq pc)/\wl.cell? ⟨gx,3,none⟩=some (.slice an name.length cn)/\wl.cell? ⟨pb,po+pi*2+1,none⟩=some (.slice ka y.kinds.length kc):=fun wl hb=>⟨aB (Ot.k 0) hb,aB (Ot.k 1) hb,aB Wt.2.1 hb,aB Wt.2.2 hb⟩
 have Wu:Hid (∀wl,Below wz.heap.size wz wl->wl.cell? ⟨E.g,13,none⟩=some (.slice ai ni qi)/\wl.cell? ⟨gx,2,none⟩=some (.slice am mod.length cm)/\wl.cell? ⟨gx,3,none⟩=some (.slice an name.length cn)):=fun wl hb=>⟨aB Fq hb,aB Wt.1 hb,aB Wt.2.1 hb⟩
 have hz:Below E.w0.heap.size E.w0 wz:=Rl.out.gs.bel
 have H2:=lM f _ wz.drew (aL.below HFR.out hz.drew) an name.length cn name (HN.out.1.below hz.drew)
 simp only[agg,List.toArray]at H2
 rw[cK HP1.out]at H2
 have Kz:=Of wz.drew (zD2 _ _).drew
 have HFM:Hid (f ∈ E.fs/\y ∈ f.procs):=HMEM
 clear Wt Fq Ot hz BZ bz H1 Bj Bq
 go_wp2_with fail
 refine zK0 (S:=fun wl=>wl.cell? ⟨g1,0,none⟩=some (.slice Lz f.name.length Ly)/\wl.cell? ⟨g1,1,none⟩=some (.slice (some ⟨pb,po,none⟩) nq pc)/\wl.cell? ⟨gx,3,none⟩=some (.slice an name.length cn)/\wl.cell? ⟨pb,po+pi*2+1,none⟩=some (.slice ka y.kinds.length kc)) A1 Kz (fun Aa=>?_)
 refine ta 0 ?_
 refine ta 1 ?_
 refine ta 2 ?_
 try simp only[nrm]
 refine ta 3 ?_
 refine ta 4 ?_
 try simp only[nrm]
 refine ra 5 fun K hK=>?_
 go_simp
 (with_reducible refine H2.mono ?_)
 rintro e wy ⟨rfl,hgy⟩
 have Ws:Below wz.heap.size wz wy:=(zD2 wz.heap.size wz).drew.trans (aA hgy)
 have Tv:=Of wy Ws
 clear hgy
 go_wp2_with fail
 refine hK.out _ _ (Tv) (fun Aa=>?_)
 clear hK K
 try simp only[nrm]
 refine ta 6 ?_
 refine ta 7 ?_
 refine ta 8 ?_
 try simp only[nrm]
 refine ta 9 ?_
 try simp only[nrm]
 refine zK1 A1 ?_ _
 have HQ5:Hid (Us E d wb (aD ks) d2 wy):=Rl.out.on HE.out Ws
 have Fb:Hid (∀wl,Below wy.heap.size wy wl->wl.cell? ⟨E.g,13,none⟩=some (.slice ai ni qi)/\wl.cell? ⟨gx,2,none⟩=some (.slice am mod.length cm)/\wl.cell? ⟨gx,3,none⟩=some (.slice an name.length cn)):=fun wl hb=>Wu.out wl (Ws.trans (hb.mono Ws.size))
 have hw:Below E.w0.heap.size E.w0 wy:=HQ5.out.gs.bel
 have H3:=kP an name.length cn name ka y.kinds.length kc y.kinds wy.drew (HN.out.1.below hw.drew) HN.out.2 (HKR.out.below hw.drew) (by have:=aC3 HE.out.th HTY.out.2;omega) (Jr.out f HFM.out.1 y HFM.out.2)
 have hI:Eg.I64 (gF (name++cZ y.kinds) (name.length+y.kinds.length)):=by have:=kN (name++cZ y.kinds) (name.length+y.kinds.length);unfold Eg.I64;omega
 generalize gF (name++cZ y.kinds) (name.length+y.kinds.length)=pr at *
 have HV:Hid (Eg.RV E.τ0 [.b 4,.b 4,.n] [.slice am mod.length cm,.slice an name.length cn,.int .i64 pr]):=⟨_,_,rfl,HTY.out.1,_,_,rfl,HTY.out.2,_,_,rfl,⟨pr,rfl,hI⟩,rfl⟩
 clear Tv Kz H2 Ws hw hI Of Wu
 go_wp2_with fail
 have Kf:=Fb.out wy.drew (zD2 _ _).drew
 refine rl 18 (S:=fun wl=>wl.cell? ⟨E.g,13,none⟩=some (.slice ai ni qi)/\wl.cell? ⟨gx,2,none⟩=some (.slice am mod.length cm)/\wl.cell? ⟨gx,3,none⟩=some (.slice an name.length cn)) A1 Kf (fun Aa=>?_)
 refine la 0 ?_
 refine la 1 ?_
 refine la 2 ?_
 try simp only[nrm]
 refine la 3 ?_
 refine la 4 ?_
 refine la 5 ?_
 try simp only[nrm]
 refine la 6 ?_
 refine la 7 ?_
 refine la 8 ?_
 try simp only[nrm]
 refine la 9 ?_
 refine la 10 ?_
 refine la 11 ?_
 try simp only[nrm]
 try simp only[nrm]
 refine da 12 fun K hK=>?_
 go_simp
 (with_reducible refine H3.mono ?_)
 rintro e wp ⟨rfl,bp0⟩
 have bp:Below wy.heap.size wy wp:=(zD2 wy.heap.size wy).drew.trans bp0
 have Nn:=Fb.out wp bp
 clear bp0 H3
 go_wp2_with fail
 refine hK.out _ _ (Nn) (fun Aa=>?_)
 clear hK K
 try simp only[nrm]
 refine la 13 ?_
 try simp only[nrm]
 have xC:Blk (wp.alloc (.cells #[.slice am mod.length cm,.slice an name.length cn,.int .i64 pr] 87 (0,0))) wp.heap.size 87 [.slice am mod.length cm,.slice an name.length cn,.int .i64 pr]:=Blk.new wp 87 [.slice am mod.length cm,.slice an name.length cn,.int .i64 pr]
 have bc:Below wy.heap.size wy (wp.alloc (.cells #[.slice am mod.length cm,.slice an name.length cn,.int .i64 pr] 87 (0,0))):=bp.alloc bp.size _
 have Fy:=Fb.out _ bc
 refine da 14 fun K hK=>?_
 go_simp
 refine hK.out _ _ (Fy) (fun Aa=>?_)
 clear hK K
 try simp only[nrm]
 have Ed:Hid (Us E d wb (aD ks) d2 (wp.alloc (.cells #[.slice am mod.length cm,.slice an name.length cn,.int .i64 pr] 87 (0,0)))):=HQ5.out.on HE.out bc
 clear bc bp
 generalize (wp.alloc (.cells #[.slice am mod.length cm,.slice an name.length cn,.int .i64 pr] 87 (0,0)))=wd at *
 generalize wp.heap.size=gz at *
 have An:wd.ownsRow E.w0.heap.size 87 3 (.slice ai ni qi) ni (d2.r 1).xs:=by have:=Ed.out.gs.row 1 A0;rw[Wy.out,HNI.out]at this;exact this
 refine da 15 fun K hK=>?_
 rw[if_pos A1]
 refine mR aEk Tryz.underlying34 rfl A6 A6 _ _ rfl (v:=.slice ai ni qi) rfl An rfl xC rfl (Eg.RV.one HV.out) hq Ed.out.gs.bel.size ?_
 intro g' c' we ho Am hl
 have Cc:wd.grownBy we (d2.r 1).v.ownBlock:=by rw[Wy.out];exact Am
 have HF:Hid (GS E ((d2.at d2.sl d2.s4).put 1 ⟨(.slice (some ⟨g',0,none⟩) (ni+1) c'),(d2.r 1).n+1,(d2.r 1).xs++[.slice am mod.length cm,.slice an name.length cn,.int .i64 pr]⟩) (we.setCell ⟨E.g,13,none⟩ (.slice (some ⟨g',0,none⟩) (ni+1) c'))):=
  Ed.out.gs.put HE.out (i:=1) A0 (q:=(⟨(.slice (some ⟨g',0,none⟩) (ni+1) c'),(d2.r 1).n+1,(d2.r 1).xs++[Value.slice am mod.length cm,Value.slice an name.length cn,Value.int .i64 pr]⟩:RD)) Cc (by rw[HNI.out];exact ho) (fun b hb=>by
   have hb:some g'=some b:=hb
   rw[Wy.out]
   cases hb
   exact hl.imp id (fun e=>Nat.le_of_eq e.symm)) d2.sl d2.s4 (Ed.out.gs.el.imp HV.out)
 have Zm:Hid (Kt wb (we.setCell ⟨E.g,13,none⟩ (.slice (some ⟨g',0,none⟩) (ni+1) c'))):=Ed.out.kt.trans (Ed.out.gs.kt (i:=1) A0 Cc _)
 have Et:we.heap[E.g]?=wd.heap[E.g]?:=Cc.block E.g Ed.out.gs.lt (fun e=>Ed.out.gs.ng 1 E.g A0 e.symm rfl)
 have b3:Blk we E.g 119 (cells E d2):=Et.trans Ed.out.gs.blk
 have f13:=b3.free 13
 have Hj:Blk we gx 147 [.int .i64 6,.int .i64 n,.slice am mod.length cm,.slice an name.length cn,.slice ak nk ck]:=by
  have hxw:=Ed.out.b HX.out
  exact(((Kt.grown (w:=wd) Cc fun b eb cs T fl hb=>by
   obtain⟨Rf,e'⟩:=jD (Ed.out.gs.row 1 A0) eb
   rw[e']at hb
   cases hb
   exact mU (i:=1)).blk gx _ _ _ hxw A6).trans hxw:we.heap[gx]?=_)
 have k13:we.cell? ⟨E.g,13,none⟩=some (.slice ai ni qi):=b3.cell (i:=13) (by rw[<-Wy.out];rfl)
 have h9:=(⟨k13,Hj.k 2,Hj.k 3⟩:we.cell? ⟨E.g,13,none⟩=some (.slice ai ni qi)/\we.cell? ⟨gx,2,none⟩=some (.slice am mod.length cm)/\we.cell? ⟨gx,3,none⟩=some (.slice an name.length cn))
 clear Hj
 refine hK.out _ _ (h9) (fun Aa=>?_)
 clear hK K
 try simp only[nrm]
 refine da 16 fun K hK=>?_
 go_simp
 refine hK.out _ _ (h9) (fun Aa=>?_)
 clear hK K
 try simp only[nrm]
 refine la 17 ?_
 try simp only[nrm]
 refine ea fun K hK=>?_
 go_simp
 refine hK.out _ _ ?_
 clear hK K Aa h9 k13 f13 b3 Et An Cc ho Am hl xC Fy Nn Kf
 have HZ:Hid (Us E d wb (1+aD ks) _ _):=⟨HF.out,fun i hi=>(GD.put_ne hi).trans (Ed.out.r i hi),Ed.out.fr,Ed.out.p,by have:=Ed.out.n;show(d2.r 1).n+1<=_;omega,Zm.out,Ed.out.sl,Ed.out.s4⟩
 go_wp2_with fail
 exact oJ Tryz.results78 (HK.out _ _ HZ.out)):p:=h
theorem QA89{p:Prop}(h:p:=by
 obtain⟨_,_,e0,_,_,_,e1,_,_,_,e2,h2,_,_,e3,h3,_⟩:=h
 cases e0;cases e1;cases e2;cases e3
 exact⟨h2,h3⟩):p:=h
theorem QA131{p:Prop}(h:p:=by
 go_wp2_with fail
 exact aLk Tryz.results78 (HK.out _ _ (q0.wide A0))):p:=h
namespace Cp
def UC (e:Ex):Prop:=∀(n:Nat) (E:En) (d:GD) (w:World) (Q:Ending->World->Prop) (p:Pr) (v0 v1 v2 v3 v4:Value),n<=3->Eg.RV E.τ0 (XF n) [v0,v1,v2,v3,v4]->eA E->(∀f ∈ E.fs,∀y ∈ f.procs,y.kinds.length<=1048576)->GS E d w->(d.r 1).n+cU e<=1000000->qI E.m E.fs p e=true->aL E.w0 e.fl [v0,v1,v2,v3,v4]->(∀d' w',Us E d w (cU e) d' w'->Q (.returned (.tuple #[])) w') →
 Calls Tryz.prog 78 #[.pointer (some ⟨E.g,0,none⟩),.agg #[v0,v1,v2,v3,v4]] w Q
theorem aRc {τ:Eg.Sm}{n:Nat}{v0 v1 v2 v3 v4:Value}(h:Eg.RV τ (XF n) [v0,v1,v2,v3,v4]):Eg.FV τ (.b 4) v2/\Eg.FV τ (.b 4) v3:=by
 match n,h with
 | 0,h=>
  exact QA89
 | n+1,h=>
  exact QA89
theorem aEk:(Tryz.prog.info? 87).map (fun i=>(i.zero,i.size,i.bytes))=some (some (.agg #[.slice none 0 0,.slice none 0 0,.int .i64 0]),3,56):=by kernel_rfl
theorem aC3 {τ:Eg.Sm}{W:World}(hT:Eg.TH τ W){a:Option Addr}{n c m:Nat}(h:Eg.FV τ (.b m) (.slice a n c)):n<=m:=by
 obtain⟨k,hk,hs⟩:=h;obtain⟨_,_,e,_⟩:=hs.sh hT;cases e;exact hk
set_option maxHeartbeats 40000000 in
theorem aR2 (k n:Int)(mod name:List Int)(ks:List Ex)(IH:∀e ∈ ks,UC e):UC (.mk k n mod name ks):=by
 intro nt E d w Q p v0 v1 v2 v3 v4 Hx hty hE Bz hG hn hg hv kk;have Jr:Hid (∀f ∈ E.fs,∀y ∈ f.procs,y.kinds.length<=1048576):=Bz;have HE:Hid (eA E):=hE;have Ld:Hid (∀e ∈ ks,UC e):=IH;have HTY:Hid (Eg.FV E.τ0 (.b 4) v2/\Eg.FV E.τ0 (.b 4) v3):=aRc hty;obtain⟨_,_,e0,rfl,_,_,e1,rfl,_,_,e2,⟨am,cm,rfl,Eq,_,_,Hm⟩,_,_,e3,⟨an,cn,rfl,Be,_,_,Jb⟩,_,_,e4,hl,e5⟩:=hv;cases e0;cases e1;cases e2;cases e3;cases e4;obtain⟨ak,ck,rfl,hL⟩:=hl.list;have Ax:(exs ks).length=ks.length:=by rw[aY,zB2]
 rw[Ax]at hty ⊢;have HT:Hid (nt<=3/\Eg.RV E.τ0 (XF nt) [.int .i64 k,.int .i64 n,.slice am mod.length cm,.slice an name.length cn,.slice ak ks.length ck]):=⟨Hx,hty⟩
 obtain⟨nk,hnk⟩:=zx (ks.length);have Ap:Hid (ks.length=nk):=hnk.symm;rw[<-hnk];have HL:Hid (aX E.w0 ak ck 5 (exs ks)):=hL;have HM:Hid (aV E.w0 am mod.length mod):=Eq;have HN:Hid (aV E.w0 an name.length name/\(an=none->cn=0)):=⟨Be,Jb⟩
 have Bw:cU (.mk k n mod name ks)=1+aD ks:=by simp[cU]
 rw[Bw]at hn kk;simp only[qI,zC0,zE3]at hg;obtain⟨⟨⟨⟨⟨⟨_,_⟩,Bn⟩,_⟩,Az⟩,_⟩,Dz⟩:=hg;rw[<-hnk]at Bn;have Uc:Hid ((!decide (k=6) || aKl E.m E.fs mod name)=true):=Az;have Dr:Hid (fW E.m E.fs p ks=true):=Dz;have hy:Below w.heap.size w (w.alloc (.cells #[.int .i64 k,.int .i64 n,.slice am mod.length cm,.slice an name.length cn,.slice ak nk ck] 147 (0,0))):=(zD2 _ _).alloc (zB0 _) _;have x1:=Blk.new w 147 [.int .i64 k,.int .i64 n,.slice am mod.length cm,.slice an name.length cn,.slice ak nk ck];simp only[List.toArray]at x1;obtain⟨gx,Au⟩:=zx (w.heap.size);have S0:=Us.start (hG.on hE hy);have HK:Hid (∀d' w',Us E d (w.alloc (.cells #[.int .i64 k,.int .i64 n,.slice am mod.length cm,.slice an name.length cn,.slice ak nk ck] 147 (0,0))) (1+aD ks) d' w'->Q (.returned (.tuple #[])) w'):=fun d' w' s=>kk d' w' ⟨s.gs,s.r,s.fr,s.p,s.n,(Kt.below hy).trans s.kt,s.sl,s.s4⟩;have Gr:Hid ((d.r 1).n+(1+aD ks)<=1000000):=hn;clear kk Bz hE Az Dz Eq Be hL hl Bw Ax IH hG hn hy hnk hty Hx Hm Jb;go_enter Tryz.func78,Tryz.ntmps78;go_upto_region 1 with fail;generalize w.alloc (.cells #[.int .i64 k,.int .i64 n,.slice am mod.length cm,.slice an name.length cn,.slice ak nk ck] 147 (0,0))=wb at *;rw[<-Au]at x1 ⊢;have HX:Hid (Blk wb gx 147 [.int .i64 k,.int .i64 n,.slice am mod.length cm,.slice an name.length cn,.slice ak nk ck]):=x1;clear x1 Au;go_wp2_with fail;go_loopw [4] (fun i wr=>∃(j:Nat) (d':GD),j<=nk/\i=.int .i64 j/\Hid (Us E d wb (aD (ks.take j)) d' wr)) (fun i _=>nk-(intOf i).toNat)
 case atStart=>exact⟨0,d,zD1 _,rfl,by show Us _ _ _ _ _ _;simpa [aD] using S0⟩
 case round=>
  obtain⟨j,d2,hj,rfl,Hs⟩:=hrel;have hj9:(j:Int)<=4:=A0;have x4:=(Hs.out.b HX.out).k 4;by_cases Ad:j<nk
  .
   obtain⟨e,he⟩:∃e,ks[j]?=some e:=⟨_,zA0 A31⟩
   have Aw:Hid (aD (ks.take (j+1))=aD (ks.take j)+cU e):=bU he;have Mf:Hid (aD (ks.take j)+cU e<=aD ks):=by
    exact QA111
   have HME:Hid (e ∈ ks):=zA3 he;obtain⟨b,off,s0,s1,s2,s3,s4,rfl,Ti,⟨mt,hmt,hmv⟩,r0,r1,r2,r3,r4⟩:=aPj HE.out.th HL.out HT.out.1 HT.out.2 he;have HV:Hid (aL E.w0 e.fl [s0,s1,s2,s3,s4]):=Ti;have HMT:Hid (mt<=3/\Eg.RV E.τ0 (XF mt) [s0,s1,s2,s3,s4]):=⟨hmt,hmv⟩
   have Bf:=Hs.out.gs.bel;refine M946 ?_;intro r0 r1 r2 r3 r4;have Gw:(j:Int)<(nk:Int):=A0;clear Ti Bf he hmt hmv;go_wp2_with fail;refine Ld.out e HME.out mt E d2 wr _ p _ _ _ _ _ HMT.out.1 HMT.out.2 HE.out Jr.out Hs.out.gs (by have:=Mf.out;have:=Hs.out.n;have:=Gr.out;omega) (dI Dr.out e HME.out) HV.out (fun d3 w3 t3=>?_);have q3:=Hs.out.trans t3;clear r0 r1 r2 r3 r4 x4 t3;go_wp2;go_roundw
   case rel=>exact⟨j+1,d3,by omega,by go_num,by show Us _ _ _ _ _ _;rw[Aw.out];exact q3⟩
   case measure=>simp[intOf];omega
  .
   have:nk=j:=A0;subst this;have q0:Us E d wb (aD ks) d2 wr:=by have:=Hs.out;rwa [zD3 A20]at this
   have x0:=(q0.b HX.out).k 0;clear Hs S0;by_cases hk:k=6
   .
    subst hk;have x2:=(q0.b HX.out).k 2;by_cases Fv:mod.length=0
    .
     rw[Fv]at x2;exact QA131
    .
     have hmp:((mod.length:Int) == 0)=false:=by simpa using Fv
     have hmq:((mod.length:Int)=0)=False:=by simpa using Fv
     go_wp2_with fail;clear x0 x2 hmp hmq;have HMD:Hid (mod ≠ []):=fun e=>Fv A80;obtain⟨ni,Mn⟩:=zx ((d2.r 1).n);have HNI:Hid ((d2.r 1).n=ni):=Mn.symm;have Jg:=q0.gs.row 1 A0;obtain⟨ai,qi,ei,_,hq9,_⟩:=aH Jg;rw[<-Mn]at Jg ei;have hq:ni<=1000000:=by rw[Mn];have:=q0.n;have:=Gr.out;omega
     have HI:Hid (∀i,i<ni->∃g c a0 c0 l0 a1 c1 l1 x,Value.slice ai ni qi=.slice (some ⟨g,0,none⟩) ni c/\aV E.w0 a0 (List.length l0) l0/\aV E.w0 a1 (List.length l1) l1/\wr.cell? ⟨g,i*3,none⟩=some (.slice a0 l0.length c0)/\wr.cell? ⟨g,i*3+1,none⟩=some (.slice a1 l1.length c1)/\wr.cell? ⟨g,i*3+2,none⟩=some (.int .i64 x)):=by
      intro i hi;obtain⟨g,c,a0,c0,l0,a1,c1,l1,x,e9,h⟩:=aQl HE.out Jg q0.gs.el.e1 (i:=i) hi;exact⟨g,c,a0,c0,l0,a1,c1,l1,x,ei.symm.trans e9,h⟩
     have C13:Hid (wr.cell? ⟨E.g,13,none⟩=some (.slice ai ni qi)):=q0.gs.blk.cell (i:=13) (by rw[<-ei];rfl);have X1:Hid (wr.cell? ⟨gx,2,none⟩=some (.slice am mod.length cm)/\wr.cell? ⟨gx,3,none⟩=some (.slice an name.length cn)):=⟨(q0.b HX.out).k 2,(q0.b HX.out).k 3⟩
     have HQ0:Hid (Us E d wb (aD ks) d2 wr):=q0;have Wy:Hid ((d2.r 1).v=.slice ai ni qi):=ei;generalize wr=w2 at *;clear q0 Jg ei Mn Fv hq9;go_loopw [5] (fun i wr=>∃j:Nat,j<=ni/\i=.int .i64 j/\Hid (Below w2.heap.size w2 wr)) (fun i _=>ni-(intOf i).toNat)
     case atStart=>exact⟨0,zD1 _,rfl,zD2 _ _⟩
     case round=>
      obtain⟨j,hj,rfl,Hb⟩:=hrel;have q1:=aB C13.out Hb.out;by_cases Ad:j<ni
      .
       obtain⟨g,c,a0,c0,l0,a1,c1,l1,x,e9,b0,b1,r0,r1,_⟩:=HI.out j Ad;cases e9;have Qn:Below E.w0.heap.size E.w0 wr:=HQ0.out.gs.bel.trans (Hb.out.mono HQ0.out.gs.bel.size);have r0:=aB r0 Hb.out;have r1:=aB r1 Hb.out;have p2:=aB X1.out.1 Hb.out;have p3:=aB X1.out.2 Hb.out;have Ym:=fun d=>aT c0 ((b0.below Qn).drewN d);have Yl:=fun d=>aT cm ((HM.out.below Qn).drewN d);have kc3:=fun d=>aT c1 ((b1.below Qn).drewN d);have kc4:=fun d=>aT cn ((HN.out.1.below Qn).drewN d);have Gw:(j:Int)<(ni:Int):=A0;clear b0 b1 Qn;cases hb1:((strOfNums l0).toList == (strOfNums mod).toList) with
       | false=>
        exact QA22
       | true=>
        cases hb2:((strOfNums l1).toList == (strOfNums name).toList) with
        | false=>
         exact QA22
        | true=>
         go_wp2_with fail;go_quiet (fail);go_wp2_with fail;exact aLk Tryz.results78 (HK.out _ _ ((HQ0.out.on HE.out (Hb.out.trans ((dN9 _ _).mono Hb.out.size))).wide A0))
      .
       have:ni=j:=A0;subst this;go_wp2_with fail;clear q1;have q3:Us E d wb (aD ks) d2 wr:=HQ0.out.on HE.out Hb.out;obtain⟨fi,f,pi,y,hfi,Za,hpi,Yt⟩:∃fi f pi y,ix (E.fs.map Fa.name) mod=some fi/\E.fs[fi]?=some f/\ix (f.procs.map Fp.name) name=some pi/\f.procs[pi]?=some y:=by
        have h1:=Uc.out;simp only[decide_true,Bool.not_true,Bool.false_or]at h1;unfold aKl at h1;rw[if_neg HMD.out]at h1;unfold sQ at h1;cases hfi:ix (E.fs.map Fa.name) mod with
        | none=>rw[hfi]at h1;cases h1| some fi=>
         rw[hfi]at h1;obtain⟨f,hf,_⟩:=mD hfi;rw[Option.bind_some,hf]at h1;obtain⟨pi,hpi⟩:=Option.isSome_iff_exists.1 h1;obtain⟨y,hy,_⟩:=mD hpi;exact⟨fi,f,pi,y,rfl,hf,hpi,hy⟩
       obtain⟨fb,fo,fvs,efa,Oz,hfc⟩:=aX.cellsAt HE.out.rf (show(E.fs.map Fa.fl)[fi]?=some f.fl by rw[zA2,Za];rfl);have HFR:Hid (aL E.w0 f.fl fvs):=Oz;obtain⟨fv0,_,rfl,⟨Lz,Ly,rfl,_⟩,fv1,_,rfl,hfl1,rfl⟩:=id Oz;obtain⟨pa,pc,rfl,hPL⟩:=hfl1.list;obtain⟨pb,po,pvs,rfl,hpr,Ko⟩:=hPL.cellsAt (show(f.procs.map Fp.fl)[pi]?=some y.fl by rw[zA2,Yt];rfl);obtain⟨pv0,_,rfl,_,pv1,_,rfl,⟨ka,kc,rfl,hkr,_⟩,rfl⟩:=hpr;obtain⟨nf,hnf⟩:=zx (E.fn);have HNF:Hid (E.fs.length=nf):=HE.out.fl.trans hnf.symm;have hfn:(fi:Int)<(nf:Int):=by
        have h1:=(zC1.1 Za).1;have h2:=HNF.out;omega
       rw[zB2]at HFR hfc;obtain⟨nq,Jz⟩:=zx (f.procs.length);have hpn:(pi:Int)<(nq:Int):=by have:=(zC1.1 Yt).1;omega
       rw[<-Jz]at HFR hfc;have Li:=q3.gs.bel;have c4:wr.cell? ⟨E.g,4,none⟩=some (.slice (some ⟨fb,fo,none⟩) nf E.fc):=q3.gs.blk.cell (i:=4) (by rw[<-efa,hnf];rfl);have x2:=(q3.b HX.out).k 2;have x3:=(q3.b HX.out).k 3;have fc0':=aB (hfc 0 _ rfl) Li;rw[zG1]at fc0';have fc1':=aB (hfc 1 _ rfl) Li;have pc1':=aB (Ko 1 _ rfl) Li;have HKR:Hid (aF6 E.w0 ka y.kinds.length y.kinds):=hkr;have HRF:=HE.out.rf;rw[efa]at HRF;have H1:=fun W (hb:Below wr.heap.size wr W)=>pL E.fs (some ⟨fb,fo,none⟩) nf E.fc W (aX.below HRF (Li.trans (hb.mono Li.size))) HNF.out am mod.length cm mod (HM.out.below (Li.trans (hb.mono Li.size)));have HMEM:f ∈ E.fs/\y ∈ f.procs:=⟨zA3 Za,zA3 Yt⟩
       have HP1:Hid (ix (f.procs.map Fp.name) name=some pi):=hpi;have HQ3:Hid (Us E d wb (aD ks) d2 wr):=q3;have hf0:¬((fi:Int)<0):=A0;have Lj:¬((pi:Int)<0):=A0;simp only[cK hfi]at H1;have Bj:∀wl,Below wr.heap.size wr wl->wl.cell? ⟨E.g,4,none⟩=some (.slice (some ⟨fb,fo,none⟩) nf E.fc)/\wl.cell? ⟨gx,2,none⟩=some (.slice am mod.length cm)/\wl.cell? ⟨fb,fo+fi*2,none⟩=some (.slice Lz f.name.length Ly)/\wl.cell? ⟨fb,fo+fi*2+1,none⟩=some (.slice (some ⟨pb,po,none⟩) nq pc):=fun wl hb=>⟨aB c4 hb,aB x2 hb,aB fc0' hb,aB fc1' hb⟩;have HSX:Hid (∀wl,Below wr.heap.size wr wl->wl.cell? ⟨gx,2,none⟩=some (.slice am mod.length cm)/\wl.cell? ⟨gx,3,none⟩=some (.slice an name.length cn)/\wl.cell? ⟨pb,po+pi*2+1,none⟩=some (.slice ka y.kinds.length kc)):=fun wl hb=>⟨aB x2 hb,aB x3 hb,aB pc1' hb⟩;have C13':Hid (∀wl,Below wr.heap.size wr wl->wl.cell? ⟨E.g,13,none⟩=some (.slice ai ni qi)):=fun wl hb=>aB (aB C13.out Hb.out) hb;have Bq:=Bj wr.drew (zD2 _ _).drew;clear q3 hfi Za hpi Yt efa Oz hfc hfl1 hPL Ko hkr hnf Jz Li c4 x2 x3 fc0' fc1' pc1' HRF;refine zK0 (S:=fun wl=>wl.cell? ⟨E.g,4,none⟩=some (.slice (some ⟨fb,fo,none⟩) nf E.fc)/\wl.cell? ⟨gx,2,none⟩=some (.slice am mod.length cm)/\wl.cell? ⟨fb,fo+fi*2,none⟩=some (.slice Lz f.name.length Ly)/\wl.cell? ⟨fb,fo+fi*2+1,none⟩=some (.slice (some ⟨pb,po,none⟩) nq pc)) A1 Bq (fun Aa=>?_);refine M950 ?_;refine M961 ?_;refine ta 8 ?_;try simp only[nrm]
       refine ta 9 ?_;try simp only[nrm]
       refine wpAnyH_ready (rs:=[10,13]) A1 A9 ?_;refine AllReadyH.cons (i:=10) (o:=?oA) ?iA ?gA (AllReadyH.cons (i:=13) (o:=?oB) ?iB ?gB AllReadyH.nil)
       case iA=>exact rfl
       case iB=>exact rfl
       case gA=>
        intro K hK;go_simp
        (with_reducible refine(H1 wr.drew (zD2 _ _).drew).mono ?_)
        rintro e wa ⟨rfl,Ux⟩;have ba:Below wr.heap.size wr wa:=(zD2 wr.heap.size wr).drew.trans (aA Ux);have hSa:=Bj wa ba;clear Ux;go_wp2_with fail;refine hK.out _ _ (hSa) (fun Aa=>?_);clear hK K;try simp only[nrm]
        refine ta 11 ?_;refine ta 12 ?_;try simp only[nrm]
        refine ra 13 fun K hK=>?_;go_simp;have hSb:=Bj (wa.alloc (.cells #[.slice none 0 0,.slice none 0 0] 75 (0,0))) (ba.alloc ba.size _);refine hK.out _ _ (hSb) (fun Aa=>?_);clear hK K;try simp only[nrm]
        refine ra 14 fun K hK=>?_;go_simp;have bz:Below wr.heap.size wr (wa.alloc (.cells #[.slice Lz f.name.length Ly,.slice (some ⟨pb,po,none⟩) nq pc] 75 (0,0))):=ba.alloc ba.size _;have Fy:=Bj (wa.alloc (.cells #[.slice Lz f.name.length Ly,.slice (some ⟨pb,po,none⟩) nq pc] 75 (0,0))) bz;have BZ:Blk (wa.alloc (.cells #[.slice Lz f.name.length Ly,.slice (some ⟨pb,po,none⟩) nq pc] 75 (0,0))) wa.heap.size 75 [.slice Lz f.name.length Ly,.slice (some ⟨pb,po,none⟩) nq pc]:=Blk.new wa 75 [.slice Lz f.name.length Ly,.slice (some ⟨pb,po,none⟩) nq pc];refine hK.out _ _ (Fy) (fun Aa=>?_);clear hK K;try simp only[nrm]
        refine zK1 A1 ?_ _;clear hSa hSb Fy;generalize (wa.alloc (.cells #[.slice Lz f.name.length Ly,.slice (some ⟨pb,po,none⟩) nq pc] 75 (0,0)))=wz at *;generalize wa.heap.size=g1 at *;have Rl:Hid (Us E d wb (aD ks) d2 wz):=HQ3.out.on HE.out bz;exact QA0
       case gB=>
        intro K hK;go_simp;have bb:Below wr.heap.size wr (wr.alloc (.cells #[.slice none 0 0,.slice none 0 0] 75 (0,0))).drew:=((zD2 wr.heap.size wr).alloc (zB0 _) _).drew;have hSb:=Bj _ bb;have BB:Blk (wr.alloc (.cells #[.slice none 0 0,.slice none 0 0] 75 (0,0))).drew wr.heap.size 75 [.slice none 0 0,.slice none 0 0]:=Blk.new wr 75 [.slice none 0 0,.slice none 0 0];refine hK.out _ _ (hSb) (fun Aa=>?_);clear hK K;try simp only[nrm]
        generalize hg1:wr.heap.size=g1 at *;have Yb:Hid (wr.heap.size=g1):=hg1;clear hg1;generalize (wr.alloc (.cells #[.slice none 0 0,.slice none 0 0] 75 (0,0))).drew=wv at *;refine ra 10 fun K hK=>?_;go_simp
        (with_reducible refine(H1 wv bb).mono ?_)
        rintro e wa ⟨rfl,Ux⟩;have ba0:=aA Ux;have ba:Below g1 wr wa:=bb.trans (ba0.mono (by have:=bb.size;rw[Yb.out]at this;exact this));have hSa:=Bj wa ba;have B0:=BB.below ba0 BB.lt;clear Ux;go_wp2_with fail;refine hK.out _ _ (hSa) (fun Aa=>?_);clear hK K;try simp only[nrm]
        refine ta 11 ?_;refine ta 12 ?_;try simp only[nrm]
        have B1:=B0.set (i:=0) (.slice Lz f.name.length Ly);have BZ:=B1.set (i:=1) (.slice (some ⟨pb,po,none⟩) nq pc);have z0:=B0.k 0;have f0:=B0.free 0;have z1:=B1.k 1;have f1:=B1.free 1;refine ra 14 fun K hK=>?_;go_simp;have bz:Below g1 wr ((wa.setCell ⟨g1,0,none⟩ (.slice Lz f.name.length Ly)).setCell ⟨g1,1,none⟩ (.slice (some ⟨pb,po,none⟩) nq pc)):=(ba.setCell (p:=⟨g1,0,none⟩) (zB0 _) _).setCell (p:=⟨g1,1,none⟩) (zB0 _) _;have Fy:=Bj _ bz;refine hK.out _ _ (Fy) (fun Aa=>?_);clear hK K;try simp only[nrm]
        refine zK1 A1 ?_ _;clear hSa hSb Fy z0 f0 z1 f1 B0 B1 BB;generalize ((wa.setCell ⟨g1,0,none⟩ (.slice Lz f.name.length Ly)).setCell ⟨g1,1,none⟩ (.slice (some ⟨pb,po,none⟩) nq pc))=wz at *;have Rl:Hid (Us E d wb (aD ks) d2 wz):=HQ3.out.on HE.out (by have:=bz;rw[<-Yb.out]at this;exact this);exact QA0
   .
    have Ur:(k == 6)=false:=by simpa using hk
    exact QA131
mutual
theorem aOa:∀e:Ex,UC e
 | .mk k n mod name ks=>aR2 k n mod name ks (aJf ks)
theorem aJf:∀l:List Ex,∀e ∈ l,UC e
 | [],e,h=>by cases h
 | x :: l,e,h=>(zG3.1 h).elim (fun q=>q ▸ aOa x) (aJf l e)
end
end Cp
end Go.Proofs.YtcbhdhmhidpdgaaGreat

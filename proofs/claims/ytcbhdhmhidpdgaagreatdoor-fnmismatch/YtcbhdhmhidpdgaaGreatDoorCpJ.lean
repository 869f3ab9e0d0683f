import Derived.Test.YtcbhdhmhidpdgaaGreatDoorCpI
namespace Go.Proofs.YtcbhdhmhidpdgaaGreatDoor
set_option maxHeartbeats 40000000
open Go.RowKit
set_option linter.unusedVariables false
set_option linter.unusedSimpArgs false
set_option maxRecDepth 100000
theorem A25{p:Prop}(h:p:=by have:=Qx.out;have:=Pv.out;have:=Fq.out;have:=t3.up.n0;omega):p:=h
theorem A48{p:Prop}(h:p:=by have:=Qx.out;have:=HC3.out;have:=HD5.out;have:=t6.up.n0;omega):p:=h
theorem QA73{p:Prop}(h:p:=by
 go_wp2_with fail
 exact nY Tryz.results155 (HK.out _ _ (q2.wide A7))):p:=h
theorem QA113{p:Prop}(h:p:=by
 show _<=_
 rw[<-eT he,<-List.take_append_drop (j+1) l,lR,List.take_append_drop]
 omega):p:=h
theorem QA131{p:Prop}(h:p:=by
 go_wp2_with fail
 exact nY Tryz.results155 (HK.out _ _ (q1.wide A7))):p:=h
namespace Cp
theorem M91{p q:Prop}(k:q)(h:Kx q->p:=by
 intro kQz
 have Ay:(exs ks).length=ks.length:=by rw[aX,zB2]
 have Fm:(sts bs).length=bs.length:=by rw[bA,zB2]
 have Ie:(sts es).length=es.length:=by rw[bA,zB2]
 rw[Ay,Fm,Ie]
 obtain⟨nk,hnk⟩:=zx (ks.length)
 obtain⟨nb,Ba⟩:=zx (bs.length)
 obtain⟨ne,Ae⟩:=zx (es.length)
 have Am:Hid (ks.length=nk):=hnk.symm
 have Dz:Hid (bs.length=nb):=Ba.symm
 have Kr:Hid (es.length=ne):=Ae.symm
 rw[<-hnk,<-Ba,<-Ae]
 have HL:Hid (aW E.w0 ak ck 5 (exs ks)):=hL
 have Vv:Hid (aW E.w0 ab cb 6 (sts bs)):=Gu
 have Lw:Hid (aW E.w0 ae ce 6 (sts es)):=Gt
 revert Lw;revert Vv;revert HL;revert Kr;revert Dz;revert Am;revert Ae;revert ne;revert Ba;revert nb;revert hnk;revert nk;revert Ie;revert Fm;revert Ay
 exact kQz.o):p:=h ⟨k⟩
theorem M977{p q:Prop}(k:q)(h:Kx q->p:=by
 intro kQz
 have Ax:Hid (0<=aD ks):=zD1 _
 have Do:Hid (fJ E.m E.fs d.p ks=true):=Af
 have Yq:Hid (eE E.m E.fs d.p bs=true):=Az
 have Ly:Hid (eE E.m E.fs d.p es=true):=Bt
 revert Ly;revert Yq;revert Do;revert Ax
 exact kQz.o):p:=h ⟨k⟩
theorem M921{p q:Prop}(k:q)(h:Kx q->p:=by
 intro kQz
 intro E d w Q v0 v1 v2 v3 v4 v5 hE hG h1 h2 hn hg hv k
 have HE:Hid (dX E):=hE
 have Ra:Hid (BC bs):=IB
 have To:Hid (BC es):=IE
 revert To;revert Ra;revert HE;revert k;revert hv;revert hg;revert hn;revert h2;revert h1;revert hG;revert hE;revert v5;revert v4;revert v3;revert v2;revert v1;revert v0;revert Q;revert w;revert d;revert E
 exact kQz.o):p:=h ⟨k⟩
theorem M923{p q:Prop}(k:q)(h:Kx q->p:=by
 intro kQz
 obtain⟨x0,y1,y2,y3,y4,y5⟩:=x1.c6
 obtain⟨e,he⟩:∃e,ks[0]?=some e:=⟨_,zA0 A32⟩
 have He:Hid (ks[0]?=some e):=he
 have Ax:Hid (cQ e<=aD ks):=nd1 he
 revert Ax;revert He;revert he;revert e;revert y5;revert y4;revert y3;revert y2;revert y1;revert x0
 exact kQz.o):p:=h ⟨k⟩
theorem M958{p q:Prop}(k:q)(h:Kx q->p:=by
 intro kQz
 have Fc:Hid _:=hs5.on HE.out (zD2 _ _).drew
 have HD5:Hid ((d5.r 0).n=(d4.r 0).n):=Wp
 have HLT5:Vq<(d4.r 0).n:=A25
 have hi5:((Vq:Nat):Int)<((d4.r 0).n:Int):=A0
 have hn5:(d4.r 0).n<=1000000:=by have:=q4.up.n1;have:=Ax.out;omega
 revert hn5;revert hi5;revert HLT5;revert HD5;revert Fc
 exact kQz.o):p:=h ⟨k⟩
section
variable {E:En} {d d1:GD} {w w1 w2:World} {c:Nat} {Q:Ending->World->Prop}
theorem aN1 (hE:dX E)(s:St E d w c d1 w1)(hn:(d.r 0).n+c<=1000000){x0 x1 x2 x3 x4 x5:Int}(k:∀d' w',St E d w (c+1) d' w'->(d'.r 0).n=(d1.r 0).n+1->Q (.returned (.tuple #[])) w'):
  Calls Tryz.prog 110 #[.pointer (some ⟨E.g,0,none⟩),.agg #[.int .i64 x0,.int .i64 x1,.int .i64 x2,.int .i64 x3,.int .i64 x4,.int .i64 x5]] w1 Q:=by
 refine(aRw hE s.gs (by have:=s.sl;omega) A84 x0 x1 x2 x3 x4 x5).mono ?_;rintro e w' ⟨rfl,d',a1,a2,a3,a4,a5,_,_,a6⟩;exact k d' w' ⟨a1,s.up.trans a2,s.kt.trans a3,a4,a5.trans s.s4⟩ a6
theorem St.cellS (s:St E d w c d1 w1)(hE:dX E){a:Nat}(ha:a<(d1.r 0).n)(x:Int):∃b q,w1.cell? ⟨E.g,10,none⟩=some (.slice (some ⟨b,0,none⟩) (d1.r 0).n q)/\(∃y,w1.cell? ⟨b,a*6+4,none⟩=some y)/\w1.frozen? ⟨b,a*6+4,none⟩=false ∧
  ∃d',(d'.r 0).n=(d1.r 0).n/\St E d w c d' (w1.setCell ⟨b,a*6+4,none⟩ (.int .i64 x)):=by
 have hr:=s.gs.row 0 A0;obtain⟨a0,q,e,_,_,_,ha0⟩:=aH hr;obtain⟨b,rfl⟩:=ha0 A0;have Di:=hr;rw[e]at Di;have Ah:(d1.r 0).xs.length=(d1.r 0).n*6:=hr.1;obtain⟨y,hy⟩:∃y,(d1.r 0).xs[a*6+4]?=some y:=⟨_,zA0 A0⟩
 have el:=s.gs.el;have hs:=s.gs.cell hE (i:=0) A0 e (a*6+4) (.int .i64 x) ⟨fun u hu=>(List.mem_or_eq_of_mem_set hu).elim (el.e0 u) (fun e=>⟨x,e⟩),el.e1,el.e2,el.n2,el.e3,el.m3,el.e4,el.n4,el.rp,el.hl⟩;exact⟨b,q,s.gs.blk.cell (i:=10) A88,⟨y,dL Di _ _ hy⟩,Di.frozenAt _,d1.put 0 ⟨(d1.r 0).v,(d1.r 0).n,(d1.r 0).xs.set (a*6+4) (.int .i64 x)⟩,rfl,hs.1,⟨s.up.p,s.up.fr,s.up.r1,s.up.r2,s.up.n0,s.up.n1,s.up.n3,s.up.x3,s.up.x4⟩,s.kt.trans hs.2,s.sl,s.s4⟩
end
def BC (l:List Go.Proofs.YtcbhdhmhidpdgaaGreatDoor.St):Prop:=∀(E:En) (d:GD) (w:World) (Q:Ending->World->Prop) (a:Option Addr) (q:Nat),dX E->GS E d w->d.sl=0->d.s4=0->(d.r 0).n+20*aK l<=1000000->eE E.m E.fs d.p l=true->aW E.w0 a q 6 (sts l)->(∀d' w',St E d w (20*aK l) d' w'->Q (.returned (.tuple #[])) w') →
 Calls Tryz.prog 111 #[.pointer (some ⟨E.g,0,none⟩),.slice a l.length q] w Q
def SC (s:Go.Proofs.YtcbhdhmhidpdgaaGreatDoor.St):Prop:=∀(E:En) (d:GD) (w:World) (Q:Ending->World->Prop) (v0 v1 v2 v3 v4 v5:Value),dX E->GS E d w->d.sl=0->d.s4=0->(d.r 0).n+20*gD s<=1000000->wZ E.m E.fs d.p s=true->aL E.w0 s.fl [v0,v1,v2,v3,v4,v5]->(∀d' w',St E d w (20*gD s) d' w'->Q (.returned (.tuple #[])) w') →
 Calls Tryz.prog 155 #[.pointer (some ⟨E.g,0,none⟩),.agg #[v0,v1,v2,v3,v4,v5]] w Q
theorem aRi (n:Int)(name:List Int)(ks:List Ex)(bs es:List Go.Proofs.YtcbhdhmhidpdgaaGreatDoor.St)(IB:BC bs)(IE:BC es):SC (.mk 0 n name ks bs es):=by
 refine M921 ?_;intro E d w Q v0 v1 v2 v3 v4 v5 hE hG h1 h2 hn hg hv k HE Ra To;obtain⟨_,_,e0,rfl,_,_,e1,rfl,_,_,e2,⟨an,cn,rfl,Be,_⟩,_,_,e3,hl,_,_,e4,Id,_,_,e5,Ce,e6⟩:=hv;cases e0;cases e1;cases e2;cases e3;cases e4;cases e5;obtain⟨ak,ck,rfl,hL⟩:=hl.list;obtain⟨ab,cb,rfl,Gu⟩:=Id.list;obtain⟨ae,ce,rfl,Gt⟩:=Ce.list;refine M91 ?_;intro Ay Fm Ie nk hnk nb Ba ne Ae Am Dz Kr HL Vv Lw;have HN:Hid (aV E.w0 an name.length name):=Be;have hnd:gD (.mk 0 n name ks bs es)=1+(aD ks+aK bs+aK es):=by simp[gD]
 rw[hnd]at hn k;simp only[wZ,zC0,zE3]at hg;obtain⟨⟨⟨⟨⟨_,hg2⟩,Bm⟩,Af⟩,Az⟩,Bt⟩:=hg;rw[<-hnk]at hg2;refine M977 ?_;intro Ax Do Yq Ly;have hg2:1<=nk:=by simp[cD]at hg2;omega
 have hy:Below w.heap.size w (w.alloc (.cells #[.int .i64 0,.int .i64 n,.slice an name.length cn,.slice ak nk ck,.slice ab nb cb,.slice ae ne ce] 179 (0,0))):=(zD2 _ _).alloc (zB0 _) _;have x1:=Blk.new w 179 [.int .i64 0,.int .i64 n,.slice an name.length cn,.slice ak nk ck,.slice ab nb cb,.slice ae ne ce];simp only[List.toArray]at x1;refine M965 ?_;intro gx Ar S0;have HK:Hid (∀d' w',St E d (w.alloc (.cells #[.int .i64 0,.int .i64 n,.slice an name.length cn,.slice ak nk ck,.slice ab nb cb,.slice ae ne ce] 179 (0,0))) (20*(1+(aD ks+aK bs+aK es))) d' w'->Q (.returned (.tuple #[])) w'):=fun d' w' s=>k d' w' ⟨s.gs,s.up,(Kt.below hy).trans s.kt,s.sl,s.s4⟩;have Li:(d.r 0).n+20*(1+(aD ks+aK bs+aK es))<=1000000:=hn;clear k hE Bm Af Az Bt Be hL Gu Gt hl Id Ce hnd Ay Fm Ie IB IE hG hn hy hnk Ba Ae;go_enter Tryz.func155,Tryz.ntmps155;go_upto_region 1 with fail;generalize w.alloc (.cells #[.int .i64 0,.int .i64 n,.slice an name.length cn,.slice ak nk ck,.slice ab nb cb,.slice ae ne ce] 179 (0,0))=wb at *;rw[<-Ar]at x1 ⊢;have HX:Hid (Blk wb gx 179 [.int .i64 0,.int .i64 n,.slice an name.length cn,.slice ak nk ck,.slice ab nb cb,.slice ae ne ce]):=x1;refine M923 ?_;clear x1 Ar;intro x0 y1 y2 y3 y4 y5 e he He Ax;clear he;obtain⟨be,oe,s0,s1,s2,s3,s4,rfl,Gr,r0,r1,r2,r3,r4⟩:=lS HL.out He.out;refine M969 ?_;intro Lu r0 r1 r2 r3 r4;simp only[Nat.zero_mul,zG1]at r0 r1 r2 r3 r4;clear Gr;go_wp2_with fail;refine nP (sK e) HE.out S0 A7 (dG Do.out e (zA3 He.out)) Lu.out (fun d1 w1 q1=>?_);clear S0 r0 r1 r2 r3 r4;clear x0 y1 y2 y3 y4 y5;have y2:=(q1.b HX.out).k 2;go_wp2_with fail;clear y2;refine aKh HE.out q1 name (HN.out.below q1.bel) (fun z wz Er _=>?_);have qz:=q1.on HE.out Er;clear q1 Er;by_cases hz:0<=z
 .
  go_wp2_with fail;refine eO HE.out qz A7 (fun dy wy qy=>?_);go_wp2_with fail;exact aKr Tryz.results155 (HK.out _ _ (qy.wide A7))
 .
  go_wp2_with fail;have Tn:=uF E.m E.ms wz.drew (aL.below HE.out.rm qz.bel.drew) an name.length cn name (HN.out.below qz.bel.drew);simp only[En.ms,agg,List.toArray]at Tn;have hr:=zQ (l:=E.m.vars.map Va.name) (x:=name);rw[zB2]at hr;generalize ixI (E.m.vars.map Va.name) name=iv at *;have x3:=(qz.b HX.out).k 2;have Bi:∀wl,Below wz.heap.size wz wl->wl.cell? ⟨E.g,0,none⟩=some E.m0/\wl.cell? ⟨E.g,1,none⟩=some E.m1/\wl.cell? ⟨E.g,2,none⟩=some E.m2/\wl.cell? ⟨E.g,3,none⟩=some E.m3/\wl.cell? ⟨gx,2,none⟩=some (.slice an name.length cn):=fun wl hb=>⟨aB (qz.gs.blk.k 0) hb,aB (qz.gs.blk.k 1) hb,aB (qz.gs.blk.k 2) hb,aB (qz.gs.blk.k 3) hb,aB x3 hb⟩;have Br:=Bi wz.drew (zD2 _ _).drew;refine zJ3 (S:=fun wl=>wl.cell? ⟨E.g,0,none⟩=some E.m0/\wl.cell? ⟨E.g,1,none⟩=some E.m1/\wl.cell? ⟨E.g,2,none⟩=some E.m2/\wl.cell? ⟨E.g,3,none⟩=some E.m3/\wl.cell? ⟨gx,2,none⟩=some (.slice an name.length cn)) A1 Br (fun Aa=>?_);refine M949 ?_;refine M960 ?_;try simp only[nrm]
  refine ra 8 fun K hK=>?_;go_simp
  (with_reducible refine Tn.mono ?_)
  rintro e wp ⟨rfl,Uk⟩;have bp:Below wz.heap.size wz wp:=(zD2 wz.heap.size wz).drew.trans (aA Uk);have Nd:=Bi wp bp;have qp:=qz.on HE.out bp;clear Tn Uk;go_wp2_with fail;refine hK.out _ _ (Nd) (fun Aa=>?_);clear hK K;try simp only[nrm]
  refine ra 9 fun K hK=>?_;go_simp;refine wG HE.out qp A0 (fun y wo Jh=>?_);have qo:=qp.on HE.out Jh;have hSo:=Bi wo (bp.trans (Jh.mono bp.size));clear qp;go_wp2_with fail;refine hK.out _ _ (hSo) (fun Aa=>?_);clear hK K;try simp only[nrm]
  refine ta 10 ?_;try simp only[nrm]
  refine ra 11 fun K hK=>?_;go_simp;refine eO HE.out qo A7 (fun d2 w2 q2=>?_);have hSq:w2.cell? ⟨E.g,0,none⟩=some E.m0/\w2.cell? ⟨E.g,1,none⟩=some E.m1/\w2.cell? ⟨E.g,2,none⟩=some E.m2/\w2.cell? ⟨E.g,3,none⟩=some E.m3/\w2.cell? ⟨gx,2,none⟩=some (.slice an name.length cn):=⟨q2.gs.blk.k 0,q2.gs.blk.k 1,q2.gs.blk.k 2,q2.gs.blk.k 3,(q2.b HX.out).k 2⟩
  go_wp2_with fail;refine hK.out _ _ (hSq) (fun Aa=>?_);clear hK K;try simp only[nrm]
  refine zK0 A1 ?_ _;exact QA73
theorem aRh (n:Int)(name:List Int)(ks:List Ex)(bs es:List Go.Proofs.YtcbhdhmhidpdgaaGreatDoor.St)(IB:BC bs)(IE:BC es):SC (.mk 1 n name ks bs es):=by
 refine M921 ?_;intro E d w Q v0 v1 v2 v3 v4 v5 hE hG h1 h2 hn hg hv k HE Ra To;obtain⟨_,_,e0,rfl,_,_,e1,rfl,_,_,e2,⟨an,cn,rfl,Be,_⟩,_,_,e3,hl,_,_,e4,Id,_,_,e5,Ce,e6⟩:=hv;cases e0;cases e1;cases e2;cases e3;cases e4;cases e5;obtain⟨ak,ck,rfl,hL⟩:=hl.list;obtain⟨ab,cb,rfl,Gu⟩:=Id.list;obtain⟨ae,ce,rfl,Gt⟩:=Ce.list;refine M91 ?_;intro Ay Fm Ie nk hnk nb Ba ne Ae Am Dz Kr HL Vv Lw;have HN:Hid (aV E.w0 an name.length name):=Be;have hnd:gD (.mk 1 n name ks bs es)=1+(aD ks+aK bs+aK es):=by simp[gD]
 rw[hnd]at hn k;simp only[wZ,zC0,zE3]at hg;obtain⟨⟨⟨⟨⟨_,hg2⟩,Bm⟩,Af⟩,Az⟩,Bt⟩:=hg;rw[<-hnk]at hg2;have HAR:Hid (aFc E.m d.p name=true):=by show _=true;simpa using Bm
 refine M977 ?_;intro Ax Do Yq Ly;have hg2:2<=nk:=by simp[cD]at hg2;omega
 have hy:Below w.heap.size w (w.alloc (.cells #[.int .i64 1,.int .i64 n,.slice an name.length cn,.slice ak nk ck,.slice ab nb cb,.slice ae ne ce] 179 (0,0))):=(zD2 _ _).alloc (zB0 _) _;have x1:=Blk.new w 179 [.int .i64 1,.int .i64 n,.slice an name.length cn,.slice ak nk ck,.slice ab nb cb,.slice ae ne ce];simp only[List.toArray]at x1;refine M965 ?_;intro gx Ar S0;have HK:Hid (∀d' w',St E d (w.alloc (.cells #[.int .i64 1,.int .i64 n,.slice an name.length cn,.slice ak nk ck,.slice ab nb cb,.slice ae ne ce] 179 (0,0))) (20*(1+(aD ks+aK bs+aK es))) d' w'->Q (.returned (.tuple #[])) w'):=fun d' w' s=>k d' w' ⟨s.gs,s.up,(Kt.below hy).trans s.kt,s.sl,s.s4⟩;have Li:(d.r 0).n+20*(1+(aD ks+aK bs+aK es))<=1000000:=hn;clear k hE Bm Af Az Bt Be hL Gu Gt hl Id Ce hnd Ay Fm Ie IB IE hG hn hy hnk Ba Ae;go_enter Tryz.func155,Tryz.ntmps155;go_upto_region 1 with fail;generalize w.alloc (.cells #[.int .i64 1,.int .i64 n,.slice an name.length cn,.slice ak nk ck,.slice ab nb cb,.slice ae ne ce] 179 (0,0))=wb at *;rw[<-Ar]at x1 ⊢;have HX:Hid (Blk wb gx 179 [.int .i64 1,.int .i64 n,.slice an name.length cn,.slice ak nk ck,.slice ab nb cb,.slice ae ne ce]):=x1;obtain⟨x0,y1,y2,y3,y4,y5⟩:=x1.c6;clear x1 Ar;obtain⟨e,he⟩:∃e,ks[0]?=some e:=⟨_,zA0 A32⟩
 have He:Hid (ks[0]?=some e):=he;obtain⟨f,hf⟩:∃e,ks[1]?=some e:=⟨_,zA0 A32⟩
 have Hf:Hid (ks[1]?=some f):=hf;have Ax:Hid (cQ e+cQ f<=aD ks):=nd2 he hf;clear he hf;obtain⟨be,oe,s0,s1,s2,s3,s4,rfl,Gr,r0,r1,r2,r3,r4⟩:=lS HL.out He.out;refine M969 ?_;intro Lu r0 r1 r2 r3 r4;simp only[Nat.zero_mul,zG1]at r0 r1 r2 r3 r4;clear Gr;go_wp2_with fail;refine nP (sK e) HE.out S0 A7 (dG Do.out e (zA3 He.out)) Lu.out (fun d1 w1 q1=>?_);clear S0 r0 r1 r2 r3 r4;clear x0 y1 y2 y3 y4 y5;go_wp2_with fail;refine vQ HE.out q1 (fun x2 d2 w2 q2=>?_);clear q1;go_wp2_with fail;refine eO HE.out q2 A7 (fun d3 w3 q3=>?_);clear q2;obtain⟨bf,of,s0,s1,s2,s3,s4,e9,Wf,r0,r1,r2,r3,r4⟩:=lS HL.out Hf.out;cases e9;have HVf:Hid (aL E.w0 f.fl [s0,s1,s2,s3,s4]):=Wf;have r0:=aB r0 q3.bel;have r1:=aB r1 q3.bel;have r2:=aB r2 q3.bel;have r3:=aB r3 q3.bel;have r4:=aB r4 q3.bel;simp only[Nat.one_mul]at r0 r1 r2 r3 r4;clear Wf;have y3:=(q3.b HX.out).k 3;go_wp2_with fail;refine nP (sK f) HE.out q3 A7 (dG Do.out f (zA3 Hf.out)) HVf.out (fun d4 w4 q4=>?_);clear q3 r0 r1 r2 r3 r4;clear y3;have y2:=(q4.b HX.out).k 2;go_wp2_with fail;clear y2;refine aAx HE.out q4 A7 name (HN.out.below q4.bel) (by rw[q4.up.p.1];exact HAR.out) _ (fun d5 w5 q5=>?_);clear q4;go_wp2_with fail;refine vQ HE.out q5 (fun x6 d6 w6 q6=>?_);clear q5;go_wp2_with fail;refine eO HE.out q6 A7 (fun d7 w7 q7=>?_);clear q6;go_wp2_with fail;refine eO HE.out q7 A7 (fun d8 w8 q8=>?_);clear q7;go_wp2_with fail;refine eO HE.out q8 A7 (fun d9 w9 q9=>?_);clear q8;go_wp2_with fail;exact nY Tryz.results155 (HK.out _ _ (q9.wide A7))
theorem aRg (n:Int)(name:List Int)(ks:List Ex)(bs es:List Go.Proofs.YtcbhdhmhidpdgaaGreatDoor.St)(IB:BC bs)(IE:BC es):SC (.mk 2 n name ks bs es):=by
 refine M921 ?_;intro E d w Q v0 v1 v2 v3 v4 v5 hE hG h1 h2 hn hg hv k HE Ra To;obtain⟨_,_,e0,rfl,_,_,e1,rfl,_,_,e2,⟨an,cn,rfl,Be,_⟩,_,_,e3,hl,_,_,e4,Id,_,_,e5,Ce,e6⟩:=hv;cases e0;cases e1;cases e2;cases e3;cases e4;cases e5;obtain⟨ak,ck,rfl,hL⟩:=hl.list;obtain⟨ab,cb,rfl,Gu⟩:=Id.list;obtain⟨ae,ce,rfl,Gt⟩:=Ce.list;refine M91 ?_;intro Ay Fm Ie nk hnk nb Ba ne Ae Am Dz Kr HL Vv Lw;have HN:Hid (aV E.w0 an name.length name):=Be;have hnd:gD (.mk 2 n name ks bs es)=1+(aD ks+aK bs+aK es):=by simp[gD]
 rw[hnd]at hn k;simp only[wZ,zC0,zE3]at hg;obtain⟨⟨⟨⟨⟨_,hg2⟩,Bm⟩,Af⟩,Az⟩,Bt⟩:=hg;rw[<-hnk]at hg2;refine M977 ?_;intro Ax Do Yq Ly;have hg2:1<=nk:=by simp[cD]at hg2;omega
 have hy:Below w.heap.size w (w.alloc (.cells #[.int .i64 2,.int .i64 n,.slice an name.length cn,.slice ak nk ck,.slice ab nb cb,.slice ae ne ce] 179 (0,0))):=(zD2 _ _).alloc (zB0 _) _;have x1:=Blk.new w 179 [.int .i64 2,.int .i64 n,.slice an name.length cn,.slice ak nk ck,.slice ab nb cb,.slice ae ne ce];simp only[List.toArray]at x1;refine M965 ?_;intro gx Ar S0;have HK:Hid (∀d' w',St E d (w.alloc (.cells #[.int .i64 2,.int .i64 n,.slice an name.length cn,.slice ak nk ck,.slice ab nb cb,.slice ae ne ce] 179 (0,0))) (20*(1+(aD ks+aK bs+aK es))) d' w'->Q (.returned (.tuple #[])) w'):=fun d' w' s=>k d' w' ⟨s.gs,s.up,(Kt.below hy).trans s.kt,s.sl,s.s4⟩;have Li:(d.r 0).n+20*(1+(aD ks+aK bs+aK es))<=1000000:=hn;clear k hE Bm Af Az Bt Be hL Gu Gt hl Id Ce hnd Ay Fm Ie IB IE hG hn hy hnk Ba Ae;go_enter Tryz.func155,Tryz.ntmps155;go_upto_region 1 with fail;generalize w.alloc (.cells #[.int .i64 2,.int .i64 n,.slice an name.length cn,.slice ak nk ck,.slice ab nb cb,.slice ae ne ce] 179 (0,0))=wb at *;rw[<-Ar]at x1 ⊢;have HX:Hid (Blk wb gx 179 [.int .i64 2,.int .i64 n,.slice an name.length cn,.slice ak nk ck,.slice ab nb cb,.slice ae ne ce]):=x1;refine M923 ?_;clear x1 Ar;intro x0 y1 y2 y3 y4 y5 e he He Ax;clear he;obtain⟨be,oe,s0,s1,s2,s3,s4,rfl,Gr,r0,r1,r2,r3,r4⟩:=lS HL.out He.out;refine M969 ?_;intro Lu r0 r1 r2 r3 r4;simp only[Nat.zero_mul,zG1]at r0 r1 r2 r3 r4;clear Gr;go_wp2_with fail;refine nP (sK e) HE.out S0 A7 (dG Do.out e (zA3 He.out)) Lu.out (fun d1 w1 q1=>?_);clear S0 r0 r1 r2 r3 r4;clear x0 y1 y2 y3 y4 y5;obtain⟨ca1,Vq,cq1,_,en1,_,_,Hx⟩:=q1.code;have Fq:Hid (((d1).r 0).n=Vq):=en1;clear en1;go_wp2_with fail;clear Hx;refine aN1 HE.out q1 A7 (fun d2 w2 q2 Ta=>?_);have Pv:Hid ((d2.r 0).n=_+1):=Ta;clear Ta;clear q1;have y4:=(q2.b HX.out).k 4;go_wp2_with fail;have Bn:=Ra.out E d2 w2;rw[Dz.out]at Bn;refine Bn _ ab cb HE.out q2.gs q2.sl q2.s4 (by have:=q2.up.n1;have:=Ax.out;omega) (by rw[q2.up.p.1];exact Yq.out) Vv.out (fun d3 w3 t3=>?_);have q3:=q2.trans t3;clear y4 Bn;obtain⟨ca3,cn3,cq3,_,en3,_,_,Hx⟩:=q3.code;have HC3:Hid (((d3).r 0).n=cn3):=en3;clear en3;go_wp2_with fail;clear Hx;refine aN1 HE.out q3 A7 (fun d4 w4 q4 Wi=>?_);have Qx:Hid ((d4.r 0).n=_+1):=Wi;clear Wi;clear q3;go_wp2_with fail;have sd5:=q4;obtain⟨b5,z5,Fo,⟨o5,co5⟩,fo5,d5,Wp,hs5⟩:=sd5.cellS HE.out (a:=Vq) A25 ((d4.r 0).n:Int);refine M958 ?_;intro Fc HD5 HLT5 hi5 hn5;generalize (d4.r 0).n=m5 at *;clear hs5 Wp sd5 q4;refine rl 12 (S:=fun wl=>wl.cell? ⟨E.g,10,none⟩=some (.slice (some ⟨b5,0,none⟩) m5 z5)) A1 Fo (fun Aa=>?_);refine M99 ?_;try simp only[nrm]
 refine da 10 fun K hK=>?_;go_simp;refine hK.out _ _ (Fo) (fun Aa=>?_);clear hK K;try simp only[nrm]
 refine la 11 ?_;try simp only[nrm]
 refine ea fun K hK=>?_;go_simp;refine hK.out _ _ ?_;clear hK K Aa Fo co5 fo5;generalize (World.setCell w4 ⟨b5,Vq*6+4,none⟩ (.int .i64 (m5:Int))).drew=w5 at *;have q5:=Fc.out;have y5:=(q5.b HX.out).k 5;go_wp2_with fail;have HB6:=To.out E d5 w5;rw[Kr.out]at HB6;refine HB6 _ ae ce HE.out q5.gs q5.sl q5.s4 (by have:=q5.up.n1;have:=Ax.out;omega) (by rw[q5.up.p.1];exact Ly.out) Lw.out (fun d6 w6 t6=>?_);have q6:=q5.trans t6;clear y5 HB6;go_wp2_with fail;have sd7:=q6;obtain⟨b7,z7,Fo,⟨o7,co7⟩,fo7,d7,hd7,hs7⟩:=sd7.cellS HE.out (a:=cn3) A48 ((d6.r 0).n:Int);have HS7:Hid _:=hs7.on HE.out (zD2 _ _).drew;have HD7:Hid ((d7.r 0).n=(d6.r 0).n):=hd7;have HLT7:cn3<(d6.r 0).n:=A48;have hi7:((cn3:Nat):Int)<((d6.r 0).n:Int):=A0;have hn7:(d6.r 0).n<=1000000:=by have:=q6.up.n1;have:=Ax.out;omega
 generalize (d6.r 0).n=m7 at *;clear hs7 hd7 sd7 q6;refine rl 12 (S:=fun wl=>wl.cell? ⟨E.g,10,none⟩=some (.slice (some ⟨b7,0,none⟩) m7 z7)) A1 Fo (fun Aa=>?_);refine M99 ?_;try simp only[nrm]
 refine da 10 fun K hK=>?_;go_simp;refine hK.out _ _ (Fo) (fun Aa=>?_);clear hK K;try simp only[nrm]
 refine la 11 ?_;try simp only[nrm]
 refine ea fun K hK=>?_;go_simp;refine hK.out _ _ ?_;clear hK K Aa Fo co7 fo7;generalize (World.setCell w6 ⟨b7,cn3*6+4,none⟩ (.int .i64 (m7:Int))).drew=w7 at *;have q7:=HS7.out;go_wp2_with fail;exact nY Tryz.results155 (HK.out _ _ (q7.wide A7))
theorem aRf (n:Int)(name:List Int)(ks:List Ex)(bs es:List Go.Proofs.YtcbhdhmhidpdgaaGreatDoor.St)(IB:BC bs)(IE:BC es):SC (.mk 3 n name ks bs es):=by
 refine M921 ?_;intro E d w Q v0 v1 v2 v3 v4 v5 hE hG h1 h2 hn hg hv k HE Ra To;obtain⟨_,_,e0,rfl,_,_,e1,rfl,_,_,e2,⟨an,cn,rfl,Be,_⟩,_,_,e3,hl,_,_,e4,Id,_,_,e5,Ce,e6⟩:=hv;cases e0;cases e1;cases e2;cases e3;cases e4;cases e5;obtain⟨ak,ck,rfl,hL⟩:=hl.list;obtain⟨ab,cb,rfl,Gu⟩:=Id.list;obtain⟨ae,ce,rfl,Gt⟩:=Ce.list;refine M91 ?_;intro Ay Fm Ie nk hnk nb Ba ne Ae Am Dz Kr HL Vv Lw;have HN:Hid (aV E.w0 an name.length name):=Be;have hnd:gD (.mk 3 n name ks bs es)=1+(aD ks+aK bs+aK es):=by simp[gD]
 rw[hnd]at hn k;simp only[wZ,zC0,zE3]at hg;obtain⟨⟨⟨⟨⟨_,hg2⟩,Bm⟩,Af⟩,Az⟩,Bt⟩:=hg;rw[<-hnk]at hg2;refine M977 ?_;intro Ax Do Yq Ly;have hg2:1<=nk:=by simp[cD]at hg2;omega
 have hy:Below w.heap.size w (w.alloc (.cells #[.int .i64 3,.int .i64 n,.slice an name.length cn,.slice ak nk ck,.slice ab nb cb,.slice ae ne ce] 179 (0,0))):=(zD2 _ _).alloc (zB0 _) _;have x1:=Blk.new w 179 [.int .i64 3,.int .i64 n,.slice an name.length cn,.slice ak nk ck,.slice ab nb cb,.slice ae ne ce];simp only[List.toArray]at x1;refine M965 ?_;intro gx Ar S0;have HK:Hid (∀d' w',St E d (w.alloc (.cells #[.int .i64 3,.int .i64 n,.slice an name.length cn,.slice ak nk ck,.slice ab nb cb,.slice ae ne ce] 179 (0,0))) (20*(1+(aD ks+aK bs+aK es))) d' w'->Q (.returned (.tuple #[])) w'):=fun d' w' s=>k d' w' ⟨s.gs,s.up,(Kt.below hy).trans s.kt,s.sl,s.s4⟩;have Li:(d.r 0).n+20*(1+(aD ks+aK bs+aK es))<=1000000:=hn;clear k hE Bm Af Az Bt Be hL Gu Gt hl Id Ce hnd Ay Fm Ie IB IE hG hn hy hnk Ba Ae;go_enter Tryz.func155,Tryz.ntmps155;go_upto_region 1 with fail;generalize w.alloc (.cells #[.int .i64 3,.int .i64 n,.slice an name.length cn,.slice ak nk ck,.slice ab nb cb,.slice ae ne ce] 179 (0,0))=wb at *;rw[<-Ar]at x1 ⊢;have HX:Hid (Blk wb gx 179 [.int .i64 3,.int .i64 n,.slice an name.length cn,.slice ak nk ck,.slice ab nb cb,.slice ae ne ce]):=x1;refine M923 ?_;clear x1 Ar;intro x0 y1 y2 y3 y4 y5 e he He Ax;clear he;obtain⟨be,oe,s0,s1,s2,s3,s4,rfl,Gr,r0,r1,r2,r3,r4⟩:=lS HL.out He.out;refine M969 ?_;intro Lu r0 r1 r2 r3 r4;simp only[Nat.zero_mul,zG1]at r0 r1 r2 r3 r4;clear Gr;obtain⟨ca0,Nl,cq0,_,en0,_,_,Hx⟩:=S0.code;have HC0:Hid (((d).r 0).n=Nl):=en0;clear en0;go_wp2_with fail;clear Hx;refine nP (sK e) HE.out S0 A7 (dG Do.out e (zA3 He.out)) Lu.out (fun d1 w1 q1=>?_);clear S0 r0 r1 r2 r3 r4;clear x0 y1 y2 y3 y4 y5;obtain⟨ca1,Vq,cq1,_,en1,_,_,Hx⟩:=q1.code;have Fq:Hid (((d1).r 0).n=Vq):=en1;clear en1;go_wp2_with fail;clear Hx;refine aN1 HE.out q1 A7 (fun d2 w2 q2 Ta=>?_);have Pv:Hid ((d2.r 0).n=_+1):=Ta;clear Ta;clear q1;have y4:=(q2.b HX.out).k 4;go_wp2_with fail;have Bn:=Ra.out E d2 w2;rw[Dz.out]at Bn;refine Bn _ ab cb HE.out q2.gs q2.sl q2.s4 (by have:=q2.up.n1;have:=Ax.out;omega) (by rw[q2.up.p.1];exact Yq.out) Vv.out (fun d3 w3 t3=>?_);have q3:=q2.trans t3;clear y4 Bn;go_wp2_with fail;refine aN1 HE.out q3 A7 (fun d4 w4 q4 Wi=>?_);have Qx:Hid ((d4.r 0).n=_+1):=Wi;clear Wi;clear q3;go_wp2_with fail;have sd5:=q4;obtain⟨b5,z5,Fo,⟨o5,co5⟩,fo5,d5,Wp,hs5⟩:=sd5.cellS HE.out (a:=Vq) A25 ((d4.r 0).n:Int);refine M958 ?_;intro Fc HD5 HLT5 hi5 hn5;generalize (d4.r 0).n=m5 at *;clear hs5 Wp sd5 q4;refine rl 12 (S:=fun wl=>wl.cell? ⟨E.g,10,none⟩=some (.slice (some ⟨b5,0,none⟩) m5 z5)) A1 Fo (fun Aa=>?_);refine M99 ?_;try simp only[nrm]
 refine da 10 fun K hK=>?_;go_simp;refine hK.out _ _ (Fo) (fun Aa=>?_);clear hK K;try simp only[nrm]
 refine la 11 ?_;try simp only[nrm]
 refine ea fun K hK=>?_;go_simp;refine hK.out _ _ ?_;clear hK K Aa Fo co5 fo5;generalize (World.setCell w4 ⟨b5,Vq*6+4,none⟩ (.int .i64 (m5:Int))).drew=w5 at *;have q5:=Fc.out;go_wp2_with fail;exact nY Tryz.results155 (HK.out _ _ (q5.wide A7))
theorem aRe (n:Int)(name:List Int)(ks:List Ex)(bs es:List Go.Proofs.YtcbhdhmhidpdgaaGreatDoor.St)(IB:BC bs)(IE:BC es):SC (.mk 4 n name ks bs es):=by
 refine M921 ?_;intro E d w Q v0 v1 v2 v3 v4 v5 hE hG h1 h2 hn hg hv k HE Ra To;obtain⟨_,_,e0,rfl,_,_,e1,rfl,_,_,e2,⟨an,cn,rfl,Be,_⟩,_,_,e3,hl,_,_,e4,Id,_,_,e5,Ce,e6⟩:=hv;cases e0;cases e1;cases e2;cases e3;cases e4;cases e5;obtain⟨ak,ck,rfl,hL⟩:=hl.list;obtain⟨ab,cb,rfl,Gu⟩:=Id.list;obtain⟨ae,ce,rfl,Gt⟩:=Ce.list;refine M91 ?_;intro Ay Fm Ie nk hnk nb Ba ne Ae Am Dz Kr HL Vv Lw;have HN:Hid (aV E.w0 an name.length name):=Be;have hnd:gD (.mk 4 n name ks bs es)=1+(aD ks+aK bs+aK es):=by simp[gD]
 rw[hnd]at hn k;simp only[wZ,zC0,zE3]at hg;obtain⟨⟨⟨⟨⟨_,hg2⟩,Bm⟩,Af⟩,Az⟩,Bt⟩:=hg;rw[<-hnk]at hg2;refine M977 ?_;intro Ax Do Yq Ly;have hg2:1<=nk:=by simp[cD]at hg2;omega
 have hy:Below w.heap.size w (w.alloc (.cells #[.int .i64 4,.int .i64 n,.slice an name.length cn,.slice ak nk ck,.slice ab nb cb,.slice ae ne ce] 179 (0,0))):=(zD2 _ _).alloc (zB0 _) _;have x1:=Blk.new w 179 [.int .i64 4,.int .i64 n,.slice an name.length cn,.slice ak nk ck,.slice ab nb cb,.slice ae ne ce];simp only[List.toArray]at x1;refine M965 ?_;intro gx Ar S0;have HK:Hid (∀d' w',St E d (w.alloc (.cells #[.int .i64 4,.int .i64 n,.slice an name.length cn,.slice ak nk ck,.slice ab nb cb,.slice ae ne ce] 179 (0,0))) (20*(1+(aD ks+aK bs+aK es))) d' w'->Q (.returned (.tuple #[])) w'):=fun d' w' s=>k d' w' ⟨s.gs,s.up,(Kt.below hy).trans s.kt,s.sl,s.s4⟩;have Li:(d.r 0).n+20*(1+(aD ks+aK bs+aK es))<=1000000:=hn;clear k hE Bm Af Az Bt Be hL Gu Gt hl Id Ce hnd Ay Fm Ie IB IE hG hn hy hnk Ba Ae;go_enter Tryz.func155,Tryz.ntmps155;go_upto_region 1 with fail;generalize w.alloc (.cells #[.int .i64 4,.int .i64 n,.slice an name.length cn,.slice ak nk ck,.slice ab nb cb,.slice ae ne ce] 179 (0,0))=wb at *;rw[<-Ar]at x1 ⊢;have HX:Hid (Blk wb gx 179 [.int .i64 4,.int .i64 n,.slice an name.length cn,.slice ak nk ck,.slice ab nb cb,.slice ae ne ce]):=x1;refine M923 ?_;clear x1 Ar;intro x0 y1 y2 y3 y4 y5 e he He Ax;clear he;obtain⟨be,oe,s0,s1,s2,s3,s4,rfl,Gr,r0,r1,r2,r3,r4⟩:=lS HL.out He.out;refine M969 ?_;intro Lu r0 r1 r2 r3 r4;simp only[Nat.zero_mul,zG1]at r0 r1 r2 r3 r4;clear Gr;go_wp2_with fail;refine nP (sK e) HE.out S0 A7 (dG Do.out e (zA3 He.out)) Lu.out (fun d1 w1 q1=>?_);clear S0 r0 r1 r2 r3 r4;clear x0 y1 y2 y3 y4 y5;go_wp2_with fail;refine vT HE.out q1 A7 (fun d2 w2 q2=>?_);clear q1;exact QA73
theorem aRd (n:Int)(name:List Int)(ks:List Ex)(bs es:List Go.Proofs.YtcbhdhmhidpdgaaGreatDoor.St)(IB:BC bs)(IE:BC es):SC (.mk 5 n name ks bs es):=by
 refine M921 ?_;intro E d w Q v0 v1 v2 v3 v4 v5 hE hG h1 h2 hn hg hv k HE Ra To;obtain⟨_,_,e0,rfl,_,_,e1,rfl,_,_,e2,⟨an,cn,rfl,Be,_⟩,_,_,e3,hl,_,_,e4,Id,_,_,e5,Ce,e6⟩:=hv;cases e0;cases e1;cases e2;cases e3;cases e4;cases e5;obtain⟨ak,ck,rfl,hL⟩:=hl.list;obtain⟨ab,cb,rfl,Gu⟩:=Id.list;obtain⟨ae,ce,rfl,Gt⟩:=Ce.list;refine M91 ?_;intro Ay Fm Ie nk hnk nb Ba ne Ae Am Dz Kr HL Vv Lw;have HN:Hid (aV E.w0 an name.length name):=Be;have hnd:gD (.mk 5 n name ks bs es)=1+(aD ks+aK bs+aK es):=by simp[gD]
 rw[hnd]at hn k;simp only[wZ,zC0,zE3]at hg;obtain⟨⟨⟨⟨⟨_,hg2⟩,Bm⟩,Af⟩,Az⟩,Bt⟩:=hg;rw[<-hnk]at hg2;refine M977 ?_;intro Ax Do Yq Ly;have hg2:1<=nk:=by simp[cD]at hg2;omega
 have hy:Below w.heap.size w (w.alloc (.cells #[.int .i64 5,.int .i64 n,.slice an name.length cn,.slice ak nk ck,.slice ab nb cb,.slice ae ne ce] 179 (0,0))):=(zD2 _ _).alloc (zB0 _) _;have x1:=Blk.new w 179 [.int .i64 5,.int .i64 n,.slice an name.length cn,.slice ak nk ck,.slice ab nb cb,.slice ae ne ce];simp only[List.toArray]at x1;refine M965 ?_;intro gx Ar S0;have HK:Hid (∀d' w',St E d (w.alloc (.cells #[.int .i64 5,.int .i64 n,.slice an name.length cn,.slice ak nk ck,.slice ab nb cb,.slice ae ne ce] 179 (0,0))) (20*(1+(aD ks+aK bs+aK es))) d' w'->Q (.returned (.tuple #[])) w'):=fun d' w' s=>k d' w' ⟨s.gs,s.up,(Kt.below hy).trans s.kt,s.sl,s.s4⟩;have Li:(d.r 0).n+20*(1+(aD ks+aK bs+aK es))<=1000000:=hn;clear k hE Bm Af Az Bt Be hL Gu Gt hl Id Ce hnd Ay Fm Ie IB IE hG hn hy hnk Ba Ae;go_enter Tryz.func155,Tryz.ntmps155;go_upto_region 1 with fail;generalize w.alloc (.cells #[.int .i64 5,.int .i64 n,.slice an name.length cn,.slice ak nk ck,.slice ab nb cb,.slice ae ne ce] 179 (0,0))=wb at *;rw[<-Ar]at x1 ⊢;have HX:Hid (Blk wb gx 179 [.int .i64 5,.int .i64 n,.slice an name.length cn,.slice ak nk ck,.slice ab nb cb,.slice ae ne ce]):=x1;refine M923 ?_;clear x1 Ar;intro x0 y1 y2 y3 y4 y5 e he He Ax;clear he;obtain⟨be,oe,s0,s1,s2,s3,s4,rfl,Gr,r0,r1,r2,r3,r4⟩:=lS HL.out He.out;refine M969 ?_;intro Lu r0 r1 r2 r3 r4;simp only[Nat.zero_mul,zG1]at r0 r1 r2 r3 r4;clear Gr;go_wp2_with fail;refine nP (sK e) HE.out S0 A7 (dG Do.out e (zA3 He.out)) Lu.out (fun d1 w1 q1=>?_);clear S0 r0 r1 r2 r3 r4;clear x0 y1 y2 y3 y4 y5;go_wp2_with fail;refine eO HE.out q1 A7 (fun d2 w2 q2=>?_);clear q1;exact QA73
theorem aRc (n:Int)(name:List Int)(ks:List Ex)(bs es:List Go.Proofs.YtcbhdhmhidpdgaaGreatDoor.St)(IB:BC bs)(IE:BC es):SC (.mk 6 n name ks bs es):=by
 refine M921 ?_;intro E d w Q v0 v1 v2 v3 v4 v5 hE hG h1 h2 hn hg hv k HE Ra To;obtain⟨_,_,e0,rfl,_,_,e1,rfl,_,_,e2,⟨an,cn,rfl,Be,_⟩,_,_,e3,hl,_,_,e4,Id,_,_,e5,Ce,e6⟩:=hv;cases e0;cases e1;cases e2;cases e3;cases e4;cases e5;obtain⟨ak,ck,rfl,hL⟩:=hl.list;obtain⟨ab,cb,rfl,Gu⟩:=Id.list;obtain⟨ae,ce,rfl,Gt⟩:=Ce.list;refine M91 ?_;intro Ay Fm Ie nk hnk nb Ba ne Ae Am Dz Kr HL Vv Lw;have HN:Hid (aV E.w0 an name.length name):=Be;have hnd:gD (.mk 6 n name ks bs es)=1+(aD ks+aK bs+aK es):=by simp[gD]
 rw[hnd]at hn k;simp only[wZ,zC0,zE3]at hg;obtain⟨⟨⟨⟨⟨_,hg2⟩,Bm⟩,Af⟩,Az⟩,Bt⟩:=hg;rw[<-hnk]at hg2;refine M977 ?_;intro Ax Do Yq Ly;have hg2:0<=nk:=by simp[cD]at hg2;omega
 have hy:Below w.heap.size w (w.alloc (.cells #[.int .i64 6,.int .i64 n,.slice an name.length cn,.slice ak nk ck,.slice ab nb cb,.slice ae ne ce] 179 (0,0))):=(zD2 _ _).alloc (zB0 _) _;have x1:=Blk.new w 179 [.int .i64 6,.int .i64 n,.slice an name.length cn,.slice ak nk ck,.slice ab nb cb,.slice ae ne ce];simp only[List.toArray]at x1;refine M965 ?_;intro gx Ar S0;have HK:Hid (∀d' w',St E d (w.alloc (.cells #[.int .i64 6,.int .i64 n,.slice an name.length cn,.slice ak nk ck,.slice ab nb cb,.slice ae ne ce] 179 (0,0))) (20*(1+(aD ks+aK bs+aK es))) d' w'->Q (.returned (.tuple #[])) w'):=fun d' w' s=>k d' w' ⟨s.gs,s.up,(Kt.below hy).trans s.kt,s.sl,s.s4⟩;have Li:(d.r 0).n+20*(1+(aD ks+aK bs+aK es))<=1000000:=hn;clear k hE Bm Af Az Bt Be hL Gu Gt hl Id Ce hnd Ay Fm Ie IB IE hG hn hy hnk Ba Ae;go_enter Tryz.func155,Tryz.ntmps155;go_upto_region 1 with fail;generalize w.alloc (.cells #[.int .i64 6,.int .i64 n,.slice an name.length cn,.slice ak nk ck,.slice ab nb cb,.slice ae ne ce] 179 (0,0))=wb at *;rw[<-Ar]at x1 ⊢;have HX:Hid (Blk wb gx 179 [.int .i64 6,.int .i64 n,.slice an name.length cn,.slice ak nk ck,.slice ab nb cb,.slice ae ne ce]):=x1;obtain⟨x0,y1,y2,y3,y4,y5⟩:=x1.c6;clear x1 Ar;go_wp2_with fail;clear x0 y1 y2 y3 y4 y5;refine eO HE.out S0 A7 (fun d1 w1 q1=>?_);clear S0;exact QA131
theorem aRb (n:Int)(name:List Int)(ks:List Ex)(bs es:List Go.Proofs.YtcbhdhmhidpdgaaGreatDoor.St)(IB:BC bs)(IE:BC es):SC (.mk 7 n name ks bs es):=by
 refine M921 ?_;intro E d w Q v0 v1 v2 v3 v4 v5 hE hG h1 h2 hn hg hv k HE Ra To;obtain⟨_,_,e0,rfl,_,_,e1,rfl,_,_,e2,⟨an,cn,rfl,Be,_⟩,_,_,e3,hl,_,_,e4,Id,_,_,e5,Ce,e6⟩:=hv;cases e0;cases e1;cases e2;cases e3;cases e4;cases e5;obtain⟨ak,ck,rfl,hL⟩:=hl.list;obtain⟨ab,cb,rfl,Gu⟩:=Id.list;obtain⟨ae,ce,rfl,Gt⟩:=Ce.list;refine M91 ?_;intro Ay Fm Ie nk hnk nb Ba ne Ae Am Dz Kr HL Vv Lw;have HN:Hid (aV E.w0 an name.length name):=Be;have hnd:gD (.mk 7 n name ks bs es)=1+(aD ks+aK bs+aK es):=by simp[gD]
 rw[hnd]at hn k;simp only[wZ,zC0,zE3]at hg;obtain⟨⟨⟨⟨⟨_,hg2⟩,Bm⟩,Af⟩,Az⟩,Bt⟩:=hg;rw[<-hnk]at hg2;refine M977 ?_;intro Ax Do Yq Ly;have hg2:1<=nk:=by simp[cD]at hg2;omega
 have hy:Below w.heap.size w (w.alloc (.cells #[.int .i64 7,.int .i64 n,.slice an name.length cn,.slice ak nk ck,.slice ab nb cb,.slice ae ne ce] 179 (0,0))):=(zD2 _ _).alloc (zB0 _) _;have x1:=Blk.new w 179 [.int .i64 7,.int .i64 n,.slice an name.length cn,.slice ak nk ck,.slice ab nb cb,.slice ae ne ce];simp only[List.toArray]at x1;refine M965 ?_;intro gx Ar S0;have HK:Hid (∀d' w',St E d (w.alloc (.cells #[.int .i64 7,.int .i64 n,.slice an name.length cn,.slice ak nk ck,.slice ab nb cb,.slice ae ne ce] 179 (0,0))) (20*(1+(aD ks+aK bs+aK es))) d' w'->Q (.returned (.tuple #[])) w'):=fun d' w' s=>k d' w' ⟨s.gs,s.up,(Kt.below hy).trans s.kt,s.sl,s.s4⟩;have Li:(d.r 0).n+20*(1+(aD ks+aK bs+aK es))<=1000000:=hn;clear k hE Bm Af Az Bt Be hL Gu Gt hl Id Ce hnd Ay Fm Ie IB IE hG hn hy hnk Ba Ae;go_enter Tryz.func155,Tryz.ntmps155;go_upto_region 1 with fail;generalize w.alloc (.cells #[.int .i64 7,.int .i64 n,.slice an name.length cn,.slice ak nk ck,.slice ab nb cb,.slice ae ne ce] 179 (0,0))=wb at *;rw[<-Ar]at x1 ⊢;have HX:Hid (Blk wb gx 179 [.int .i64 7,.int .i64 n,.slice an name.length cn,.slice ak nk ck,.slice ab nb cb,.slice ae ne ce]):=x1;refine M923 ?_;clear x1 Ar;intro x0 y1 y2 y3 y4 y5 e he He Ax;clear he;obtain⟨be,oe,s0,s1,s2,s3,s4,rfl,Gr,r0,r1,r2,r3,r4⟩:=lS HL.out He.out;refine M969 ?_;intro Lu r0 r1 r2 r3 r4;simp only[Nat.zero_mul,zG1]at r0 r1 r2 r3 r4;clear Gr;go_wp2_with fail;refine nP (sK e) HE.out S0 A7 (dG Do.out e (zA3 He.out)) Lu.out (fun d1 w1 q1=>?_);clear S0 r0 r1 r2 r3 r4;clear x0 y1 y2 y3 y4 y5;exact QA131
theorem aIz {W:World}{ks:List Go.Proofs.YtcbhdhmhidpdgaaGreatDoor.St}{a:Option Addr}{q i:Nat}{e:Go.Proofs.YtcbhdhmhidpdgaaGreatDoor.St}(h:aW W a q 6 (sts ks))(hi:ks[i]?=some e):∃b off v0 v1 v2 v3 v4 v5,a=some ⟨b,off,none⟩/\aL W e.fl [v0,v1,v2,v3,v4,v5]/\W.cell? ⟨b,off+i*6,none⟩=some v0/\W.cell? ⟨b,off+i*6+1,none⟩=some v1/\W.cell? ⟨b,off+i*6+2,none⟩=some v2/\W.cell? ⟨b,off+i*6+3,none⟩=some v3/\W.cell? ⟨b,off+i*6+4,none⟩=some v4/\W.cell? ⟨b,off+i*6+5,none⟩=some v5:=by
 rw[bA]at h;obtain⟨b,off,vs,e2,hr,hc⟩:=h.cellsAt (show(ks.map Go.Proofs.YtcbhdhmhidpdgaaGreatDoor.St.fl)[i]?=some e.fl by rw[zA2,hi];rfl);cases e with
 | mk k n name kk bs es=>
  have Sz:=hr;obtain⟨v0,_,rfl,_,v1,_,rfl,_,v2,_,rfl,_,v3,_,rfl,_,v4,_,rfl,_,v5,_,rfl,_,rfl⟩:=hr;exact⟨b,off,v0,v1,v2,v3,v4,v5,e2,Sz,hc 0 _ rfl,hc 1 _ rfl,hc 2 _ rfl,hc 3 _ rfl,hc 4 _ rfl,hc 5 _ rfl⟩
theorem aQ9 (k n:Int)(name:List Int)(ks:List Ex)(bs es:List Go.Proofs.YtcbhdhmhidpdgaaGreatDoor.St)(IB:BC bs)(IE:BC es):SC (.mk k n name ks bs es):=fun E d w Q v0 v1 v2 v3 v4 v5 hE hG h1 h2 hn hg hv kk=>by
 have hk:0<=k/\k<=7:=by
  have hg':=hg;simp only[wZ,zC0]at hg';simpa [inB] using hg'.1.1.1.1.1
 have:k=0\/k=1\/k=2\/k=3\/k=4\/k=5\/k=6\/k=7:=A0;rcases this with rfl|rfl|rfl|rfl|rfl|rfl|rfl|rfl
 .
  exact aRi n name ks bs es IB IE E d w Q v0 v1 v2 v3 v4 v5 hE hG h1 h2 hn hg hv kk
 .
  exact aRh n name ks bs es IB IE E d w Q v0 v1 v2 v3 v4 v5 hE hG h1 h2 hn hg hv kk
 .
  exact aRg n name ks bs es IB IE E d w Q v0 v1 v2 v3 v4 v5 hE hG h1 h2 hn hg hv kk
 .
  exact aRf n name ks bs es IB IE E d w Q v0 v1 v2 v3 v4 v5 hE hG h1 h2 hn hg hv kk
 .
  exact aRe n name ks bs es IB IE E d w Q v0 v1 v2 v3 v4 v5 hE hG h1 h2 hn hg hv kk
 .
  exact aRd n name ks bs es IB IE E d w Q v0 v1 v2 v3 v4 v5 hE hG h1 h2 hn hg hv kk
 .
  exact aRc n name ks bs es IB IE E d w Q v0 v1 v2 v3 v4 v5 hE hG h1 h2 hn hg hv kk
 .
  exact aRb n name ks bs es IB IE E d w Q v0 v1 v2 v3 v4 v5 hE hG h1 h2 hn hg hv kk
theorem aFa (l:List Go.Proofs.YtcbhdhmhidpdgaaGreatDoor.St)(IH:∀s ∈ l,SC s):BC l:=by
 intro E d w Q a q hE hG h1 h2 hn hg hL k;have HE:Hid (dX E):=hE;have Ks:Hid (∀s ∈ l,SC s):=IH;have HK:Hid (∀d' w',St E d w (20*aK l) d' w'->Q (.returned (.tuple #[])) w'):=k;have HL:Hid (aW E.w0 a q 6 (sts l)):=hL;have Do:Hid (eE E.m E.fs d.p l=true):=hg;have hl9:l.length<=9223372036854775807:=by
  have:=hL.len9;rwa [bA,zB2]at this
 obtain⟨nl,Kh⟩:=zx (l.length);have Wy:Hid (l.length=nl):=Kh.symm;rw[<-Kh]at hl9 ⊢;have S0:=(St.start hG h1 h2);clear k hE hg hL hG Kh IH;go_enter Tryz.func111,Tryz.ntmps111;go_wp2_with fail;go_loopw [4] (fun i wr=>∃(j:Nat) (d':GD),j<=nl/\i=.int .i64 j/\Hid (St E d w (20*aK (l.take j)) d' wr)) (fun i _=>nl-(intOf i).toNat)
 case atStart=>exact⟨0,d,zD1 _,rfl,by show St _ _ _ _ _ _;simpa [aK] using S0⟩
 case round=>
  obtain⟨j,d2,hj,rfl,Hs⟩:=hrel;by_cases Ad:j<nl
  .
   obtain⟨e,he⟩:∃e,l[j]?=some e:=⟨_,zA0 A61⟩
   have Ax:Hid (aK (l.take (j+1))=aK (l.take j)+gD e):=eT he;have Lw:Hid (aK (l.take j)+gD e<=aK l):=by
    exact QA113
   have HME:Hid (e ∈ l):=zA3 he;obtain⟨b,off,s0,s1,s2,s3,s4,s5,rfl,Sx,r0,r1,r2,r3,r4,r5⟩:=aIz HL.out he;have HV:Hid (aL E.w0 e.fl [s0,s1,s2,s3,s4,s5]):=Sx;have Bf:=Hs.out.bel;refine M945 ?_;intro r0 r1 r2 r3 r4;have r5:=aB r5 Bf;have Gs:(j:Int)<(nl:Int):=A0;clear Sx Bf he;go_wp2_with fail;refine Ks.out e HME.out E d2 wr _ _ _ _ _ _ _ HE.out Hs.out.gs Hs.out.sl Hs.out.s4 (by have:=Lw.out;have:=Hs.out.up.n1;omega) (by rw[Hs.out.up.p.1];exact sD Do.out e HME.out) HV.out (fun d3 w3 t3=>?_);have q3:=Hs.out.trans t3;clear r0 r1 r2 r3 r4 r5 t3;go_wp2;go_roundw
   case rel=>exact⟨j+1,d3,by omega,by go_num,by show St _ _ _ _ _ _;rw[Ax.out];exact q3.wide A0⟩
   case measure=>simp[intOf];omega
  .
   have:nl=j:=A0;subst this;have q0:St E d w (20*aK l) d2 wr:=by have:=Hs.out;rwa [zD3 A72]at this
   clear Hs S0;go_wp2_with fail;exact nY Tryz.results111 (HK.out _ _ q0)
mutual
theorem aRa:∀s:Go.Proofs.YtcbhdhmhidpdgaaGreatDoor.St,SC s
 | .mk k n name ks bs es=>aQ9 k n name ks bs es (aFa bs (yG bs)) (aFa es (yG es))
theorem yG:∀l:List Go.Proofs.YtcbhdhmhidpdgaaGreatDoor.St,∀s ∈ l,SC s
 | [],s,h=>by cases h
 | x :: l,s,h=>(zG3.1 h).elim (fun q=>q ▸ aRa x) (yG l s)
end
theorem aJw (l:List Go.Proofs.YtcbhdhmhidpdgaaGreatDoor.St):BC l:=aFa l (yG l)
end Cp
end Go.Proofs.YtcbhdhmhidpdgaaGreatDoor

import Derived.Test.YtcbhdhmhidpdgaaGreatCpI
namespace Go.Proofs.YtcbhdhmhidpdgaaGreat
set_option maxHeartbeats 40000000
open Go.RowKit
set_option linter.unusedVariables false
set_option linter.unusedSimpArgs false
set_option maxRecDepth 100000
theorem A28{p:Prop}(h:p:=by have:=Rl.out;have:=Qk.out;have:=Fq.out;have:=t3.up.n0;omega):p:=h
theorem A53{p:Prop}(h:p:=by have:=Rl.out;have:=HC3.out;have:=HD5.out;have:=t6.up.n0;omega):p:=h
theorem QA72{p:Prop}(h:p:=by
 go_wp2_with fail
 exact oJ Tryz.results108 (HK.out _ _ (q2.wide A10))):p:=h
theorem QA113{p:Prop}(h:p:=by
 show _<=_
 rw[<-fD he,<-List.take_append_drop (j+1) l,lZ,List.take_append_drop]
 omega):p:=h
theorem QA130{p:Prop}(h:p:=by
 go_wp2_with fail
 exact oJ Tryz.results108 (HK.out _ _ (q1.wide A10))):p:=h
namespace Cp
theorem M91{p q:Prop}(k:q)(h:Kx q->p:=by
 intro kQ
 have Ax:(exs ks).length=ks.length:=by rw[aY,zB2]
 have Fk:(sts bs).length=bs.length:=by rw[bE,zB2]
 have Ik:(sts es).length=es.length:=by rw[bE,zB2]
 rw[Ax,Fk,Ik]
 obtain⟨nk,hnk⟩:=zx (ks.length)
 obtain⟨nb,Ba⟩:=zx (bs.length)
 obtain⟨ne,Ae⟩:=zx (es.length)
 have Ap:Hid (ks.length=nk):=hnk.symm
 have Ea:Hid (bs.length=nb):=Ba.symm
 have Lc:Hid (es.length=ne):=Ae.symm
 rw[<-hnk,<-Ba,<-Ae]
 have HL:Hid (aX E.w0 ak ck 5 (exs ks)):=hL
 have Wx:Hid (aX E.w0 ab cb 6 (sts bs)):=Gy
 have Mf:Hid (aX E.w0 ae ce 6 (sts es)):=Gx
 revert Mf;revert Wx;revert HL;revert Lc;revert Ea;revert Ap;revert Ae;revert ne;revert Ba;revert nb;revert hnk;revert nk;revert Ik;revert Fk;revert Ax
 exact kQ.o):p:=h ⟨k⟩
theorem M978{p q:Prop}(k:q)(h:Kx q->p:=by
 intro kQ
 have Aw:Hid (0<=aD ks):=zD1 _
 have Dr:Hid (fW E.m E.fs d.p ks=true):=Ah
 have Zn:Hid (eI E.m E.fs d.p bs=true):=Az
 have Mh:Hid (eI E.m E.fs d.p es=true):=Bs
 revert Mh;revert Zn;revert Dr;revert Aw
 exact kQ.o):p:=h ⟨k⟩
theorem M920{p q:Prop}(k:q)(h:Kx q->p:=by
 intro kQ
 intro E d w Q v0 v1 v2 v3 v4 v5 hE hG h1 h2 hn hg hv k
 have HE:Hid (eA E):=hE
 have Rn:Hid (BC bs):=IB
 have Ua:Hid (BC es):=IE
 revert Ua;revert Rn;revert HE;revert k;revert hv;revert hg;revert hn;revert h2;revert h1;revert hG;revert hE;revert v5;revert v4;revert v3;revert v2;revert v1;revert v0;revert Q;revert w;revert d;revert E
 exact kQ.o):p:=h ⟨k⟩
theorem M922{p q:Prop}(k:q)(h:Kx q->p:=by
 intro kQ
 obtain⟨x0,y1,y2,y3,y4,y5⟩:=x1.c6
 obtain⟨e,he⟩:∃e,ks[0]?=some e:=⟨_,zA0 A36⟩
 have He:Hid (ks[0]?=some e):=he
 have Aw:Hid (cU e<=aD ks):=nd1 he
 revert Aw;revert He;revert he;revert e;revert y5;revert y4;revert y3;revert y2;revert y1;revert x0
 exact kQ.o):p:=h ⟨k⟩
theorem M959{p q:Prop}(k:q)(h:Kx q->p:=by
 intro kQ
 have Fb:Hid _:=hs5.on HE.out (zD2 _ _).drew
 have HD5:Hid ((d5.r 0).n=(d4.r 0).n):=Xs
 have HLT5:Wh<(d4.r 0).n:=A28
 have hi5:((Wh:Nat):Int)<((d4.r 0).n:Int):=A0
 have hn5:(d4.r 0).n<=1000000:=by have:=q4.up.n1;have:=Aw.out;omega
 revert hn5;revert hi5;revert HLT5;revert HD5;revert Fb
 exact kQ.o):p:=h ⟨k⟩
section
variable {E:En} {d d1:GD} {w w1 w2:World} {c:Nat} {Q:Ending->World->Prop}
theorem aOv (hE:eA E)(s:St E d w c d1 w1)(hn:(d.r 0).n+c<=1000000){x0 x1 x2 x3 x4 x5:Int}(k:∀d' w',St E d w (c+1) d' w'->(d'.r 0).n=(d1.r 0).n+1->Q (.returned (.tuple #[])) w'):
  Calls Tryz.prog 79 #[.pointer (some ⟨E.g,0,none⟩),.agg #[.int .i64 x0,.int .i64 x1,.int .i64 x2,.int .i64 x3,.int .i64 x4,.int .i64 x5]] w1 Q:=by
 refine(aSv hE s.gs (by have:=s.sl;omega) A88 x0 x1 x2 x3 x4 x5).mono ?_;rintro e w' ⟨rfl,d',a1,a2,a3,a4,a5,_,_,a6⟩;exact k d' w' ⟨a1,s.up.trans a2,s.kt.trans a3,a4,a5.trans s.s4⟩ a6
theorem St.cellS (s:St E d w c d1 w1)(hE:eA E){a:Nat}(ha:a<(d1.r 0).n)(x:Int):∃b q,w1.cell? ⟨E.g,10,none⟩=some (.slice (some ⟨b,0,none⟩) (d1.r 0).n q)/\(∃y,w1.cell? ⟨b,a*6+4,none⟩=some y)/\w1.frozen? ⟨b,a*6+4,none⟩=false ∧
  ∃d',(d'.r 0).n=(d1.r 0).n/\St E d w c d' (w1.setCell ⟨b,a*6+4,none⟩ (.int .i64 x)):=by
 have hr:=s.gs.row 0 A0;obtain⟨a0,q,e,_,_,_,ha0⟩:=aH hr;obtain⟨b,rfl⟩:=ha0 A0;have Ff:=hr;rw[e]at Ff;have Af:(d1.r 0).xs.length=(d1.r 0).n*6:=hr.1;obtain⟨y,hy⟩:∃y,(d1.r 0).xs[a*6+4]?=some y:=⟨_,zA0 A0⟩
 have el:=s.gs.el;have hs:=s.gs.cell hE (i:=0) A0 e (a*6+4) (.int .i64 x) ⟨fun u hu=>(List.mem_or_eq_of_mem_set hu).elim (el.e0 u) (fun e=>⟨x,e⟩),el.e1,el.e2,el.n2,el.e3,el.m3,el.e4,el.n4,el.rp,el.hl⟩;exact⟨b,q,s.gs.blk.cell (i:=10) A92,⟨y,cM Ff _ _ hy⟩,Ff.frozenAt _,d1.put 0 ⟨(d1.r 0).v,(d1.r 0).n,(d1.r 0).xs.set (a*6+4) (.int .i64 x)⟩,rfl,hs.1,⟨s.up.p,s.up.fr,s.up.r1,s.up.r2,s.up.n0,s.up.n1,s.up.n3,s.up.x3,s.up.x4⟩,s.kt.trans hs.2,s.sl,s.s4⟩
end
def BC (l:List Go.Proofs.YtcbhdhmhidpdgaaGreat.St):Prop:=∀(E:En) (d:GD) (w:World) (Q:Ending->World->Prop) (a:Option Addr) (q:Nat),eA E->GS E d w->d.sl=0->d.s4=0->(d.r 0).n+20*aK l<=1000000->eI E.m E.fs d.p l=true->aX E.w0 a q 6 (sts l)->(∀d' w',St E d w (20*aK l) d' w'->Q (.returned (.tuple #[])) w') →
 Calls Tryz.prog 80 #[.pointer (some ⟨E.g,0,none⟩),.slice a l.length q] w Q
def SC (s:Go.Proofs.YtcbhdhmhidpdgaaGreat.St):Prop:=∀(E:En) (d:GD) (w:World) (Q:Ending->World->Prop) (v0 v1 v2 v3 v4 v5:Value),eA E->GS E d w->d.sl=0->d.s4=0->(d.r 0).n+20*gG s<=1000000->xN E.m E.fs d.p s=true->aL E.w0 s.fl [v0,v1,v2,v3,v4,v5]->(∀d' w',St E d w (20*gG s) d' w'->Q (.returned (.tuple #[])) w') →
 Calls Tryz.prog 108 #[.pointer (some ⟨E.g,0,none⟩),.agg #[v0,v1,v2,v3,v4,v5]] w Q
theorem aSg (n:Int)(name:List Int)(ks:List Ex)(bs es:List Go.Proofs.YtcbhdhmhidpdgaaGreat.St)(IB:BC bs)(IE:BC es):SC (.mk 0 n name ks bs es):=by
 refine M920 ?_;intro E d w Q v0 v1 v2 v3 v4 v5 hE hG h1 h2 hn hg hv k HE Rn Ua;obtain⟨_,_,e0,rfl,_,_,e1,rfl,_,_,e2,⟨an,cn,rfl,Be,_⟩,_,_,e3,hl,_,_,e4,Ij,_,_,e5,Ci,e6⟩:=hv;cases e0;cases e1;cases e2;cases e3;cases e4;cases e5;obtain⟨ak,ck,rfl,hL⟩:=hl.list;obtain⟨ab,cb,rfl,Gy⟩:=Ij.list;obtain⟨ae,ce,rfl,Gx⟩:=Ci.list;refine M91 ?_;intro Ax Fk Ik nk hnk nb Ba ne Ae Ap Ea Lc HL Wx Mf;have HN:Hid (aV E.w0 an name.length name):=Be;have Bw:gG (.mk 0 n name ks bs es)=1+(aD ks+aK bs+aK es):=by simp[gG]
 rw[Bw]at hn k;simp only[xN,zC0,zE3]at hg;obtain⟨⟨⟨⟨⟨_,hg2⟩,Bn⟩,Ah⟩,Az⟩,Bs⟩:=hg;rw[<-hnk]at hg2;refine M978 ?_;intro Aw Dr Zn Mh;have hg2:1<=nk:=by simp[cD]at hg2;omega
 have hy:Below w.heap.size w (w.alloc (.cells #[.int .i64 0,.int .i64 n,.slice an name.length cn,.slice ak nk ck,.slice ab nb cb,.slice ae ne ce] 150 (0,0))):=(zD2 _ _).alloc (zB0 _) _;have x1:=Blk.new w 150 [.int .i64 0,.int .i64 n,.slice an name.length cn,.slice ak nk ck,.slice ab nb cb,.slice ae ne ce];simp only[List.toArray]at x1;refine M966 ?_;intro gx Au S0;have HK:Hid (∀d' w',St E d (w.alloc (.cells #[.int .i64 0,.int .i64 n,.slice an name.length cn,.slice ak nk ck,.slice ab nb cb,.slice ae ne ce] 150 (0,0))) (20*(1+(aD ks+aK bs+aK es))) d' w'->Q (.returned (.tuple #[])) w'):=fun d' w' s=>k d' w' ⟨s.gs,s.up,(Kt.below hy).trans s.kt,s.sl,s.s4⟩;have Lv:(d.r 0).n+20*(1+(aD ks+aK bs+aK es))<=1000000:=hn;clear k hE Bn Ah Az Bs Be hL Gy Gx hl Ij Ci Bw Ax Fk Ik IB IE hG hn hy hnk Ba Ae;go_enter Tryz.func108,Tryz.ntmps108;go_upto_region 1 with fail;generalize w.alloc (.cells #[.int .i64 0,.int .i64 n,.slice an name.length cn,.slice ak nk ck,.slice ab nb cb,.slice ae ne ce] 150 (0,0))=wb at *;rw[<-Au]at x1 ⊢;have HX:Hid (Blk wb gx 150 [.int .i64 0,.int .i64 n,.slice an name.length cn,.slice ak nk ck,.slice ab nb cb,.slice ae ne ce]):=x1;refine M922 ?_;clear x1 Au;intro x0 y1 y2 y3 y4 y5 e he He Aw;clear he;obtain⟨be,oe,s0,s1,s2,s3,s4,rfl,Gu,r0,r1,r2,r3,r4⟩:=mC HL.out He.out;refine M970 ?_;intro Md r0 r1 r2 r3 r4;simp only[Nat.zero_mul,zG1]at r0 r1 r2 r3 r4;clear Gu;go_wp2_with fail;refine nZ (sR e) HE.out S0 A10 (dI Dr.out e (zA3 He.out)) Md.out (fun d1 w1 q1=>?_);clear S0 r0 r1 r2 r3 r4;clear x0 y1 y2 y3 y4 y5;have y2:=(q1.b HX.out).k 2;go_wp2_with fail;clear y2;refine aLa HE.out q1 name (HN.out.below q1.bel) (fun z wz Eh _=>?_);have qz:=q1.on HE.out Eh;clear q1 Eh;by_cases hz:0<=z
 .
  go_wp2_with fail;refine eU HE.out qz A10 (fun dy wy qy=>?_);go_wp2_with fail;exact aLk Tryz.results108 (HK.out _ _ (qy.wide A10))
 .
  go_wp2_with fail;have Tz:=uP E.m E.ms wz.drew (aL.below HE.out.rm qz.bel.drew) an name.length cn name (HN.out.below qz.bel.drew);simp only[En.ms,agg,List.toArray]at Tz;have hr:=aAe (l:=E.m.vars.map Va.name) (x:=name);rw[zB2]at hr;generalize ixI (E.m.vars.map Va.name) name=iv at *;have x3:=(qz.b HX.out).k 2;have Bj:∀wl,Below wz.heap.size wz wl->wl.cell? ⟨E.g,0,none⟩=some E.m0/\wl.cell? ⟨E.g,1,none⟩=some E.m1/\wl.cell? ⟨E.g,2,none⟩=some E.m2/\wl.cell? ⟨E.g,3,none⟩=some E.m3/\wl.cell? ⟨gx,2,none⟩=some (.slice an name.length cn):=fun wl hb=>⟨aB (qz.gs.blk.k 0) hb,aB (qz.gs.blk.k 1) hb,aB (qz.gs.blk.k 2) hb,aB (qz.gs.blk.k 3) hb,aB x3 hb⟩;have Bq:=Bj wz.drew (zD2 _ _).drew;refine zK0 (S:=fun wl=>wl.cell? ⟨E.g,0,none⟩=some E.m0/\wl.cell? ⟨E.g,1,none⟩=some E.m1/\wl.cell? ⟨E.g,2,none⟩=some E.m2/\wl.cell? ⟨E.g,3,none⟩=some E.m3/\wl.cell? ⟨gx,2,none⟩=some (.slice an name.length cn)) A1 Bq (fun Aa=>?_);refine M950 ?_;refine M961 ?_;try simp only[nrm]
  refine ra 8 fun K hK=>?_;go_simp
  (with_reducible refine Tz.mono ?_)
  rintro e wp ⟨rfl,Uw⟩;have bp:Below wz.heap.size wz wp:=(zD2 wz.heap.size wz).drew.trans (aA Uw);have Nn:=Bj wp bp;have qp:=qz.on HE.out bp;clear Tz Uw;go_wp2_with fail;refine hK.out _ _ (Nn) (fun Aa=>?_);clear hK K;try simp only[nrm]
  refine ra 9 fun K hK=>?_;go_simp;refine wX HE.out qp A0 (fun y wo Iw=>?_);have qo:=qp.on HE.out Iw;have hSo:=Bj wo (bp.trans (Iw.mono bp.size));clear qp;go_wp2_with fail;refine hK.out _ _ (hSo) (fun Aa=>?_);clear hK K;try simp only[nrm]
  refine ta 10 ?_;try simp only[nrm]
  refine ra 11 fun K hK=>?_;go_simp;refine eU HE.out qo A10 (fun d2 w2 q2=>?_);have hSq:w2.cell? ⟨E.g,0,none⟩=some E.m0/\w2.cell? ⟨E.g,1,none⟩=some E.m1/\w2.cell? ⟨E.g,2,none⟩=some E.m2/\w2.cell? ⟨E.g,3,none⟩=some E.m3/\w2.cell? ⟨gx,2,none⟩=some (.slice an name.length cn):=⟨q2.gs.blk.k 0,q2.gs.blk.k 1,q2.gs.blk.k 2,q2.gs.blk.k 3,(q2.b HX.out).k 2⟩
  go_wp2_with fail;refine hK.out _ _ (hSq) (fun Aa=>?_);clear hK K;try simp only[nrm]
  refine zK1 A1 ?_ _;exact QA72
theorem aSf (n:Int)(name:List Int)(ks:List Ex)(bs es:List Go.Proofs.YtcbhdhmhidpdgaaGreat.St)(IB:BC bs)(IE:BC es):SC (.mk 1 n name ks bs es):=by
 refine M920 ?_;intro E d w Q v0 v1 v2 v3 v4 v5 hE hG h1 h2 hn hg hv k HE Rn Ua;obtain⟨_,_,e0,rfl,_,_,e1,rfl,_,_,e2,⟨an,cn,rfl,Be,_⟩,_,_,e3,hl,_,_,e4,Ij,_,_,e5,Ci,e6⟩:=hv;cases e0;cases e1;cases e2;cases e3;cases e4;cases e5;obtain⟨ak,ck,rfl,hL⟩:=hl.list;obtain⟨ab,cb,rfl,Gy⟩:=Ij.list;obtain⟨ae,ce,rfl,Gx⟩:=Ci.list;refine M91 ?_;intro Ax Fk Ik nk hnk nb Ba ne Ae Ap Ea Lc HL Wx Mf;have HN:Hid (aV E.w0 an name.length name):=Be;have Bw:gG (.mk 1 n name ks bs es)=1+(aD ks+aK bs+aK es):=by simp[gG]
 rw[Bw]at hn k;simp only[xN,zC0,zE3]at hg;obtain⟨⟨⟨⟨⟨_,hg2⟩,Bn⟩,Ah⟩,Az⟩,Bs⟩:=hg;rw[<-hnk]at hg2;have HAR:Hid (aFt E.m d.p name=true):=by show _=true;simpa using Bn
 refine M978 ?_;intro Aw Dr Zn Mh;have hg2:2<=nk:=by simp[cD]at hg2;omega
 have hy:Below w.heap.size w (w.alloc (.cells #[.int .i64 1,.int .i64 n,.slice an name.length cn,.slice ak nk ck,.slice ab nb cb,.slice ae ne ce] 150 (0,0))):=(zD2 _ _).alloc (zB0 _) _;have x1:=Blk.new w 150 [.int .i64 1,.int .i64 n,.slice an name.length cn,.slice ak nk ck,.slice ab nb cb,.slice ae ne ce];simp only[List.toArray]at x1;refine M966 ?_;intro gx Au S0;have HK:Hid (∀d' w',St E d (w.alloc (.cells #[.int .i64 1,.int .i64 n,.slice an name.length cn,.slice ak nk ck,.slice ab nb cb,.slice ae ne ce] 150 (0,0))) (20*(1+(aD ks+aK bs+aK es))) d' w'->Q (.returned (.tuple #[])) w'):=fun d' w' s=>k d' w' ⟨s.gs,s.up,(Kt.below hy).trans s.kt,s.sl,s.s4⟩;have Lv:(d.r 0).n+20*(1+(aD ks+aK bs+aK es))<=1000000:=hn;clear k hE Bn Ah Az Bs Be hL Gy Gx hl Ij Ci Bw Ax Fk Ik IB IE hG hn hy hnk Ba Ae;go_enter Tryz.func108,Tryz.ntmps108;go_upto_region 1 with fail;generalize w.alloc (.cells #[.int .i64 1,.int .i64 n,.slice an name.length cn,.slice ak nk ck,.slice ab nb cb,.slice ae ne ce] 150 (0,0))=wb at *;rw[<-Au]at x1 ⊢;have HX:Hid (Blk wb gx 150 [.int .i64 1,.int .i64 n,.slice an name.length cn,.slice ak nk ck,.slice ab nb cb,.slice ae ne ce]):=x1;obtain⟨x0,y1,y2,y3,y4,y5⟩:=x1.c6;clear x1 Au;obtain⟨e,he⟩:∃e,ks[0]?=some e:=⟨_,zA0 A36⟩
 have He:Hid (ks[0]?=some e):=he;obtain⟨f,hf⟩:∃e,ks[1]?=some e:=⟨_,zA0 A36⟩
 have Hf:Hid (ks[1]?=some f):=hf;have Aw:Hid (cU e+cU f<=aD ks):=nd2 he hf;clear he hf;obtain⟨be,oe,s0,s1,s2,s3,s4,rfl,Gu,r0,r1,r2,r3,r4⟩:=mC HL.out He.out;refine M970 ?_;intro Md r0 r1 r2 r3 r4;simp only[Nat.zero_mul,zG1]at r0 r1 r2 r3 r4;clear Gu;go_wp2_with fail;refine nZ (sR e) HE.out S0 A10 (dI Dr.out e (zA3 He.out)) Md.out (fun d1 w1 q1=>?_);clear S0 r0 r1 r2 r3 r4;clear x0 y1 y2 y3 y4 y5;go_wp2_with fail;refine wH HE.out q1 (fun x2 d2 w2 q2=>?_);clear q1;go_wp2_with fail;refine eU HE.out q2 A10 (fun d3 w3 q3=>?_);clear q2;obtain⟨bf,of,s0,s1,s2,s3,s4,e9,Xg,r0,r1,r2,r3,r4⟩:=mC HL.out Hf.out;cases e9;have HVf:Hid (aL E.w0 f.fl [s0,s1,s2,s3,s4]):=Xg;have r0:=aB r0 q3.bel;have r1:=aB r1 q3.bel;have r2:=aB r2 q3.bel;have r3:=aB r3 q3.bel;have r4:=aB r4 q3.bel;simp only[Nat.one_mul]at r0 r1 r2 r3 r4;clear Xg;have y3:=(q3.b HX.out).k 3;go_wp2_with fail;refine nZ (sR f) HE.out q3 A10 (dI Dr.out f (zA3 Hf.out)) HVf.out (fun d4 w4 q4=>?_);clear q3 r0 r1 r2 r3 r4;clear y3;have y2:=(q4.b HX.out).k 2;go_wp2_with fail;clear y2;refine aA9 HE.out q4 A10 name (HN.out.below q4.bel) (by rw[q4.up.p.1];exact HAR.out) _ (fun d5 w5 q5=>?_);clear q4;go_wp2_with fail;refine wH HE.out q5 (fun x6 d6 w6 q6=>?_);clear q5;go_wp2_with fail;refine eU HE.out q6 A10 (fun d7 w7 q7=>?_);clear q6;go_wp2_with fail;refine eU HE.out q7 A10 (fun d8 w8 q8=>?_);clear q7;go_wp2_with fail;refine eU HE.out q8 A10 (fun d9 w9 q9=>?_);clear q8;go_wp2_with fail;exact oJ Tryz.results108 (HK.out _ _ (q9.wide A10))
theorem aSe (n:Int)(name:List Int)(ks:List Ex)(bs es:List Go.Proofs.YtcbhdhmhidpdgaaGreat.St)(IB:BC bs)(IE:BC es):SC (.mk 2 n name ks bs es):=by
 refine M920 ?_;intro E d w Q v0 v1 v2 v3 v4 v5 hE hG h1 h2 hn hg hv k HE Rn Ua;obtain⟨_,_,e0,rfl,_,_,e1,rfl,_,_,e2,⟨an,cn,rfl,Be,_⟩,_,_,e3,hl,_,_,e4,Ij,_,_,e5,Ci,e6⟩:=hv;cases e0;cases e1;cases e2;cases e3;cases e4;cases e5;obtain⟨ak,ck,rfl,hL⟩:=hl.list;obtain⟨ab,cb,rfl,Gy⟩:=Ij.list;obtain⟨ae,ce,rfl,Gx⟩:=Ci.list;refine M91 ?_;intro Ax Fk Ik nk hnk nb Ba ne Ae Ap Ea Lc HL Wx Mf;have HN:Hid (aV E.w0 an name.length name):=Be;have Bw:gG (.mk 2 n name ks bs es)=1+(aD ks+aK bs+aK es):=by simp[gG]
 rw[Bw]at hn k;simp only[xN,zC0,zE3]at hg;obtain⟨⟨⟨⟨⟨_,hg2⟩,Bn⟩,Ah⟩,Az⟩,Bs⟩:=hg;rw[<-hnk]at hg2;refine M978 ?_;intro Aw Dr Zn Mh;have hg2:1<=nk:=by simp[cD]at hg2;omega
 have hy:Below w.heap.size w (w.alloc (.cells #[.int .i64 2,.int .i64 n,.slice an name.length cn,.slice ak nk ck,.slice ab nb cb,.slice ae ne ce] 150 (0,0))):=(zD2 _ _).alloc (zB0 _) _;have x1:=Blk.new w 150 [.int .i64 2,.int .i64 n,.slice an name.length cn,.slice ak nk ck,.slice ab nb cb,.slice ae ne ce];simp only[List.toArray]at x1;refine M966 ?_;intro gx Au S0;have HK:Hid (∀d' w',St E d (w.alloc (.cells #[.int .i64 2,.int .i64 n,.slice an name.length cn,.slice ak nk ck,.slice ab nb cb,.slice ae ne ce] 150 (0,0))) (20*(1+(aD ks+aK bs+aK es))) d' w'->Q (.returned (.tuple #[])) w'):=fun d' w' s=>k d' w' ⟨s.gs,s.up,(Kt.below hy).trans s.kt,s.sl,s.s4⟩;have Lv:(d.r 0).n+20*(1+(aD ks+aK bs+aK es))<=1000000:=hn;clear k hE Bn Ah Az Bs Be hL Gy Gx hl Ij Ci Bw Ax Fk Ik IB IE hG hn hy hnk Ba Ae;go_enter Tryz.func108,Tryz.ntmps108;go_upto_region 1 with fail;generalize w.alloc (.cells #[.int .i64 2,.int .i64 n,.slice an name.length cn,.slice ak nk ck,.slice ab nb cb,.slice ae ne ce] 150 (0,0))=wb at *;rw[<-Au]at x1 ⊢;have HX:Hid (Blk wb gx 150 [.int .i64 2,.int .i64 n,.slice an name.length cn,.slice ak nk ck,.slice ab nb cb,.slice ae ne ce]):=x1;refine M922 ?_;clear x1 Au;intro x0 y1 y2 y3 y4 y5 e he He Aw;clear he;obtain⟨be,oe,s0,s1,s2,s3,s4,rfl,Gu,r0,r1,r2,r3,r4⟩:=mC HL.out He.out;refine M970 ?_;intro Md r0 r1 r2 r3 r4;simp only[Nat.zero_mul,zG1]at r0 r1 r2 r3 r4;clear Gu;go_wp2_with fail;refine nZ (sR e) HE.out S0 A10 (dI Dr.out e (zA3 He.out)) Md.out (fun d1 w1 q1=>?_);clear S0 r0 r1 r2 r3 r4;clear x0 y1 y2 y3 y4 y5;obtain⟨ca1,Wh,cq1,_,en1,_,_,Id⟩:=q1.code;have Fq:Hid (((d1).r 0).n=Wh):=en1;clear en1;go_wp2_with fail;clear Id;refine aOv HE.out q1 A10 (fun d2 w2 q2 Ov=>?_);have Qk:Hid ((d2.r 0).n=_+1):=Ov;clear Ov;clear q1;have y4:=(q2.b HX.out).k 4;go_wp2_with fail;have Bv:=Rn.out E d2 w2;rw[Ea.out]at Bv;refine Bv _ ab cb HE.out q2.gs q2.sl q2.s4 (by have:=q2.up.n1;have:=Aw.out;omega) (by rw[q2.up.p.1];exact Zn.out) Wx.out (fun d3 w3 t3=>?_);have q3:=q2.trans t3;clear y4 Bv;obtain⟨ca3,cn3,cq3,_,en3,_,_,Id⟩:=q3.code;have HC3:Hid (((d3).r 0).n=cn3):=en3;clear en3;go_wp2_with fail;clear Id;refine aOv HE.out q3 A10 (fun d4 w4 q4 Xj=>?_);have Rl:Hid ((d4.r 0).n=_+1):=Xj;clear Xj;clear q3;go_wp2_with fail;have sd5:=q4;obtain⟨b5,z5,Fm,⟨o5,co5⟩,fo5,d5,Xs,hs5⟩:=sd5.cellS HE.out (a:=Wh) A28 ((d4.r 0).n:Int);refine M959 ?_;intro Fb HD5 HLT5 hi5 hn5;generalize (d4.r 0).n=m5 at *;clear hs5 Xs sd5 q4;refine rl 12 (S:=fun wl=>wl.cell? ⟨E.g,10,none⟩=some (.slice (some ⟨b5,0,none⟩) m5 z5)) A1 Fm (fun Aa=>?_);refine M99 ?_;try simp only[nrm]
 refine da 10 fun K hK=>?_;go_simp;refine hK.out _ _ (Fm) (fun Aa=>?_);clear hK K;try simp only[nrm]
 refine la 11 ?_;try simp only[nrm]
 refine ea fun K hK=>?_;go_simp;refine hK.out _ _ ?_;clear hK K Aa Fm co5 fo5;generalize (World.setCell w4 ⟨b5,Wh*6+4,none⟩ (.int .i64 (m5:Int))).drew=w5 at *;have q5:=Fb.out;have y5:=(q5.b HX.out).k 5;go_wp2_with fail;have HB6:=Ua.out E d5 w5;rw[Lc.out]at HB6;refine HB6 _ ae ce HE.out q5.gs q5.sl q5.s4 (by have:=q5.up.n1;have:=Aw.out;omega) (by rw[q5.up.p.1];exact Mh.out) Mf.out (fun d6 w6 t6=>?_);have q6:=q5.trans t6;clear y5 HB6;go_wp2_with fail;have sd7:=q6;obtain⟨b7,z7,Fm,⟨o7,co7⟩,fo7,d7,hd7,hs7⟩:=sd7.cellS HE.out (a:=cn3) A53 ((d6.r 0).n:Int);have HS7:Hid _:=hs7.on HE.out (zD2 _ _).drew;have HD7:Hid ((d7.r 0).n=(d6.r 0).n):=hd7;have HLT7:cn3<(d6.r 0).n:=A53;have hi7:((cn3:Nat):Int)<((d6.r 0).n:Int):=A0;have hn7:(d6.r 0).n<=1000000:=by have:=q6.up.n1;have:=Aw.out;omega
 generalize (d6.r 0).n=m7 at *;clear hs7 hd7 sd7 q6;refine rl 12 (S:=fun wl=>wl.cell? ⟨E.g,10,none⟩=some (.slice (some ⟨b7,0,none⟩) m7 z7)) A1 Fm (fun Aa=>?_);refine M99 ?_;try simp only[nrm]
 refine da 10 fun K hK=>?_;go_simp;refine hK.out _ _ (Fm) (fun Aa=>?_);clear hK K;try simp only[nrm]
 refine la 11 ?_;try simp only[nrm]
 refine ea fun K hK=>?_;go_simp;refine hK.out _ _ ?_;clear hK K Aa Fm co7 fo7;generalize (World.setCell w6 ⟨b7,cn3*6+4,none⟩ (.int .i64 (m7:Int))).drew=w7 at *;have q7:=HS7.out;go_wp2_with fail;exact oJ Tryz.results108 (HK.out _ _ (q7.wide A10))
theorem aSd (n:Int)(name:List Int)(ks:List Ex)(bs es:List Go.Proofs.YtcbhdhmhidpdgaaGreat.St)(IB:BC bs)(IE:BC es):SC (.mk 3 n name ks bs es):=by
 refine M920 ?_;intro E d w Q v0 v1 v2 v3 v4 v5 hE hG h1 h2 hn hg hv k HE Rn Ua;obtain⟨_,_,e0,rfl,_,_,e1,rfl,_,_,e2,⟨an,cn,rfl,Be,_⟩,_,_,e3,hl,_,_,e4,Ij,_,_,e5,Ci,e6⟩:=hv;cases e0;cases e1;cases e2;cases e3;cases e4;cases e5;obtain⟨ak,ck,rfl,hL⟩:=hl.list;obtain⟨ab,cb,rfl,Gy⟩:=Ij.list;obtain⟨ae,ce,rfl,Gx⟩:=Ci.list;refine M91 ?_;intro Ax Fk Ik nk hnk nb Ba ne Ae Ap Ea Lc HL Wx Mf;have HN:Hid (aV E.w0 an name.length name):=Be;have Bw:gG (.mk 3 n name ks bs es)=1+(aD ks+aK bs+aK es):=by simp[gG]
 rw[Bw]at hn k;simp only[xN,zC0,zE3]at hg;obtain⟨⟨⟨⟨⟨_,hg2⟩,Bn⟩,Ah⟩,Az⟩,Bs⟩:=hg;rw[<-hnk]at hg2;refine M978 ?_;intro Aw Dr Zn Mh;have hg2:1<=nk:=by simp[cD]at hg2;omega
 have hy:Below w.heap.size w (w.alloc (.cells #[.int .i64 3,.int .i64 n,.slice an name.length cn,.slice ak nk ck,.slice ab nb cb,.slice ae ne ce] 150 (0,0))):=(zD2 _ _).alloc (zB0 _) _;have x1:=Blk.new w 150 [.int .i64 3,.int .i64 n,.slice an name.length cn,.slice ak nk ck,.slice ab nb cb,.slice ae ne ce];simp only[List.toArray]at x1;refine M966 ?_;intro gx Au S0;have HK:Hid (∀d' w',St E d (w.alloc (.cells #[.int .i64 3,.int .i64 n,.slice an name.length cn,.slice ak nk ck,.slice ab nb cb,.slice ae ne ce] 150 (0,0))) (20*(1+(aD ks+aK bs+aK es))) d' w'->Q (.returned (.tuple #[])) w'):=fun d' w' s=>k d' w' ⟨s.gs,s.up,(Kt.below hy).trans s.kt,s.sl,s.s4⟩;have Lv:(d.r 0).n+20*(1+(aD ks+aK bs+aK es))<=1000000:=hn;clear k hE Bn Ah Az Bs Be hL Gy Gx hl Ij Ci Bw Ax Fk Ik IB IE hG hn hy hnk Ba Ae;go_enter Tryz.func108,Tryz.ntmps108;go_upto_region 1 with fail;generalize w.alloc (.cells #[.int .i64 3,.int .i64 n,.slice an name.length cn,.slice ak nk ck,.slice ab nb cb,.slice ae ne ce] 150 (0,0))=wb at *;rw[<-Au]at x1 ⊢;have HX:Hid (Blk wb gx 150 [.int .i64 3,.int .i64 n,.slice an name.length cn,.slice ak nk ck,.slice ab nb cb,.slice ae ne ce]):=x1;refine M922 ?_;clear x1 Au;intro x0 y1 y2 y3 y4 y5 e he He Aw;clear he;obtain⟨be,oe,s0,s1,s2,s3,s4,rfl,Gu,r0,r1,r2,r3,r4⟩:=mC HL.out He.out;refine M970 ?_;intro Md r0 r1 r2 r3 r4;simp only[Nat.zero_mul,zG1]at r0 r1 r2 r3 r4;clear Gu;obtain⟨ca0,Od,cq0,_,en0,_,_,Id⟩:=S0.code;have HC0:Hid (((d).r 0).n=Od):=en0;clear en0;go_wp2_with fail;clear Id;refine nZ (sR e) HE.out S0 A10 (dI Dr.out e (zA3 He.out)) Md.out (fun d1 w1 q1=>?_);clear S0 r0 r1 r2 r3 r4;clear x0 y1 y2 y3 y4 y5;obtain⟨ca1,Wh,cq1,_,en1,_,_,Id⟩:=q1.code;have Fq:Hid (((d1).r 0).n=Wh):=en1;clear en1;go_wp2_with fail;clear Id;refine aOv HE.out q1 A10 (fun d2 w2 q2 Ov=>?_);have Qk:Hid ((d2.r 0).n=_+1):=Ov;clear Ov;clear q1;have y4:=(q2.b HX.out).k 4;go_wp2_with fail;have Bv:=Rn.out E d2 w2;rw[Ea.out]at Bv;refine Bv _ ab cb HE.out q2.gs q2.sl q2.s4 (by have:=q2.up.n1;have:=Aw.out;omega) (by rw[q2.up.p.1];exact Zn.out) Wx.out (fun d3 w3 t3=>?_);have q3:=q2.trans t3;clear y4 Bv;go_wp2_with fail;refine aOv HE.out q3 A10 (fun d4 w4 q4 Xj=>?_);have Rl:Hid ((d4.r 0).n=_+1):=Xj;clear Xj;clear q3;go_wp2_with fail;have sd5:=q4;obtain⟨b5,z5,Fm,⟨o5,co5⟩,fo5,d5,Xs,hs5⟩:=sd5.cellS HE.out (a:=Wh) A28 ((d4.r 0).n:Int);refine M959 ?_;intro Fb HD5 HLT5 hi5 hn5;generalize (d4.r 0).n=m5 at *;clear hs5 Xs sd5 q4;refine rl 12 (S:=fun wl=>wl.cell? ⟨E.g,10,none⟩=some (.slice (some ⟨b5,0,none⟩) m5 z5)) A1 Fm (fun Aa=>?_);refine M99 ?_;try simp only[nrm]
 refine da 10 fun K hK=>?_;go_simp;refine hK.out _ _ (Fm) (fun Aa=>?_);clear hK K;try simp only[nrm]
 refine la 11 ?_;try simp only[nrm]
 refine ea fun K hK=>?_;go_simp;refine hK.out _ _ ?_;clear hK K Aa Fm co5 fo5;generalize (World.setCell w4 ⟨b5,Wh*6+4,none⟩ (.int .i64 (m5:Int))).drew=w5 at *;have q5:=Fb.out;go_wp2_with fail;exact oJ Tryz.results108 (HK.out _ _ (q5.wide A10))
theorem aSc (n:Int)(name:List Int)(ks:List Ex)(bs es:List Go.Proofs.YtcbhdhmhidpdgaaGreat.St)(IB:BC bs)(IE:BC es):SC (.mk 4 n name ks bs es):=by
 refine M920 ?_;intro E d w Q v0 v1 v2 v3 v4 v5 hE hG h1 h2 hn hg hv k HE Rn Ua;obtain⟨_,_,e0,rfl,_,_,e1,rfl,_,_,e2,⟨an,cn,rfl,Be,_⟩,_,_,e3,hl,_,_,e4,Ij,_,_,e5,Ci,e6⟩:=hv;cases e0;cases e1;cases e2;cases e3;cases e4;cases e5;obtain⟨ak,ck,rfl,hL⟩:=hl.list;obtain⟨ab,cb,rfl,Gy⟩:=Ij.list;obtain⟨ae,ce,rfl,Gx⟩:=Ci.list;refine M91 ?_;intro Ax Fk Ik nk hnk nb Ba ne Ae Ap Ea Lc HL Wx Mf;have HN:Hid (aV E.w0 an name.length name):=Be;have Bw:gG (.mk 4 n name ks bs es)=1+(aD ks+aK bs+aK es):=by simp[gG]
 rw[Bw]at hn k;simp only[xN,zC0,zE3]at hg;obtain⟨⟨⟨⟨⟨_,hg2⟩,Bn⟩,Ah⟩,Az⟩,Bs⟩:=hg;rw[<-hnk]at hg2;refine M978 ?_;intro Aw Dr Zn Mh;have hg2:1<=nk:=by simp[cD]at hg2;omega
 have hy:Below w.heap.size w (w.alloc (.cells #[.int .i64 4,.int .i64 n,.slice an name.length cn,.slice ak nk ck,.slice ab nb cb,.slice ae ne ce] 150 (0,0))):=(zD2 _ _).alloc (zB0 _) _;have x1:=Blk.new w 150 [.int .i64 4,.int .i64 n,.slice an name.length cn,.slice ak nk ck,.slice ab nb cb,.slice ae ne ce];simp only[List.toArray]at x1;refine M966 ?_;intro gx Au S0;have HK:Hid (∀d' w',St E d (w.alloc (.cells #[.int .i64 4,.int .i64 n,.slice an name.length cn,.slice ak nk ck,.slice ab nb cb,.slice ae ne ce] 150 (0,0))) (20*(1+(aD ks+aK bs+aK es))) d' w'->Q (.returned (.tuple #[])) w'):=fun d' w' s=>k d' w' ⟨s.gs,s.up,(Kt.below hy).trans s.kt,s.sl,s.s4⟩;have Lv:(d.r 0).n+20*(1+(aD ks+aK bs+aK es))<=1000000:=hn;clear k hE Bn Ah Az Bs Be hL Gy Gx hl Ij Ci Bw Ax Fk Ik IB IE hG hn hy hnk Ba Ae;go_enter Tryz.func108,Tryz.ntmps108;go_upto_region 1 with fail;generalize w.alloc (.cells #[.int .i64 4,.int .i64 n,.slice an name.length cn,.slice ak nk ck,.slice ab nb cb,.slice ae ne ce] 150 (0,0))=wb at *;rw[<-Au]at x1 ⊢;have HX:Hid (Blk wb gx 150 [.int .i64 4,.int .i64 n,.slice an name.length cn,.slice ak nk ck,.slice ab nb cb,.slice ae ne ce]):=x1;refine M922 ?_;clear x1 Au;intro x0 y1 y2 y3 y4 y5 e he He Aw;clear he;obtain⟨be,oe,s0,s1,s2,s3,s4,rfl,Gu,r0,r1,r2,r3,r4⟩:=mC HL.out He.out;refine M970 ?_;intro Md r0 r1 r2 r3 r4;simp only[Nat.zero_mul,zG1]at r0 r1 r2 r3 r4;clear Gu;go_wp2_with fail;refine nZ (sR e) HE.out S0 A10 (dI Dr.out e (zA3 He.out)) Md.out (fun d1 w1 q1=>?_);clear S0 r0 r1 r2 r3 r4;clear x0 y1 y2 y3 y4 y5;go_wp2_with fail;refine wK HE.out q1 A10 (fun d2 w2 q2=>?_);clear q1;exact QA72
theorem aSb (n:Int)(name:List Int)(ks:List Ex)(bs es:List Go.Proofs.YtcbhdhmhidpdgaaGreat.St)(IB:BC bs)(IE:BC es):SC (.mk 5 n name ks bs es):=by
 refine M920 ?_;intro E d w Q v0 v1 v2 v3 v4 v5 hE hG h1 h2 hn hg hv k HE Rn Ua;obtain⟨_,_,e0,rfl,_,_,e1,rfl,_,_,e2,⟨an,cn,rfl,Be,_⟩,_,_,e3,hl,_,_,e4,Ij,_,_,e5,Ci,e6⟩:=hv;cases e0;cases e1;cases e2;cases e3;cases e4;cases e5;obtain⟨ak,ck,rfl,hL⟩:=hl.list;obtain⟨ab,cb,rfl,Gy⟩:=Ij.list;obtain⟨ae,ce,rfl,Gx⟩:=Ci.list;refine M91 ?_;intro Ax Fk Ik nk hnk nb Ba ne Ae Ap Ea Lc HL Wx Mf;have HN:Hid (aV E.w0 an name.length name):=Be;have Bw:gG (.mk 5 n name ks bs es)=1+(aD ks+aK bs+aK es):=by simp[gG]
 rw[Bw]at hn k;simp only[xN,zC0,zE3]at hg;obtain⟨⟨⟨⟨⟨_,hg2⟩,Bn⟩,Ah⟩,Az⟩,Bs⟩:=hg;rw[<-hnk]at hg2;refine M978 ?_;intro Aw Dr Zn Mh;have hg2:1<=nk:=by simp[cD]at hg2;omega
 have hy:Below w.heap.size w (w.alloc (.cells #[.int .i64 5,.int .i64 n,.slice an name.length cn,.slice ak nk ck,.slice ab nb cb,.slice ae ne ce] 150 (0,0))):=(zD2 _ _).alloc (zB0 _) _;have x1:=Blk.new w 150 [.int .i64 5,.int .i64 n,.slice an name.length cn,.slice ak nk ck,.slice ab nb cb,.slice ae ne ce];simp only[List.toArray]at x1;refine M966 ?_;intro gx Au S0;have HK:Hid (∀d' w',St E d (w.alloc (.cells #[.int .i64 5,.int .i64 n,.slice an name.length cn,.slice ak nk ck,.slice ab nb cb,.slice ae ne ce] 150 (0,0))) (20*(1+(aD ks+aK bs+aK es))) d' w'->Q (.returned (.tuple #[])) w'):=fun d' w' s=>k d' w' ⟨s.gs,s.up,(Kt.below hy).trans s.kt,s.sl,s.s4⟩;have Lv:(d.r 0).n+20*(1+(aD ks+aK bs+aK es))<=1000000:=hn;clear k hE Bn Ah Az Bs Be hL Gy Gx hl Ij Ci Bw Ax Fk Ik IB IE hG hn hy hnk Ba Ae;go_enter Tryz.func108,Tryz.ntmps108;go_upto_region 1 with fail;generalize w.alloc (.cells #[.int .i64 5,.int .i64 n,.slice an name.length cn,.slice ak nk ck,.slice ab nb cb,.slice ae ne ce] 150 (0,0))=wb at *;rw[<-Au]at x1 ⊢;have HX:Hid (Blk wb gx 150 [.int .i64 5,.int .i64 n,.slice an name.length cn,.slice ak nk ck,.slice ab nb cb,.slice ae ne ce]):=x1;refine M922 ?_;clear x1 Au;intro x0 y1 y2 y3 y4 y5 e he He Aw;clear he;obtain⟨be,oe,s0,s1,s2,s3,s4,rfl,Gu,r0,r1,r2,r3,r4⟩:=mC HL.out He.out;refine M970 ?_;intro Md r0 r1 r2 r3 r4;simp only[Nat.zero_mul,zG1]at r0 r1 r2 r3 r4;clear Gu;go_wp2_with fail;refine nZ (sR e) HE.out S0 A10 (dI Dr.out e (zA3 He.out)) Md.out (fun d1 w1 q1=>?_);clear S0 r0 r1 r2 r3 r4;clear x0 y1 y2 y3 y4 y5;go_wp2_with fail;refine eU HE.out q1 A10 (fun d2 w2 q2=>?_);clear q1;exact QA72
theorem aSa (n:Int)(name:List Int)(ks:List Ex)(bs es:List Go.Proofs.YtcbhdhmhidpdgaaGreat.St)(IB:BC bs)(IE:BC es):SC (.mk 6 n name ks bs es):=by
 refine M920 ?_;intro E d w Q v0 v1 v2 v3 v4 v5 hE hG h1 h2 hn hg hv k HE Rn Ua;obtain⟨_,_,e0,rfl,_,_,e1,rfl,_,_,e2,⟨an,cn,rfl,Be,_⟩,_,_,e3,hl,_,_,e4,Ij,_,_,e5,Ci,e6⟩:=hv;cases e0;cases e1;cases e2;cases e3;cases e4;cases e5;obtain⟨ak,ck,rfl,hL⟩:=hl.list;obtain⟨ab,cb,rfl,Gy⟩:=Ij.list;obtain⟨ae,ce,rfl,Gx⟩:=Ci.list;refine M91 ?_;intro Ax Fk Ik nk hnk nb Ba ne Ae Ap Ea Lc HL Wx Mf;have HN:Hid (aV E.w0 an name.length name):=Be;have Bw:gG (.mk 6 n name ks bs es)=1+(aD ks+aK bs+aK es):=by simp[gG]
 rw[Bw]at hn k;simp only[xN,zC0,zE3]at hg;obtain⟨⟨⟨⟨⟨_,hg2⟩,Bn⟩,Ah⟩,Az⟩,Bs⟩:=hg;rw[<-hnk]at hg2;refine M978 ?_;intro Aw Dr Zn Mh;have hg2:0<=nk:=by simp[cD]at hg2;omega
 have hy:Below w.heap.size w (w.alloc (.cells #[.int .i64 6,.int .i64 n,.slice an name.length cn,.slice ak nk ck,.slice ab nb cb,.slice ae ne ce] 150 (0,0))):=(zD2 _ _).alloc (zB0 _) _;have x1:=Blk.new w 150 [.int .i64 6,.int .i64 n,.slice an name.length cn,.slice ak nk ck,.slice ab nb cb,.slice ae ne ce];simp only[List.toArray]at x1;refine M966 ?_;intro gx Au S0;have HK:Hid (∀d' w',St E d (w.alloc (.cells #[.int .i64 6,.int .i64 n,.slice an name.length cn,.slice ak nk ck,.slice ab nb cb,.slice ae ne ce] 150 (0,0))) (20*(1+(aD ks+aK bs+aK es))) d' w'->Q (.returned (.tuple #[])) w'):=fun d' w' s=>k d' w' ⟨s.gs,s.up,(Kt.below hy).trans s.kt,s.sl,s.s4⟩;have Lv:(d.r 0).n+20*(1+(aD ks+aK bs+aK es))<=1000000:=hn;clear k hE Bn Ah Az Bs Be hL Gy Gx hl Ij Ci Bw Ax Fk Ik IB IE hG hn hy hnk Ba Ae;go_enter Tryz.func108,Tryz.ntmps108;go_upto_region 1 with fail;generalize w.alloc (.cells #[.int .i64 6,.int .i64 n,.slice an name.length cn,.slice ak nk ck,.slice ab nb cb,.slice ae ne ce] 150 (0,0))=wb at *;rw[<-Au]at x1 ⊢;have HX:Hid (Blk wb gx 150 [.int .i64 6,.int .i64 n,.slice an name.length cn,.slice ak nk ck,.slice ab nb cb,.slice ae ne ce]):=x1;obtain⟨x0,y1,y2,y3,y4,y5⟩:=x1.c6;clear x1 Au;go_wp2_with fail;clear x0 y1 y2 y3 y4 y5;refine eU HE.out S0 A10 (fun d1 w1 q1=>?_);clear S0;exact QA130
theorem aR9 (n:Int)(name:List Int)(ks:List Ex)(bs es:List Go.Proofs.YtcbhdhmhidpdgaaGreat.St)(IB:BC bs)(IE:BC es):SC (.mk 7 n name ks bs es):=by
 refine M920 ?_;intro E d w Q v0 v1 v2 v3 v4 v5 hE hG h1 h2 hn hg hv k HE Rn Ua;obtain⟨_,_,e0,rfl,_,_,e1,rfl,_,_,e2,⟨an,cn,rfl,Be,_⟩,_,_,e3,hl,_,_,e4,Ij,_,_,e5,Ci,e6⟩:=hv;cases e0;cases e1;cases e2;cases e3;cases e4;cases e5;obtain⟨ak,ck,rfl,hL⟩:=hl.list;obtain⟨ab,cb,rfl,Gy⟩:=Ij.list;obtain⟨ae,ce,rfl,Gx⟩:=Ci.list;refine M91 ?_;intro Ax Fk Ik nk hnk nb Ba ne Ae Ap Ea Lc HL Wx Mf;have HN:Hid (aV E.w0 an name.length name):=Be;have Bw:gG (.mk 7 n name ks bs es)=1+(aD ks+aK bs+aK es):=by simp[gG]
 rw[Bw]at hn k;simp only[xN,zC0,zE3]at hg;obtain⟨⟨⟨⟨⟨_,hg2⟩,Bn⟩,Ah⟩,Az⟩,Bs⟩:=hg;rw[<-hnk]at hg2;refine M978 ?_;intro Aw Dr Zn Mh;have hg2:1<=nk:=by simp[cD]at hg2;omega
 have hy:Below w.heap.size w (w.alloc (.cells #[.int .i64 7,.int .i64 n,.slice an name.length cn,.slice ak nk ck,.slice ab nb cb,.slice ae ne ce] 150 (0,0))):=(zD2 _ _).alloc (zB0 _) _;have x1:=Blk.new w 150 [.int .i64 7,.int .i64 n,.slice an name.length cn,.slice ak nk ck,.slice ab nb cb,.slice ae ne ce];simp only[List.toArray]at x1;refine M966 ?_;intro gx Au S0;have HK:Hid (∀d' w',St E d (w.alloc (.cells #[.int .i64 7,.int .i64 n,.slice an name.length cn,.slice ak nk ck,.slice ab nb cb,.slice ae ne ce] 150 (0,0))) (20*(1+(aD ks+aK bs+aK es))) d' w'->Q (.returned (.tuple #[])) w'):=fun d' w' s=>k d' w' ⟨s.gs,s.up,(Kt.below hy).trans s.kt,s.sl,s.s4⟩;have Lv:(d.r 0).n+20*(1+(aD ks+aK bs+aK es))<=1000000:=hn;clear k hE Bn Ah Az Bs Be hL Gy Gx hl Ij Ci Bw Ax Fk Ik IB IE hG hn hy hnk Ba Ae;go_enter Tryz.func108,Tryz.ntmps108;go_upto_region 1 with fail;generalize w.alloc (.cells #[.int .i64 7,.int .i64 n,.slice an name.length cn,.slice ak nk ck,.slice ab nb cb,.slice ae ne ce] 150 (0,0))=wb at *;rw[<-Au]at x1 ⊢;have HX:Hid (Blk wb gx 150 [.int .i64 7,.int .i64 n,.slice an name.length cn,.slice ak nk ck,.slice ab nb cb,.slice ae ne ce]):=x1;refine M922 ?_;clear x1 Au;intro x0 y1 y2 y3 y4 y5 e he He Aw;clear he;obtain⟨be,oe,s0,s1,s2,s3,s4,rfl,Gu,r0,r1,r2,r3,r4⟩:=mC HL.out He.out;refine M970 ?_;intro Md r0 r1 r2 r3 r4;simp only[Nat.zero_mul,zG1]at r0 r1 r2 r3 r4;clear Gu;go_wp2_with fail;refine nZ (sR e) HE.out S0 A10 (dI Dr.out e (zA3 He.out)) Md.out (fun d1 w1 q1=>?_);clear S0 r0 r1 r2 r3 r4;clear x0 y1 y2 y3 y4 y5;exact QA130
theorem aJj {W:World}{ks:List Go.Proofs.YtcbhdhmhidpdgaaGreat.St}{a:Option Addr}{q i:Nat}{e:Go.Proofs.YtcbhdhmhidpdgaaGreat.St}(h:aX W a q 6 (sts ks))(hi:ks[i]?=some e):∃b off v0 v1 v2 v3 v4 v5,a=some ⟨b,off,none⟩/\aL W e.fl [v0,v1,v2,v3,v4,v5]/\W.cell? ⟨b,off+i*6,none⟩=some v0/\W.cell? ⟨b,off+i*6+1,none⟩=some v1/\W.cell? ⟨b,off+i*6+2,none⟩=some v2/\W.cell? ⟨b,off+i*6+3,none⟩=some v3/\W.cell? ⟨b,off+i*6+4,none⟩=some v4/\W.cell? ⟨b,off+i*6+5,none⟩=some v5:=by
 rw[bE]at h;obtain⟨b,off,vs,e2,hr,hc⟩:=h.cellsAt (show(ks.map Go.Proofs.YtcbhdhmhidpdgaaGreat.St.fl)[i]?=some e.fl by rw[zA2,hi];rfl);cases e with
 | mk k n name kk bs es=>
  have Tk:=hr;obtain⟨v0,_,rfl,_,v1,_,rfl,_,v2,_,rfl,_,v3,_,rfl,_,v4,_,rfl,_,v5,_,rfl,_,rfl⟩:=hr;exact⟨b,off,v0,v1,v2,v3,v4,v5,e2,Tk,hc 0 _ rfl,hc 1 _ rfl,hc 2 _ rfl,hc 3 _ rfl,hc 4 _ rfl,hc 5 _ rfl⟩
theorem aR7 (k n:Int)(name:List Int)(ks:List Ex)(bs es:List Go.Proofs.YtcbhdhmhidpdgaaGreat.St)(IB:BC bs)(IE:BC es):SC (.mk k n name ks bs es):=fun E d w Q v0 v1 v2 v3 v4 v5 hE hG h1 h2 hn hg hv kk=>by
 have hk:0<=k/\k<=7:=by
  have hg':=hg;simp only[xN,zC0]at hg';simpa [inB] using hg'.1.1.1.1.1
 have:k=0\/k=1\/k=2\/k=3\/k=4\/k=5\/k=6\/k=7:=A0;rcases this with rfl|rfl|rfl|rfl|rfl|rfl|rfl|rfl
 .
  exact aSg n name ks bs es IB IE E d w Q v0 v1 v2 v3 v4 v5 hE hG h1 h2 hn hg hv kk
 .
  exact aSf n name ks bs es IB IE E d w Q v0 v1 v2 v3 v4 v5 hE hG h1 h2 hn hg hv kk
 .
  exact aSe n name ks bs es IB IE E d w Q v0 v1 v2 v3 v4 v5 hE hG h1 h2 hn hg hv kk
 .
  exact aSd n name ks bs es IB IE E d w Q v0 v1 v2 v3 v4 v5 hE hG h1 h2 hn hg hv kk
 .
  exact aSc n name ks bs es IB IE E d w Q v0 v1 v2 v3 v4 v5 hE hG h1 h2 hn hg hv kk
 .
  exact aSb n name ks bs es IB IE E d w Q v0 v1 v2 v3 v4 v5 hE hG h1 h2 hn hg hv kk
 .
  exact aSa n name ks bs es IB IE E d w Q v0 v1 v2 v3 v4 v5 hE hG h1 h2 hn hg hv kk
 .
  exact aR9 n name ks bs es IB IE E d w Q v0 v1 v2 v3 v4 v5 hE hG h1 h2 hn hg hv kk
theorem aFr (l:List Go.Proofs.YtcbhdhmhidpdgaaGreat.St)(IH:∀s ∈ l,SC s):BC l:=by
 intro E d w Q a q hE hG h1 h2 hn hg hL k;have HE:Hid (eA E):=hE;have Ld:Hid (∀s ∈ l,SC s):=IH;have HK:Hid (∀d' w',St E d w (20*aK l) d' w'->Q (.returned (.tuple #[])) w'):=k;have HL:Hid (aX E.w0 a q 6 (sts l)):=hL;have Dr:Hid (eI E.m E.fs d.p l=true):=hg;have hl9:l.length<=9223372036854775807:=by
  have:=hL.len9;rwa [bE,zB2]at this
 obtain⟨nl,Kp⟩:=zx (l.length);have Xz:Hid (l.length=nl):=Kp.symm;rw[<-Kp]at hl9 ⊢;have S0:=(St.start hG h1 h2);clear k hE hg hL hG Kp IH;go_enter Tryz.func80,Tryz.ntmps80;go_wp2_with fail;go_loopw [4] (fun i wr=>∃(j:Nat) (d':GD),j<=nl/\i=.int .i64 j/\Hid (St E d w (20*aK (l.take j)) d' wr)) (fun i _=>nl-(intOf i).toNat)
 case atStart=>exact⟨0,d,zD1 _,rfl,by show St _ _ _ _ _ _;simpa [aK] using S0⟩
 case round=>
  obtain⟨j,d2,hj,rfl,Hs⟩:=hrel;by_cases Ad:j<nl
  .
   obtain⟨e,he⟩:∃e,l[j]?=some e:=⟨_,zA0 A66⟩
   have Aw:Hid (aK (l.take (j+1))=aK (l.take j)+gG e):=fD he;have Mf:Hid (aK (l.take j)+gG e<=aK l):=by
    exact QA113
   have HME:Hid (e ∈ l):=zA3 he;obtain⟨b,off,s0,s1,s2,s3,s4,s5,rfl,Ti,r0,r1,r2,r3,r4,r5⟩:=aJj HL.out he;have HV:Hid (aL E.w0 e.fl [s0,s1,s2,s3,s4,s5]):=Ti;have Bf:=Hs.out.bel;refine M946 ?_;intro r0 r1 r2 r3 r4;have r5:=aB r5 Bf;have Gw:(j:Int)<(nl:Int):=A0;clear Ti Bf he;go_wp2_with fail;refine Ld.out e HME.out E d2 wr _ _ _ _ _ _ _ HE.out Hs.out.gs Hs.out.sl Hs.out.s4 (by have:=Mf.out;have:=Hs.out.up.n1;omega) (by rw[Hs.out.up.p.1];exact sL Dr.out e HME.out) HV.out (fun d3 w3 t3=>?_);have q3:=Hs.out.trans t3;clear r0 r1 r2 r3 r4 r5 t3;go_wp2;go_roundw
   case rel=>exact⟨j+1,d3,by omega,by go_num,by show St _ _ _ _ _ _;rw[Aw.out];exact q3.wide A0⟩
   case measure=>simp[intOf];omega
  .
   have:nl=j:=A0;subst this;have q0:St E d w (20*aK l) d2 wr:=by have:=Hs.out;rwa [zD3 A76]at this
   clear Hs S0;go_wp2_with fail;exact oJ Tryz.results80 (HK.out _ _ q0)
mutual
theorem aR8:∀s:Go.Proofs.YtcbhdhmhidpdgaaGreat.St,SC s
 | .mk k n name ks bs es=>aR7 k n name ks bs es (aFr bs (yS bs)) (aFr es (yS es))
theorem yS:∀l:List Go.Proofs.YtcbhdhmhidpdgaaGreat.St,∀s ∈ l,SC s
 | [],s,h=>by cases h
 | x :: l,s,h=>(zG3.1 h).elim (fun q=>q ▸ aR8 x) (yS l s)
end
theorem aKo (l:List Go.Proofs.YtcbhdhmhidpdgaaGreat.St):BC l:=aFr l (yS l)
end Cp
end Go.Proofs.YtcbhdhmhidpdgaaGreat

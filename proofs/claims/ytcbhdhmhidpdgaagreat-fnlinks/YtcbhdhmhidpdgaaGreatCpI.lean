import Derived.Test.YtcbhdhmhidpdgaaGreatCpH
namespace Go.Proofs.YtcbhdhmhidpdgaaGreat
set_option maxHeartbeats 40000000
open Go.RowKit
set_option linter.unusedVariables false
set_option linter.unusedSimpArgs false
set_option maxRecDepth 100000
theorem A10{p:Prop}(h:p:=by have:=Aw.out;omega):p:=h
theorem A36{p:Prop}(h:p:=by rw[Ap.out];omega):p:=h
theorem QA52{p:Prop}(h:p:=by
 obtain⟨x0,y1,y2,y3,y4⟩:=x1.c5
 clear x1 Au
 go_wp2_with fail
 clear x0 y1 y2 y3 y4
 refine eU HE.out S0 A10 (fun d1 w1 q1=>?_)
 clear S0
 go_wp2_with fail
 exact oJ Tryz.results114 (HK.out _ _ (q1.wide A10))):p:=h
namespace Cp
theorem M970{p q:Prop}(k:q)(h:Kx q->p:=by
 intro kQ
 have Md:Hid (aL E.w0 e.fl [s0,s1,s2,s3,s4]):=Gu
 have r0:=aB r0 S0.bel
 have r1:=aB r1 S0.bel
 have r2:=aB r2 S0.bel
 have r3:=aB r3 S0.bel
 have r4:=aB r4 S0.bel
 revert r4;revert r3;revert r2;revert r1;revert r0;revert Md
 exact kQ.o):p:=h ⟨k⟩
theorem M931{p q:Prop}(k:q)(h:Kx q->p:=by
 intro kQ
 have Aw:Hid (0<=aD ks):=zD1 _
 have Dr:Hid (fW E.m E.fs d.p ks=true):=Dz
 have hg2:0<=nk:=by simp[dA]at hg2;omega
 revert hg2;revert Dr;revert Aw
 exact kQ.o):p:=h ⟨k⟩
theorem M961{p q:Prop}(k:q)(h:Kx q->p:=by
 intro kQ
 refine ta 4 ?_
 refine ta 5 ?_
 try simp only[nrm]
 refine ta 6 ?_
 refine ta 7 ?_
 exact kQ.o):p:=h ⟨k⟩
theorem nd1 {ks:List Ex}{e:Ex}(h:ks[0]?=some e):cU e<=aD ks:=by
 cases ks with
 | nil=>cases h| cons x l=>cases h;simp[aD]
theorem nd2 {ks:List Ex}{e f:Ex}(h:ks[0]?=some e)(h':ks[1]?=some f):cU e+cU f<=aD ks:=by
 match ks,h,h' with
 | [],h,_=>cases h| [_],_,h'=>cases h'| x :: y :: l,h,h'=>cases h;cases h';simp[aD] <;> omega
theorem aT5 (n:Int)(mod name:List Int)(ks:List Ex)(IH:∀e ∈ ks,XC e):XC (.mk 0 n mod name ks):=by
 intro E d w Q t v0 v1 v2 v3 v4 hE hG h1 h2 hn hg hv k;refine M938 ?_;intro HE Ld;obtain⟨_,_,e0,rfl,_,_,e1,rfl,_,_,e2,⟨am,cm,rfl,Eq,_⟩,_,_,e3,⟨an,cn,rfl,Be,_⟩,_,_,e4,hl,e5⟩:=hv;cases e0;cases e1;cases e2;cases e3;cases e4;obtain⟨ak,ck,rfl,hL⟩:=hl.list;refine M96 ?_;intro Ax nk hnk Ap HL HM HN;have Bw:cU (.mk 0 n mod name ks)=1+aD ks:=by simp[cU]
 rw[Bw]at hn k;simp only[qI,zC0,zE3]at hg;obtain⟨⟨⟨⟨⟨⟨_,hg2⟩,Bn⟩,Ah⟩,Az⟩,_⟩,Dz⟩:=hg;rw[<-hnk]at Bn hg2;refine M931 ?_;intro Aw Dr hg2;have hy:Below w.heap.size w (w.alloc (.cells #[.int .i64 0,.int .i64 n,.slice am mod.length cm,.slice an name.length cn,.slice ak nk ck] 147 (0,0))):=(zD2 _ _).alloc (zB0 _) _;have x1:=Blk.new w 147 [.int .i64 0,.int .i64 n,.slice am mod.length cm,.slice an name.length cn,.slice ak nk ck];simp only[List.toArray]at x1;refine M966 ?_;intro gx Au S0;have HK:Hid (∀d' w',St E d (w.alloc (.cells #[.int .i64 0,.int .i64 n,.slice am mod.length cm,.slice an name.length cn,.slice ak nk ck] 147 (0,0))) (20*(1+aD ks)) d' w'->Q (.returned (.tuple #[])) w'):=fun d' w' s=>k d' w' ⟨s.gs,s.up,(Kt.below hy).trans s.kt,s.sl,s.s4⟩;have Lv:(d.r 0).n+20*(1+aD ks)<=1000000:=hn;clear k hE Ah Az Dz Eq Be hL hl Bw Ax IH hG hn hy hnk;go_enter Tryz.func114,Tryz.ntmps114;go_upto_region 1 with fail;generalize w.alloc (.cells #[.int .i64 0,.int .i64 n,.slice am mod.length cm,.slice an name.length cn,.slice ak nk ck] 147 (0,0))=wb at *;rw[<-Au]at x1 ⊢;have HX:Hid (Blk wb gx 147 [.int .i64 0,.int .i64 n,.slice am mod.length cm,.slice an name.length cn,.slice ak nk ck]):=x1;exact QA52
theorem aT4 (n:Int)(mod name:List Int)(ks:List Ex)(IH:∀e ∈ ks,XC e):XC (.mk 1 n mod name ks):=by
 intro E d w Q t v0 v1 v2 v3 v4 hE hG h1 h2 hn hg hv k;refine M938 ?_;intro HE Ld;obtain⟨_,_,e0,rfl,_,_,e1,rfl,_,_,e2,⟨am,cm,rfl,Eq,_⟩,_,_,e3,⟨an,cn,rfl,Be,_⟩,_,_,e4,hl,e5⟩:=hv;cases e0;cases e1;cases e2;cases e3;cases e4;obtain⟨ak,ck,rfl,hL⟩:=hl.list;refine M96 ?_;intro Ax nk hnk Ap HL HM HN;have Bw:cU (.mk 1 n mod name ks)=1+aD ks:=by simp[cU]
 rw[Bw]at hn k;simp only[qI,zC0,zE3]at hg;obtain⟨⟨⟨⟨⟨⟨_,hg2⟩,Bn⟩,Ah⟩,Az⟩,_⟩,Dz⟩:=hg;rw[<-hnk]at Bn hg2;refine M931 ?_;intro Aw Dr hg2;have hy:Below w.heap.size w (w.alloc (.cells #[.int .i64 1,.int .i64 n,.slice am mod.length cm,.slice an name.length cn,.slice ak nk ck] 147 (0,0))):=(zD2 _ _).alloc (zB0 _) _;have x1:=Blk.new w 147 [.int .i64 1,.int .i64 n,.slice am mod.length cm,.slice an name.length cn,.slice ak nk ck];simp only[List.toArray]at x1;refine M966 ?_;intro gx Au S0;have HK:Hid (∀d' w',St E d (w.alloc (.cells #[.int .i64 1,.int .i64 n,.slice am mod.length cm,.slice an name.length cn,.slice ak nk ck] 147 (0,0))) (20*(1+aD ks)) d' w'->Q (.returned (.tuple #[])) w'):=fun d' w' s=>k d' w' ⟨s.gs,s.up,(Kt.below hy).trans s.kt,s.sl,s.s4⟩;have Lv:(d.r 0).n+20*(1+aD ks)<=1000000:=hn;clear k hE Ah Az Dz Eq Be hL hl Bw Ax IH hG hn hy hnk;go_enter Tryz.func114,Tryz.ntmps114;go_upto_region 1 with fail;generalize w.alloc (.cells #[.int .i64 1,.int .i64 n,.slice am mod.length cm,.slice an name.length cn,.slice ak nk ck] 147 (0,0))=wb at *;rw[<-Au]at x1 ⊢;have HX:Hid (Blk wb gx 147 [.int .i64 1,.int .i64 n,.slice am mod.length cm,.slice an name.length cn,.slice ak nk ck]):=x1;obtain⟨x0,y1,y2,y3,y4⟩:=x1.c5;clear x1 Au;go_wp2_with fail;clear x0 y1 y2 y4;clear y3;refine aLa HE.out S0 name (HN.out.below S0.bel) (fun z w1 hb1 _=>?_);have q1:=S0.on HE.out hb1;clear S0 hb1;by_cases hz:0<=z
 .
  go_wp2_with fail;refine eU HE.out q1 A0 (fun d2 w2 q2=>?_);go_wp2_with fail;exact aLk Tryz.results114 (HK.out _ _ (q2.wide A0))
 .
  go_wp2_with fail;have Tz:=uP E.m E.ms w1.drew (aL.below HE.out.rm q1.bel.drew) an name.length cn name (HN.out.below q1.bel.drew);simp only[En.ms,agg,List.toArray]at Tz;have hr:=aAe (l:=E.m.vars.map Va.name) (x:=name);rw[zB2]at hr;generalize ixI (E.m.vars.map Va.name) name=iv at *;have x3:=(q1.b HX.out).k 3;have Bj:∀wl,Below w1.heap.size w1 wl->wl.cell? ⟨E.g,0,none⟩=some E.m0/\wl.cell? ⟨E.g,1,none⟩=some E.m1/\wl.cell? ⟨E.g,2,none⟩=some E.m2/\wl.cell? ⟨E.g,3,none⟩=some E.m3/\wl.cell? ⟨gx,3,none⟩=some (.slice an name.length cn):=fun wl hb=>⟨aB (q1.gs.blk.k 0) hb,aB (q1.gs.blk.k 1) hb,aB (q1.gs.blk.k 2) hb,aB (q1.gs.blk.k 3) hb,aB x3 hb⟩;have Bq:=Bj w1.drew (zD2 _ _).drew;refine zK0 (S:=fun wl=>wl.cell? ⟨E.g,0,none⟩=some E.m0/\wl.cell? ⟨E.g,1,none⟩=some E.m1/\wl.cell? ⟨E.g,2,none⟩=some E.m2/\wl.cell? ⟨E.g,3,none⟩=some E.m3/\wl.cell? ⟨gx,3,none⟩=some (.slice an name.length cn)) A1 Bq (fun Aa=>?_);refine M950 ?_;refine M961 ?_;try simp only[nrm]
  refine ra 8 fun K hK=>?_;go_simp
  (with_reducible refine Tz.mono ?_)
  rintro e wp ⟨rfl,Uw⟩;have bp:Below w1.heap.size w1 wp:=(zD2 w1.heap.size w1).drew.trans (aA Uw);have Nn:=Bj wp bp;have qp:=q1.on HE.out bp;clear Tz Uw;go_wp2_with fail;refine hK.out _ _ (Nn) (fun Aa=>?_);clear hK K;try simp only[nrm]
  refine ra 9 fun K hK=>?_;go_simp;refine wX HE.out qp A0 (fun y wo Iw=>?_);have qo:=qp.on HE.out Iw;have hSo:=Bj wo (bp.trans (Iw.mono bp.size));clear qp;go_wp2_with fail;refine hK.out _ _ (hSo) (fun Aa=>?_);clear hK K;try simp only[nrm]
  refine ta 10 ?_;try simp only[nrm]
  refine ra 11 fun K hK=>?_;go_simp;refine eU HE.out qo A0 (fun d2 w2 q2=>?_);have hSq:w2.cell? ⟨E.g,0,none⟩=some E.m0/\w2.cell? ⟨E.g,1,none⟩=some E.m1/\w2.cell? ⟨E.g,2,none⟩=some E.m2/\w2.cell? ⟨E.g,3,none⟩=some E.m3/\w2.cell? ⟨gx,3,none⟩=some (.slice an name.length cn):=⟨q2.gs.blk.k 0,q2.gs.blk.k 1,q2.gs.blk.k 2,q2.gs.blk.k 3,(q2.b HX.out).k 3⟩
  go_wp2_with fail;refine hK.out _ _ (hSq) (fun Aa=>?_);clear hK K;try simp only[nrm]
  refine zK1 A1 ?_ _;go_wp2_with fail;exact oJ Tryz.results114 (HK.out _ _ (q2.wide A0))
theorem aT3 (n:Int)(mod name:List Int)(ks:List Ex)(IH:∀e ∈ ks,XC e):XC (.mk 2 n mod name ks):=by
 intro E d w Q t v0 v1 v2 v3 v4 hE hG h1 h2 hn hg hv k;refine M938 ?_;intro HE Ld;obtain⟨_,_,e0,rfl,_,_,e1,rfl,_,_,e2,⟨am,cm,rfl,Eq,_⟩,_,_,e3,⟨an,cn,rfl,Be,_⟩,_,_,e4,hl,e5⟩:=hv;cases e0;cases e1;cases e2;cases e3;cases e4;obtain⟨ak,ck,rfl,hL⟩:=hl.list;refine M96 ?_;intro Ax nk hnk Ap HL HM HN;have Bw:cU (.mk 2 n mod name ks)=1+aD ks:=by simp[cU]
 rw[Bw]at hn k;simp only[qI,zC0,zE3]at hg;obtain⟨⟨⟨⟨⟨⟨_,hg2⟩,Bn⟩,Ah⟩,Az⟩,_⟩,Dz⟩:=hg;rw[<-hnk]at Bn hg2;have HAR:Hid (aFt E.m d.p name=true):=by show _=true;simpa using Ah
 have Aw:Hid (0<=aD ks):=zD1 _;have Dr:Hid (fW E.m E.fs d.p ks=true):=Dz;have hg2:1<=nk:=by simp[dA]at hg2;omega
 have hy:Below w.heap.size w (w.alloc (.cells #[.int .i64 2,.int .i64 n,.slice am mod.length cm,.slice an name.length cn,.slice ak nk ck] 147 (0,0))):=(zD2 _ _).alloc (zB0 _) _;have x1:=Blk.new w 147 [.int .i64 2,.int .i64 n,.slice am mod.length cm,.slice an name.length cn,.slice ak nk ck];simp only[List.toArray]at x1;refine M966 ?_;intro gx Au S0;have HK:Hid (∀d' w',St E d (w.alloc (.cells #[.int .i64 2,.int .i64 n,.slice am mod.length cm,.slice an name.length cn,.slice ak nk ck] 147 (0,0))) (20*(1+aD ks)) d' w'->Q (.returned (.tuple #[])) w'):=fun d' w' s=>k d' w' ⟨s.gs,s.up,(Kt.below hy).trans s.kt,s.sl,s.s4⟩;have Lv:(d.r 0).n+20*(1+aD ks)<=1000000:=hn;clear k hE Ah Az Dz Eq Be hL hl Bw Ax IH hG hn hy hnk;go_enter Tryz.func114,Tryz.ntmps114;go_upto_region 1 with fail;generalize w.alloc (.cells #[.int .i64 2,.int .i64 n,.slice am mod.length cm,.slice an name.length cn,.slice ak nk ck] 147 (0,0))=wb at *;rw[<-Au]at x1 ⊢;have HX:Hid (Blk wb gx 147 [.int .i64 2,.int .i64 n,.slice am mod.length cm,.slice an name.length cn,.slice ak nk ck]):=x1;obtain⟨x0,y1,y2,y3,y4⟩:=x1.c5;clear x1 Au;obtain⟨e,he⟩:∃e,ks[0]?=some e:=⟨_,zA0 A36⟩
 have Aw:Hid (cU e<=aD ks):=nd1 he;obtain⟨be,oe,s0,s1,s2,s3,s4,rfl,Gu,r0,r1,r2,r3,r4⟩:=mC HL.out he;refine M970 ?_;intro Md r0 r1 r2 r3 r4;simp only[Nat.zero_mul,zG1]at r0 r1 r2 r3 r4;have He:Hid (ks[0]?=some e):=he;clear he Gu;go_wp2_with fail;refine nZ (Ld.out e (zA3 He.out)) HE.out S0 A10 (dI Dr.out e (zA3 He.out)) Md.out (fun d1 w1 q1=>?_);clear S0 r0 r1 r2 r3 r4;clear x0 y1 y2 y3 y4;have y3:=(q1.b HX.out).k 3;go_wp2_with fail;clear y3;refine aA9 HE.out q1 A10 name (HN.out.below q1.bel) (by rw[q1.up.p.1];exact HAR.out) _ (fun d2 w2 q2=>?_);clear q1;go_wp2_with fail;refine eU HE.out q2 A10 (fun d3 w3 q3=>?_);clear q2;go_wp2_with fail;refine eU HE.out q3 A10 (fun d4 w4 q4=>?_);clear q3;go_wp2_with fail;exact oJ Tryz.results114 (HK.out _ _ (q4.wide A10))
theorem aT2 (n:Int)(mod name:List Int)(ks:List Ex)(IH:∀e ∈ ks,XC e):XC (.mk 3 n mod name ks):=by
 intro E d w Q t v0 v1 v2 v3 v4 hE hG h1 h2 hn hg hv k;refine M938 ?_;intro HE Ld;obtain⟨_,_,e0,rfl,_,_,e1,rfl,_,_,e2,⟨am,cm,rfl,Eq,_⟩,_,_,e3,⟨an,cn,rfl,Be,_⟩,_,_,e4,hl,e5⟩:=hv;cases e0;cases e1;cases e2;cases e3;cases e4;obtain⟨ak,ck,rfl,hL⟩:=hl.list;refine M96 ?_;intro Ax nk hnk Ap HL HM HN;have Bw:cU (.mk 3 n mod name ks)=1+aD ks:=by simp[cU]
 rw[Bw]at hn k;simp only[qI,zC0,zE3]at hg;obtain⟨⟨⟨⟨⟨⟨_,hg2⟩,Bn⟩,Ah⟩,Az⟩,_⟩,Dz⟩:=hg;rw[<-hnk]at Bn hg2;have Aw:Hid (0<=aD ks):=zD1 _;have Dr:Hid (fW E.m E.fs d.p ks=true):=Dz;have hg2:2<=nk:=by simp[dA]at hg2;omega
 have hy:Below w.heap.size w (w.alloc (.cells #[.int .i64 3,.int .i64 n,.slice am mod.length cm,.slice an name.length cn,.slice ak nk ck] 147 (0,0))):=(zD2 _ _).alloc (zB0 _) _;have x1:=Blk.new w 147 [.int .i64 3,.int .i64 n,.slice am mod.length cm,.slice an name.length cn,.slice ak nk ck];simp only[List.toArray]at x1;refine M966 ?_;intro gx Au S0;have HK:Hid (∀d' w',St E d (w.alloc (.cells #[.int .i64 3,.int .i64 n,.slice am mod.length cm,.slice an name.length cn,.slice ak nk ck] 147 (0,0))) (20*(1+aD ks)) d' w'->Q (.returned (.tuple #[])) w'):=fun d' w' s=>k d' w' ⟨s.gs,s.up,(Kt.below hy).trans s.kt,s.sl,s.s4⟩;have Lv:(d.r 0).n+20*(1+aD ks)<=1000000:=hn;clear k hE Ah Az Dz Eq Be hL hl Bw Ax IH hG hn hy hnk;go_enter Tryz.func114,Tryz.ntmps114;go_upto_region 1 with fail;generalize w.alloc (.cells #[.int .i64 3,.int .i64 n,.slice am mod.length cm,.slice an name.length cn,.slice ak nk ck] 147 (0,0))=wb at *;rw[<-Au]at x1 ⊢;have HX:Hid (Blk wb gx 147 [.int .i64 3,.int .i64 n,.slice am mod.length cm,.slice an name.length cn,.slice ak nk ck]):=x1;obtain⟨x0,y1,y2,y3,y4⟩:=x1.c5;clear x1 Au;obtain⟨e,he⟩:∃e,ks[0]?=some e:=⟨_,zA0 A36⟩
 obtain⟨f,hf⟩:∃e,ks[1]?=some e:=⟨_,zA0 A36⟩
 have Aw:Hid (cU e+cU f<=aD ks):=nd2 he hf;obtain⟨be,oe,s0,s1,s2,s3,s4,rfl,Gu,r0,r1,r2,r3,r4⟩:=mC HL.out he;refine M970 ?_;intro Md r0 r1 r2 r3 r4;simp only[Nat.zero_mul,zG1]at r0 r1 r2 r3 r4;have He:Hid (ks[0]?=some e):=he;have Hf:Hid (ks[1]?=some f):=hf;clear he hf Gu;go_wp2_with fail;refine nZ (Ld.out e (zA3 He.out)) HE.out S0 A10 (dI Dr.out e (zA3 He.out)) Md.out (fun d1 w1 q1=>?_);clear S0 r0 r1 r2 r3 r4;clear x0 y1 y2 y3 y4;go_wp2_with fail;refine wH HE.out q1 (fun x2 d2 w2 q2=>?_);clear q1;go_wp2_with fail;refine eU HE.out q2 A10 (fun d3 w3 q3=>?_);clear q2;obtain⟨bf,of,s0,s1,s2,s3,s4,e9,Xg,r0,r1,r2,r3,r4⟩:=mC HL.out Hf.out;cases e9;have HVf:Hid (aL E.w0 f.fl [s0,s1,s2,s3,s4]):=Xg;have r0:=aB r0 q3.bel;have r1:=aB r1 q3.bel;have r2:=aB r2 q3.bel;have r3:=aB r3 q3.bel;have r4:=aB r4 q3.bel;simp only[Nat.one_mul]at r0 r1 r2 r3 r4;clear Xg;have y4:=(q3.b HX.out).k 4;go_wp2_with fail;refine nZ (Ld.out f (zA3 Hf.out)) HE.out q3 A10 (dI Dr.out f (zA3 Hf.out)) HVf.out (fun d4 w4 q4=>?_);clear q3 r0 r1 r2 r3 r4;clear y4;go_wp2_with fail;refine wH HE.out q4 (fun x5 d5 w5 q5=>?_);clear q4;go_wp2_with fail;refine eU HE.out q5 A10 (fun d6 w6 q6=>?_);clear q5;have y1:=(q6.b HX.out).k 1;go_wp2_with fail;clear y1;refine eU HE.out q6 A10 (fun d7 w7 q7=>?_);clear q6;go_wp2_with fail;exact oJ Tryz.results114 (HK.out _ _ (q7.wide A10))
theorem aT1 (n:Int)(mod name:List Int)(ks:List Ex)(IH:∀e ∈ ks,XC e):XC (.mk 4 n mod name ks):=by
 intro E d w Q t v0 v1 v2 v3 v4 hE hG h1 h2 hn hg hv k;refine M938 ?_;intro HE Ld;obtain⟨_,_,e0,rfl,_,_,e1,rfl,_,_,e2,⟨am,cm,rfl,Eq,_⟩,_,_,e3,⟨an,cn,rfl,Be,_⟩,_,_,e4,hl,e5⟩:=hv;cases e0;cases e1;cases e2;cases e3;cases e4;obtain⟨ak,ck,rfl,hL⟩:=hl.list;refine M96 ?_;intro Ax nk hnk Ap HL HM HN;have Bw:cU (.mk 4 n mod name ks)=1+aD ks:=by simp[cU]
 rw[Bw]at hn k;simp only[qI,zC0,zE3]at hg;obtain⟨⟨⟨⟨⟨⟨_,hg2⟩,Bn⟩,Ah⟩,Az⟩,_⟩,Dz⟩:=hg;rw[<-hnk]at Bn hg2;refine M931 ?_;intro Aw Dr hg2;have hy:Below w.heap.size w (w.alloc (.cells #[.int .i64 4,.int .i64 n,.slice am mod.length cm,.slice an name.length cn,.slice ak nk ck] 147 (0,0))):=(zD2 _ _).alloc (zB0 _) _;have x1:=Blk.new w 147 [.int .i64 4,.int .i64 n,.slice am mod.length cm,.slice an name.length cn,.slice ak nk ck];simp only[List.toArray]at x1;refine M966 ?_;intro gx Au S0;have HK:Hid (∀d' w',St E d (w.alloc (.cells #[.int .i64 4,.int .i64 n,.slice am mod.length cm,.slice an name.length cn,.slice ak nk ck] 147 (0,0))) (20*(1+aD ks)) d' w'->Q (.returned (.tuple #[])) w'):=fun d' w' s=>k d' w' ⟨s.gs,s.up,(Kt.below hy).trans s.kt,s.sl,s.s4⟩;have Lv:(d.r 0).n+20*(1+aD ks)<=1000000:=hn;clear k hE Ah Az Dz Eq Be hL hl Bw Ax IH hG hn hy hnk;go_enter Tryz.func114,Tryz.ntmps114;go_upto_region 1 with fail;generalize w.alloc (.cells #[.int .i64 4,.int .i64 n,.slice am mod.length cm,.slice an name.length cn,.slice ak nk ck] 147 (0,0))=wb at *;rw[<-Au]at x1 ⊢;have HX:Hid (Blk wb gx 147 [.int .i64 4,.int .i64 n,.slice am mod.length cm,.slice an name.length cn,.slice ak nk ck]):=x1;exact QA52
theorem aT0 (n:Int)(mod name:List Int)(ks:List Ex)(IH:∀e ∈ ks,XC e):XC (.mk 5 n mod name ks):=by
 intro E d w Q t v0 v1 v2 v3 v4 hE hG h1 h2 hn hg hv k;refine M938 ?_;intro HE Ld;obtain⟨_,_,e0,rfl,_,_,e1,rfl,_,_,e2,⟨am,cm,rfl,Eq,_⟩,_,_,e3,⟨an,cn,rfl,Be,_⟩,_,_,e4,hl,e5⟩:=hv;cases e0;cases e1;cases e2;cases e3;cases e4;obtain⟨ak,ck,rfl,hL⟩:=hl.list;refine M96 ?_;intro Ax nk hnk Ap HL HM HN;have Bw:cU (.mk 5 n mod name ks)=1+aD ks:=by simp[cU]
 rw[Bw]at hn k;simp only[qI,zC0,zE3]at hg;obtain⟨⟨⟨⟨⟨⟨_,hg2⟩,Bn⟩,Ah⟩,Az⟩,_⟩,Dz⟩:=hg;rw[<-hnk]at Bn hg2;have HAR:Hid (aFt E.m d.p name=true):=by show _=true;simpa using Ah
 refine M931 ?_;intro Aw Dr hg2;have hy:Below w.heap.size w (w.alloc (.cells #[.int .i64 5,.int .i64 n,.slice am mod.length cm,.slice an name.length cn,.slice ak nk ck] 147 (0,0))):=(zD2 _ _).alloc (zB0 _) _;have x1:=Blk.new w 147 [.int .i64 5,.int .i64 n,.slice am mod.length cm,.slice an name.length cn,.slice ak nk ck];simp only[List.toArray]at x1;refine M966 ?_;intro gx Au S0;have HK:Hid (∀d' w',St E d (w.alloc (.cells #[.int .i64 5,.int .i64 n,.slice am mod.length cm,.slice an name.length cn,.slice ak nk ck] 147 (0,0))) (20*(1+aD ks)) d' w'->Q (.returned (.tuple #[])) w'):=fun d' w' s=>k d' w' ⟨s.gs,s.up,(Kt.below hy).trans s.kt,s.sl,s.s4⟩;have Lv:(d.r 0).n+20*(1+aD ks)<=1000000:=hn;clear k hE Ah Az Dz Eq Be hL hl Bw Ax IH hG hn hy hnk;go_enter Tryz.func114,Tryz.ntmps114;go_upto_region 1 with fail;generalize w.alloc (.cells #[.int .i64 5,.int .i64 n,.slice am mod.length cm,.slice an name.length cn,.slice ak nk ck] 147 (0,0))=wb at *;rw[<-Au]at x1 ⊢;have HX:Hid (Blk wb gx 147 [.int .i64 5,.int .i64 n,.slice am mod.length cm,.slice an name.length cn,.slice ak nk ck]):=x1;obtain⟨x0,y1,y2,y3,y4⟩:=x1.c5;clear x1 Au;go_wp2_with fail;clear x0 y1 y2 y3 y4;refine aA9 HE.out S0 A10 name (HN.out.below S0.bel) (by rw[S0.up.p.1];exact HAR.out) _ (fun d1 w1 q1=>?_);clear S0;go_wp2_with fail;refine eU HE.out q1 A10 (fun d2 w2 q2=>?_);clear q1;go_wp2_with fail;exact oJ Tryz.results114 (HK.out _ _ (q2.wide A10))
theorem aTz (n:Int)(mod name:List Int)(ks:List Ex)(IH:∀e ∈ ks,XC e):XC (.mk 6 n mod name ks):=by
 intro E d w Q t v0 v1 v2 v3 v4 hE hG h1 h2 hn hg hv k;have HC:∀(d1:GD) (wb:World),GS E d1 wb->d1.sl=0->d1.s4=0->(d1.r 0).n+20*cU (.mk 6 n mod name ks)<=1000000->qI E.m E.fs d1.p (.mk 6 n mod name ks)=true->∀Q:Ending->World->Prop,(∀d' w',St E d1 wb (20*cU (.mk 6 n mod name ks)) d' w'->Q (.returned (.tuple #[])) w')->Calls Tryz.prog 122 #[.pointer (some ⟨E.g,0,none⟩),.agg #[v0,v1,v2,v3,v4],.int .i64 t] wb Q:=fun d1 wb a1 a2 a3 a4 a5 Q a6=>aUg n mod name ks IH t v0 v1 v2 v3 v4 hE a1 a2 a3 a4 a5 hv a6;have HGG:Hid (qI E.m E.fs d.p (.mk 6 n mod name ks)=true):=hg;have Du:Hid (cU (.mk 6 n mod name ks)=1+aD ks):=by show _=_;simp[cU]
 refine M938 ?_;intro HE Ld;obtain⟨_,_,e0,rfl,_,_,e1,rfl,_,_,e2,⟨am,cm,rfl,Eq,_⟩,_,_,e3,⟨an,cn,rfl,Be,_⟩,_,_,e4,hl,e5⟩:=hv;cases e0;cases e1;cases e2;cases e3;cases e4;obtain⟨ak,ck,rfl,hL⟩:=hl.list;have Ax:(exs ks).length=ks.length:=by rw[aY,zB2]
 rw[Ax];obtain⟨nk,hnk⟩:=zx (ks.length);have Ap:Hid (ks.length=nk):=hnk.symm;rw[<-hnk];rw[Ax,<-hnk]at HC;have HL:Hid (aX E.w0 ak ck 5 (exs ks)):=hL;have HM:Hid (aV E.w0 am mod.length mod):=Eq;have HN:Hid (aV E.w0 an name.length name):=Be;have Bw:cU (.mk 6 n mod name ks)=1+aD ks:=by simp[cU]
 rw[Bw]at hn k;simp only[qI,zC0,zE3]at hg;obtain⟨⟨⟨⟨⟨⟨_,hg2⟩,Bn⟩,Ah⟩,Az⟩,_⟩,Dz⟩:=hg;rw[<-hnk]at Bn hg2;refine M931 ?_;intro Aw Dr hg2;refine M954 ?_;intro hy x1;simp only[List.toArray]at x1;refine M966 ?_;intro gx Au S0;refine M951 ?_;intro HK Lv;clear k hE Ah Az Dz Eq Be hL hl Bw Ax IH hG hn hy hnk;go_enter Tryz.func114,Tryz.ntmps114;go_upto_region 1 with fail;generalize w.alloc (.cells #[.int .i64 6,.int .i64 n,.slice am mod.length cm,.slice an name.length cn,.slice ak nk ck] 147 (0,0))=wb at *;rw[<-Au]at x1 ⊢;have HX:Hid (Blk wb gx 147 [.int .i64 6,.int .i64 n,.slice am mod.length cm,.slice an name.length cn,.slice ak nk ck]):=x1;obtain⟨x0,y1,y2,y3,y4⟩:=x1.c5;clear x1 Au;go_wp2_with fail;clear x0 y1 y2 y3 y4;refine HC d wb S0.gs h1 h2 (by rw[Du.out];exact Lv) HGG.out _ (fun d1 w1 q1=>?_);go_wp2_with fail;rw[Du.out]at q1;exact oJ Tryz.results114 (HK.out _ _ (q1.wide A10))
theorem aTy (n:Int)(mod name:List Int)(ks:List Ex)(IH:∀e ∈ ks,XC e):XC (.mk 7 n mod name ks):=by
 intro E d w Q t v0 v1 v2 v3 v4 hE hG h1 h2 hn hg hv k;refine M938 ?_;intro HE Ld;obtain⟨_,_,e0,rfl,_,_,e1,rfl,_,_,e2,⟨am,cm,rfl,Eq,_⟩,_,_,e3,⟨an,cn,rfl,Be,_⟩,_,_,e4,hl,e5⟩:=hv;cases e0;cases e1;cases e2;cases e3;cases e4;obtain⟨ak,ck,rfl,hL⟩:=hl.list;refine M96 ?_;intro Ax nk hnk Ap HL HM HN;have Bw:cU (.mk 7 n mod name ks)=1+aD ks:=by simp[cU]
 rw[Bw]at hn k;simp only[qI,zC0,zE3]at hg;obtain⟨⟨⟨⟨⟨⟨_,hg2⟩,Bn⟩,Ah⟩,Az⟩,_⟩,Dz⟩:=hg;rw[<-hnk]at Bn hg2;have HAR:Hid (aFt E.m d.p name=true):=by show _=true;simpa using Ah
 refine M931 ?_;intro Aw Dr hg2;have hy:Below w.heap.size w (w.alloc (.cells #[.int .i64 7,.int .i64 n,.slice am mod.length cm,.slice an name.length cn,.slice ak nk ck] 147 (0,0))):=(zD2 _ _).alloc (zB0 _) _;have x1:=Blk.new w 147 [.int .i64 7,.int .i64 n,.slice am mod.length cm,.slice an name.length cn,.slice ak nk ck];simp only[List.toArray]at x1;refine M966 ?_;intro gx Au S0;have HK:Hid (∀d' w',St E d (w.alloc (.cells #[.int .i64 7,.int .i64 n,.slice am mod.length cm,.slice an name.length cn,.slice ak nk ck] 147 (0,0))) (20*(1+aD ks)) d' w'->Q (.returned (.tuple #[])) w'):=fun d' w' s=>k d' w' ⟨s.gs,s.up,(Kt.below hy).trans s.kt,s.sl,s.s4⟩;have Lv:(d.r 0).n+20*(1+aD ks)<=1000000:=hn;clear k hE Ah Az Dz Eq Be hL hl Bw Ax IH hG hn hy hnk;go_enter Tryz.func114,Tryz.ntmps114;go_upto_region 1 with fail;generalize w.alloc (.cells #[.int .i64 7,.int .i64 n,.slice am mod.length cm,.slice an name.length cn,.slice ak nk ck] 147 (0,0))=wb at *;rw[<-Au]at x1 ⊢;have HX:Hid (Blk wb gx 147 [.int .i64 7,.int .i64 n,.slice am mod.length cm,.slice an name.length cn,.slice ak nk ck]):=x1;obtain⟨x0,y1,y2,y3,y4⟩:=x1.c5;clear x1 Au;go_wp2_with fail;clear x0 y1 y2 y3 y4;refine aA9 HE.out S0 A10 name (HN.out.below S0.bel) (by rw[S0.up.p.1];exact HAR.out) _ (fun d1 w1 q1=>?_);clear S0;go_wp2_with fail;exact oJ Tryz.results114 (HK.out _ _ (q1.wide A10))
theorem aTx (k n:Int)(mod name:List Int)(ks:List Ex)(IH:∀e ∈ ks,XC e):XC (.mk k n mod name ks):=fun E d w Q t v0 v1 v2 v3 v4 hE hG h1 h2 hn hg hv kk=>by
 have hk:0<=k/\k<=7:=by
  have hg':=hg;simp only[qI,zC0]at hg';simpa [inB] using hg'.1.1.1.1.1.1
 have:k=0\/k=1\/k=2\/k=3\/k=4\/k=5\/k=6\/k=7:=A0;rcases this with rfl|rfl|rfl|rfl|rfl|rfl|rfl|rfl
 .
  exact aT5 n mod name ks IH E d w Q t v0 v1 v2 v3 v4 hE hG h1 h2 hn hg hv kk
 .
  exact aT4 n mod name ks IH E d w Q t v0 v1 v2 v3 v4 hE hG h1 h2 hn hg hv kk
 .
  exact aT3 n mod name ks IH E d w Q t v0 v1 v2 v3 v4 hE hG h1 h2 hn hg hv kk
 .
  exact aT2 n mod name ks IH E d w Q t v0 v1 v2 v3 v4 hE hG h1 h2 hn hg hv kk
 .
  exact aT1 n mod name ks IH E d w Q t v0 v1 v2 v3 v4 hE hG h1 h2 hn hg hv kk
 .
  exact aT0 n mod name ks IH E d w Q t v0 v1 v2 v3 v4 hE hG h1 h2 hn hg hv kk
 .
  exact aTz n mod name ks IH E d w Q t v0 v1 v2 v3 v4 hE hG h1 h2 hn hg hv kk
 .
  exact aTy n mod name ks IH E d w Q t v0 v1 v2 v3 v4 hE hG h1 h2 hn hg hv kk
mutual
theorem sR:∀e:Ex,XC e
 | .mk k n mod name ks=>aTx k n mod name ks (aKh ks)
theorem aKh:∀l:List Ex,∀e ∈ l,XC e
 | [],e,h=>by cases h
 | x :: l,e,h=>(zG3.1 h).elim (fun q=>q ▸ sR x) (aKh l e)
end
end Cp
end Go.Proofs.YtcbhdhmhidpdgaaGreat

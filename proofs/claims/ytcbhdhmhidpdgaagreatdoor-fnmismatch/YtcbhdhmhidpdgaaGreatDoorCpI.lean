import Derived.Test.YtcbhdhmhidpdgaaGreatDoorPackH
namespace Go.Proofs.YtcbhdhmhidpdgaaGreatDoor
set_option maxHeartbeats 40000000
open Go.RowKit
set_option linter.unusedVariables false
set_option linter.unusedSimpArgs false
set_option maxRecDepth 100000
theorem A7{p:Prop}(h:p:=by have:=Ax.out;omega):p:=h
theorem A32{p:Prop}(h:p:=by rw[Am.out];omega):p:=h
theorem QA53{p:Prop}(h:p:=by
 obtain⟨x0,y1,y2,y3,y4⟩:=x1.c5
 clear x1 Ar
 go_wp2_with fail
 clear x0 y1 y2 y3 y4
 refine eO HE.out S0 A7 (fun d1 w1 q1=>?_)
 clear S0
 go_wp2_with fail
 exact nY Tryz.results173 (HK.out _ _ (q1.wide A7))):p:=h
namespace Cp
theorem M969{p q:Prop}(k:q)(h:Kx q->p:=by
 intro kQz
 have Lu:Hid (aL E.w0 e.fl [s0,s1,s2,s3,s4]):=Gr
 have r0:=aB r0 S0.bel
 have r1:=aB r1 S0.bel
 have r2:=aB r2 S0.bel
 have r3:=aB r3 S0.bel
 have r4:=aB r4 S0.bel
 revert r4;revert r3;revert r2;revert r1;revert r0;revert Lu
 exact kQz.o):p:=h ⟨k⟩
theorem M931{p q:Prop}(k:q)(h:Kx q->p:=by
 intro kQz
 have Ax:Hid (0<=aD ks):=zD1 _
 have Do:Hid (fJ E.m E.fs d.p ks=true):=Dx
 have hg2:0<=nk:=by simp[cX]at hg2;omega
 revert hg2;revert Do;revert Ax
 exact kQz.o):p:=h ⟨k⟩
theorem M960{p q:Prop}(k:q)(h:Kx q->p:=by
 intro kQz
 refine ta 4 ?_
 refine ta 5 ?_
 try simp only[nrm]
 refine ta 6 ?_
 refine ta 7 ?_
 exact kQz.o):p:=h ⟨k⟩
theorem nd1 {ks:List Ex}{e:Ex}(h:ks[0]?=some e):cQ e<=aD ks:=by
 cases ks with
 | nil=>cases h| cons x l=>cases h;simp[aD]
theorem nd2 {ks:List Ex}{e f:Ex}(h:ks[0]?=some e)(h':ks[1]?=some f):cQ e+cQ f<=aD ks:=by
 match ks,h,h' with
 | [],h,_=>cases h| [_],_,h'=>cases h'| x :: y :: l,h,h'=>cases h;cases h';simp[aD] <;> omega
theorem aS3 (n:Int)(mod name:List Int)(ks:List Ex)(IH:∀e ∈ ks,XC e):XC (.mk 0 n mod name ks):=by
 intro E d w Q t v0 v1 v2 v3 v4 hE hG h1 h2 hn hg hv k;refine M938 ?_;intro HE Ks;obtain⟨_,_,e0,rfl,_,_,e1,rfl,_,_,e2,⟨am,cm,rfl,Es,_⟩,_,_,e3,⟨an,cn,rfl,Be,_⟩,_,_,e4,hl,e5⟩:=hv;cases e0;cases e1;cases e2;cases e3;cases e4;obtain⟨ak,ck,rfl,hL⟩:=hl.list;refine M96 ?_;intro Ay nk hnk Am HL HM HN;have hnd:cQ (.mk 0 n mod name ks)=1+aD ks:=by simp[cQ]
 rw[hnd]at hn k;simp only[qA,zC0,zE3]at hg;obtain⟨⟨⟨⟨⟨⟨_,hg2⟩,Bm⟩,Af⟩,Az⟩,_⟩,Dx⟩:=hg;rw[<-hnk]at Bm hg2;refine M931 ?_;intro Ax Do hg2;have hy:Below w.heap.size w (w.alloc (.cells #[.int .i64 0,.int .i64 n,.slice am mod.length cm,.slice an name.length cn,.slice ak nk ck] 176 (0,0))):=(zD2 _ _).alloc (zB0 _) _;have x1:=Blk.new w 176 [.int .i64 0,.int .i64 n,.slice am mod.length cm,.slice an name.length cn,.slice ak nk ck];simp only[List.toArray]at x1;refine M965 ?_;intro gx Ar S0;have HK:Hid (∀d' w',St E d (w.alloc (.cells #[.int .i64 0,.int .i64 n,.slice am mod.length cm,.slice an name.length cn,.slice ak nk ck] 176 (0,0))) (20*(1+aD ks)) d' w'->Q (.returned (.tuple #[])) w'):=fun d' w' s=>k d' w' ⟨s.gs,s.up,(Kt.below hy).trans s.kt,s.sl,s.s4⟩;have Li:(d.r 0).n+20*(1+aD ks)<=1000000:=hn;clear k hE Af Az Dx Es Be hL hl hnd Ay IH hG hn hy hnk;go_enter Tryz.func173,Tryz.ntmps173;go_upto_region 1 with fail;generalize w.alloc (.cells #[.int .i64 0,.int .i64 n,.slice am mod.length cm,.slice an name.length cn,.slice ak nk ck] 176 (0,0))=wb at *;rw[<-Ar]at x1 ⊢;have HX:Hid (Blk wb gx 176 [.int .i64 0,.int .i64 n,.slice am mod.length cm,.slice an name.length cn,.slice ak nk ck]):=x1;exact QA53
theorem aS2 (n:Int)(mod name:List Int)(ks:List Ex)(IH:∀e ∈ ks,XC e):XC (.mk 1 n mod name ks):=by
 intro E d w Q t v0 v1 v2 v3 v4 hE hG h1 h2 hn hg hv k;refine M938 ?_;intro HE Ks;obtain⟨_,_,e0,rfl,_,_,e1,rfl,_,_,e2,⟨am,cm,rfl,Es,_⟩,_,_,e3,⟨an,cn,rfl,Be,_⟩,_,_,e4,hl,e5⟩:=hv;cases e0;cases e1;cases e2;cases e3;cases e4;obtain⟨ak,ck,rfl,hL⟩:=hl.list;refine M96 ?_;intro Ay nk hnk Am HL HM HN;have hnd:cQ (.mk 1 n mod name ks)=1+aD ks:=by simp[cQ]
 rw[hnd]at hn k;simp only[qA,zC0,zE3]at hg;obtain⟨⟨⟨⟨⟨⟨_,hg2⟩,Bm⟩,Af⟩,Az⟩,_⟩,Dx⟩:=hg;rw[<-hnk]at Bm hg2;refine M931 ?_;intro Ax Do hg2;have hy:Below w.heap.size w (w.alloc (.cells #[.int .i64 1,.int .i64 n,.slice am mod.length cm,.slice an name.length cn,.slice ak nk ck] 176 (0,0))):=(zD2 _ _).alloc (zB0 _) _;have x1:=Blk.new w 176 [.int .i64 1,.int .i64 n,.slice am mod.length cm,.slice an name.length cn,.slice ak nk ck];simp only[List.toArray]at x1;refine M965 ?_;intro gx Ar S0;have HK:Hid (∀d' w',St E d (w.alloc (.cells #[.int .i64 1,.int .i64 n,.slice am mod.length cm,.slice an name.length cn,.slice ak nk ck] 176 (0,0))) (20*(1+aD ks)) d' w'->Q (.returned (.tuple #[])) w'):=fun d' w' s=>k d' w' ⟨s.gs,s.up,(Kt.below hy).trans s.kt,s.sl,s.s4⟩;have Li:(d.r 0).n+20*(1+aD ks)<=1000000:=hn;clear k hE Af Az Dx Es Be hL hl hnd Ay IH hG hn hy hnk;go_enter Tryz.func173,Tryz.ntmps173;go_upto_region 1 with fail;generalize w.alloc (.cells #[.int .i64 1,.int .i64 n,.slice am mod.length cm,.slice an name.length cn,.slice ak nk ck] 176 (0,0))=wb at *;rw[<-Ar]at x1 ⊢;have HX:Hid (Blk wb gx 176 [.int .i64 1,.int .i64 n,.slice am mod.length cm,.slice an name.length cn,.slice ak nk ck]):=x1;obtain⟨x0,y1,y2,y3,y4⟩:=x1.c5;clear x1 Ar;go_wp2_with fail;clear x0 y1 y2 y4;clear y3;refine aKh HE.out S0 name (HN.out.below S0.bel) (fun z w1 hb1 _=>?_);have q1:=S0.on HE.out hb1;clear S0 hb1;by_cases hz:0<=z
 .
  go_wp2_with fail;refine eO HE.out q1 A0 (fun d2 w2 q2=>?_);go_wp2_with fail;exact aKr Tryz.results173 (HK.out _ _ (q2.wide A0))
 .
  go_wp2_with fail;have Tn:=uF E.m E.ms w1.drew (aL.below HE.out.rm q1.bel.drew) an name.length cn name (HN.out.below q1.bel.drew);simp only[En.ms,agg,List.toArray]at Tn;have hr:=zQ (l:=E.m.vars.map Va.name) (x:=name);rw[zB2]at hr;generalize ixI (E.m.vars.map Va.name) name=iv at *;have x3:=(q1.b HX.out).k 3;have Bi:∀wl,Below w1.heap.size w1 wl->wl.cell? ⟨E.g,0,none⟩=some E.m0/\wl.cell? ⟨E.g,1,none⟩=some E.m1/\wl.cell? ⟨E.g,2,none⟩=some E.m2/\wl.cell? ⟨E.g,3,none⟩=some E.m3/\wl.cell? ⟨gx,3,none⟩=some (.slice an name.length cn):=fun wl hb=>⟨aB (q1.gs.blk.k 0) hb,aB (q1.gs.blk.k 1) hb,aB (q1.gs.blk.k 2) hb,aB (q1.gs.blk.k 3) hb,aB x3 hb⟩;have Br:=Bi w1.drew (zD2 _ _).drew;refine zJ3 (S:=fun wl=>wl.cell? ⟨E.g,0,none⟩=some E.m0/\wl.cell? ⟨E.g,1,none⟩=some E.m1/\wl.cell? ⟨E.g,2,none⟩=some E.m2/\wl.cell? ⟨E.g,3,none⟩=some E.m3/\wl.cell? ⟨gx,3,none⟩=some (.slice an name.length cn)) A1 Br (fun Aa=>?_);refine M949 ?_;refine M960 ?_;try simp only[nrm]
  refine ra 8 fun K hK=>?_;go_simp
  (with_reducible refine Tn.mono ?_)
  rintro e wp ⟨rfl,Uk⟩;have bp:Below w1.heap.size w1 wp:=(zD2 w1.heap.size w1).drew.trans (aA Uk);have Nd:=Bi wp bp;have qp:=q1.on HE.out bp;clear Tn Uk;go_wp2_with fail;refine hK.out _ _ (Nd) (fun Aa=>?_);clear hK K;try simp only[nrm]
  refine ra 9 fun K hK=>?_;go_simp;refine wG HE.out qp A0 (fun y wo Jh=>?_);have qo:=qp.on HE.out Jh;have hSo:=Bi wo (bp.trans (Jh.mono bp.size));clear qp;go_wp2_with fail;refine hK.out _ _ (hSo) (fun Aa=>?_);clear hK K;try simp only[nrm]
  refine ta 10 ?_;try simp only[nrm]
  refine ra 11 fun K hK=>?_;go_simp;refine eO HE.out qo A0 (fun d2 w2 q2=>?_);have hSq:w2.cell? ⟨E.g,0,none⟩=some E.m0/\w2.cell? ⟨E.g,1,none⟩=some E.m1/\w2.cell? ⟨E.g,2,none⟩=some E.m2/\w2.cell? ⟨E.g,3,none⟩=some E.m3/\w2.cell? ⟨gx,3,none⟩=some (.slice an name.length cn):=⟨q2.gs.blk.k 0,q2.gs.blk.k 1,q2.gs.blk.k 2,q2.gs.blk.k 3,(q2.b HX.out).k 3⟩
  go_wp2_with fail;refine hK.out _ _ (hSq) (fun Aa=>?_);clear hK K;try simp only[nrm]
  refine zK0 A1 ?_ _;go_wp2_with fail;exact nY Tryz.results173 (HK.out _ _ (q2.wide A0))
theorem aS1 (n:Int)(mod name:List Int)(ks:List Ex)(IH:∀e ∈ ks,XC e):XC (.mk 2 n mod name ks):=by
 intro E d w Q t v0 v1 v2 v3 v4 hE hG h1 h2 hn hg hv k;refine M938 ?_;intro HE Ks;obtain⟨_,_,e0,rfl,_,_,e1,rfl,_,_,e2,⟨am,cm,rfl,Es,_⟩,_,_,e3,⟨an,cn,rfl,Be,_⟩,_,_,e4,hl,e5⟩:=hv;cases e0;cases e1;cases e2;cases e3;cases e4;obtain⟨ak,ck,rfl,hL⟩:=hl.list;refine M96 ?_;intro Ay nk hnk Am HL HM HN;have hnd:cQ (.mk 2 n mod name ks)=1+aD ks:=by simp[cQ]
 rw[hnd]at hn k;simp only[qA,zC0,zE3]at hg;obtain⟨⟨⟨⟨⟨⟨_,hg2⟩,Bm⟩,Af⟩,Az⟩,_⟩,Dx⟩:=hg;rw[<-hnk]at Bm hg2;have HAR:Hid (aFc E.m d.p name=true):=by show _=true;simpa using Af
 have Ax:Hid (0<=aD ks):=zD1 _;have Do:Hid (fJ E.m E.fs d.p ks=true):=Dx;have hg2:1<=nk:=by simp[cX]at hg2;omega
 have hy:Below w.heap.size w (w.alloc (.cells #[.int .i64 2,.int .i64 n,.slice am mod.length cm,.slice an name.length cn,.slice ak nk ck] 176 (0,0))):=(zD2 _ _).alloc (zB0 _) _;have x1:=Blk.new w 176 [.int .i64 2,.int .i64 n,.slice am mod.length cm,.slice an name.length cn,.slice ak nk ck];simp only[List.toArray]at x1;refine M965 ?_;intro gx Ar S0;have HK:Hid (∀d' w',St E d (w.alloc (.cells #[.int .i64 2,.int .i64 n,.slice am mod.length cm,.slice an name.length cn,.slice ak nk ck] 176 (0,0))) (20*(1+aD ks)) d' w'->Q (.returned (.tuple #[])) w'):=fun d' w' s=>k d' w' ⟨s.gs,s.up,(Kt.below hy).trans s.kt,s.sl,s.s4⟩;have Li:(d.r 0).n+20*(1+aD ks)<=1000000:=hn;clear k hE Af Az Dx Es Be hL hl hnd Ay IH hG hn hy hnk;go_enter Tryz.func173,Tryz.ntmps173;go_upto_region 1 with fail;generalize w.alloc (.cells #[.int .i64 2,.int .i64 n,.slice am mod.length cm,.slice an name.length cn,.slice ak nk ck] 176 (0,0))=wb at *;rw[<-Ar]at x1 ⊢;have HX:Hid (Blk wb gx 176 [.int .i64 2,.int .i64 n,.slice am mod.length cm,.slice an name.length cn,.slice ak nk ck]):=x1;obtain⟨x0,y1,y2,y3,y4⟩:=x1.c5;clear x1 Ar;obtain⟨e,he⟩:∃e,ks[0]?=some e:=⟨_,zA0 A32⟩
 have Ax:Hid (cQ e<=aD ks):=nd1 he;obtain⟨be,oe,s0,s1,s2,s3,s4,rfl,Gr,r0,r1,r2,r3,r4⟩:=lS HL.out he;refine M969 ?_;intro Lu r0 r1 r2 r3 r4;simp only[Nat.zero_mul,zG1]at r0 r1 r2 r3 r4;have He:Hid (ks[0]?=some e):=he;clear he Gr;go_wp2_with fail;refine nP (Ks.out e (zA3 He.out)) HE.out S0 A7 (dG Do.out e (zA3 He.out)) Lu.out (fun d1 w1 q1=>?_);clear S0 r0 r1 r2 r3 r4;clear x0 y1 y2 y3 y4;have y3:=(q1.b HX.out).k 3;go_wp2_with fail;clear y3;refine aAx HE.out q1 A7 name (HN.out.below q1.bel) (by rw[q1.up.p.1];exact HAR.out) _ (fun d2 w2 q2=>?_);clear q1;go_wp2_with fail;refine eO HE.out q2 A7 (fun d3 w3 q3=>?_);clear q2;go_wp2_with fail;refine eO HE.out q3 A7 (fun d4 w4 q4=>?_);clear q3;go_wp2_with fail;exact nY Tryz.results173 (HK.out _ _ (q4.wide A7))
theorem aS0 (n:Int)(mod name:List Int)(ks:List Ex)(IH:∀e ∈ ks,XC e):XC (.mk 3 n mod name ks):=by
 intro E d w Q t v0 v1 v2 v3 v4 hE hG h1 h2 hn hg hv k;refine M938 ?_;intro HE Ks;obtain⟨_,_,e0,rfl,_,_,e1,rfl,_,_,e2,⟨am,cm,rfl,Es,_⟩,_,_,e3,⟨an,cn,rfl,Be,_⟩,_,_,e4,hl,e5⟩:=hv;cases e0;cases e1;cases e2;cases e3;cases e4;obtain⟨ak,ck,rfl,hL⟩:=hl.list;refine M96 ?_;intro Ay nk hnk Am HL HM HN;have hnd:cQ (.mk 3 n mod name ks)=1+aD ks:=by simp[cQ]
 rw[hnd]at hn k;simp only[qA,zC0,zE3]at hg;obtain⟨⟨⟨⟨⟨⟨_,hg2⟩,Bm⟩,Af⟩,Az⟩,_⟩,Dx⟩:=hg;rw[<-hnk]at Bm hg2;have Ax:Hid (0<=aD ks):=zD1 _;have Do:Hid (fJ E.m E.fs d.p ks=true):=Dx;have hg2:2<=nk:=by simp[cX]at hg2;omega
 have hy:Below w.heap.size w (w.alloc (.cells #[.int .i64 3,.int .i64 n,.slice am mod.length cm,.slice an name.length cn,.slice ak nk ck] 176 (0,0))):=(zD2 _ _).alloc (zB0 _) _;have x1:=Blk.new w 176 [.int .i64 3,.int .i64 n,.slice am mod.length cm,.slice an name.length cn,.slice ak nk ck];simp only[List.toArray]at x1;refine M965 ?_;intro gx Ar S0;have HK:Hid (∀d' w',St E d (w.alloc (.cells #[.int .i64 3,.int .i64 n,.slice am mod.length cm,.slice an name.length cn,.slice ak nk ck] 176 (0,0))) (20*(1+aD ks)) d' w'->Q (.returned (.tuple #[])) w'):=fun d' w' s=>k d' w' ⟨s.gs,s.up,(Kt.below hy).trans s.kt,s.sl,s.s4⟩;have Li:(d.r 0).n+20*(1+aD ks)<=1000000:=hn;clear k hE Af Az Dx Es Be hL hl hnd Ay IH hG hn hy hnk;go_enter Tryz.func173,Tryz.ntmps173;go_upto_region 1 with fail;generalize w.alloc (.cells #[.int .i64 3,.int .i64 n,.slice am mod.length cm,.slice an name.length cn,.slice ak nk ck] 176 (0,0))=wb at *;rw[<-Ar]at x1 ⊢;have HX:Hid (Blk wb gx 176 [.int .i64 3,.int .i64 n,.slice am mod.length cm,.slice an name.length cn,.slice ak nk ck]):=x1;obtain⟨x0,y1,y2,y3,y4⟩:=x1.c5;clear x1 Ar;obtain⟨e,he⟩:∃e,ks[0]?=some e:=⟨_,zA0 A32⟩
 obtain⟨f,hf⟩:∃e,ks[1]?=some e:=⟨_,zA0 A32⟩
 have Ax:Hid (cQ e+cQ f<=aD ks):=nd2 he hf;obtain⟨be,oe,s0,s1,s2,s3,s4,rfl,Gr,r0,r1,r2,r3,r4⟩:=lS HL.out he;refine M969 ?_;intro Lu r0 r1 r2 r3 r4;simp only[Nat.zero_mul,zG1]at r0 r1 r2 r3 r4;have He:Hid (ks[0]?=some e):=he;have Hf:Hid (ks[1]?=some f):=hf;clear he hf Gr;go_wp2_with fail;refine nP (Ks.out e (zA3 He.out)) HE.out S0 A7 (dG Do.out e (zA3 He.out)) Lu.out (fun d1 w1 q1=>?_);clear S0 r0 r1 r2 r3 r4;clear x0 y1 y2 y3 y4;go_wp2_with fail;refine vQ HE.out q1 (fun x2 d2 w2 q2=>?_);clear q1;go_wp2_with fail;refine eO HE.out q2 A7 (fun d3 w3 q3=>?_);clear q2;obtain⟨bf,of,s0,s1,s2,s3,s4,e9,Wf,r0,r1,r2,r3,r4⟩:=lS HL.out Hf.out;cases e9;have HVf:Hid (aL E.w0 f.fl [s0,s1,s2,s3,s4]):=Wf;have r0:=aB r0 q3.bel;have r1:=aB r1 q3.bel;have r2:=aB r2 q3.bel;have r3:=aB r3 q3.bel;have r4:=aB r4 q3.bel;simp only[Nat.one_mul]at r0 r1 r2 r3 r4;clear Wf;have y4:=(q3.b HX.out).k 4;go_wp2_with fail;refine nP (Ks.out f (zA3 Hf.out)) HE.out q3 A7 (dG Do.out f (zA3 Hf.out)) HVf.out (fun d4 w4 q4=>?_);clear q3 r0 r1 r2 r3 r4;clear y4;go_wp2_with fail;refine vQ HE.out q4 (fun x5 d5 w5 q5=>?_);clear q4;go_wp2_with fail;refine eO HE.out q5 A7 (fun d6 w6 q6=>?_);clear q5;have y1:=(q6.b HX.out).k 1;go_wp2_with fail;clear y1;refine eO HE.out q6 A7 (fun d7 w7 q7=>?_);clear q6;go_wp2_with fail;exact nY Tryz.results173 (HK.out _ _ (q7.wide A7))
theorem aSz (n:Int)(mod name:List Int)(ks:List Ex)(IH:∀e ∈ ks,XC e):XC (.mk 4 n mod name ks):=by
 intro E d w Q t v0 v1 v2 v3 v4 hE hG h1 h2 hn hg hv k;refine M938 ?_;intro HE Ks;obtain⟨_,_,e0,rfl,_,_,e1,rfl,_,_,e2,⟨am,cm,rfl,Es,_⟩,_,_,e3,⟨an,cn,rfl,Be,_⟩,_,_,e4,hl,e5⟩:=hv;cases e0;cases e1;cases e2;cases e3;cases e4;obtain⟨ak,ck,rfl,hL⟩:=hl.list;refine M96 ?_;intro Ay nk hnk Am HL HM HN;have hnd:cQ (.mk 4 n mod name ks)=1+aD ks:=by simp[cQ]
 rw[hnd]at hn k;simp only[qA,zC0,zE3]at hg;obtain⟨⟨⟨⟨⟨⟨_,hg2⟩,Bm⟩,Af⟩,Az⟩,_⟩,Dx⟩:=hg;rw[<-hnk]at Bm hg2;refine M931 ?_;intro Ax Do hg2;have hy:Below w.heap.size w (w.alloc (.cells #[.int .i64 4,.int .i64 n,.slice am mod.length cm,.slice an name.length cn,.slice ak nk ck] 176 (0,0))):=(zD2 _ _).alloc (zB0 _) _;have x1:=Blk.new w 176 [.int .i64 4,.int .i64 n,.slice am mod.length cm,.slice an name.length cn,.slice ak nk ck];simp only[List.toArray]at x1;refine M965 ?_;intro gx Ar S0;have HK:Hid (∀d' w',St E d (w.alloc (.cells #[.int .i64 4,.int .i64 n,.slice am mod.length cm,.slice an name.length cn,.slice ak nk ck] 176 (0,0))) (20*(1+aD ks)) d' w'->Q (.returned (.tuple #[])) w'):=fun d' w' s=>k d' w' ⟨s.gs,s.up,(Kt.below hy).trans s.kt,s.sl,s.s4⟩;have Li:(d.r 0).n+20*(1+aD ks)<=1000000:=hn;clear k hE Af Az Dx Es Be hL hl hnd Ay IH hG hn hy hnk;go_enter Tryz.func173,Tryz.ntmps173;go_upto_region 1 with fail;generalize w.alloc (.cells #[.int .i64 4,.int .i64 n,.slice am mod.length cm,.slice an name.length cn,.slice ak nk ck] 176 (0,0))=wb at *;rw[<-Ar]at x1 ⊢;have HX:Hid (Blk wb gx 176 [.int .i64 4,.int .i64 n,.slice am mod.length cm,.slice an name.length cn,.slice ak nk ck]):=x1;exact QA53
theorem aSy (n:Int)(mod name:List Int)(ks:List Ex)(IH:∀e ∈ ks,XC e):XC (.mk 5 n mod name ks):=by
 intro E d w Q t v0 v1 v2 v3 v4 hE hG h1 h2 hn hg hv k;refine M938 ?_;intro HE Ks;obtain⟨_,_,e0,rfl,_,_,e1,rfl,_,_,e2,⟨am,cm,rfl,Es,_⟩,_,_,e3,⟨an,cn,rfl,Be,_⟩,_,_,e4,hl,e5⟩:=hv;cases e0;cases e1;cases e2;cases e3;cases e4;obtain⟨ak,ck,rfl,hL⟩:=hl.list;refine M96 ?_;intro Ay nk hnk Am HL HM HN;have hnd:cQ (.mk 5 n mod name ks)=1+aD ks:=by simp[cQ]
 rw[hnd]at hn k;simp only[qA,zC0,zE3]at hg;obtain⟨⟨⟨⟨⟨⟨_,hg2⟩,Bm⟩,Af⟩,Az⟩,_⟩,Dx⟩:=hg;rw[<-hnk]at Bm hg2;have HAR:Hid (aFc E.m d.p name=true):=by show _=true;simpa using Af
 refine M931 ?_;intro Ax Do hg2;have hy:Below w.heap.size w (w.alloc (.cells #[.int .i64 5,.int .i64 n,.slice am mod.length cm,.slice an name.length cn,.slice ak nk ck] 176 (0,0))):=(zD2 _ _).alloc (zB0 _) _;have x1:=Blk.new w 176 [.int .i64 5,.int .i64 n,.slice am mod.length cm,.slice an name.length cn,.slice ak nk ck];simp only[List.toArray]at x1;refine M965 ?_;intro gx Ar S0;have HK:Hid (∀d' w',St E d (w.alloc (.cells #[.int .i64 5,.int .i64 n,.slice am mod.length cm,.slice an name.length cn,.slice ak nk ck] 176 (0,0))) (20*(1+aD ks)) d' w'->Q (.returned (.tuple #[])) w'):=fun d' w' s=>k d' w' ⟨s.gs,s.up,(Kt.below hy).trans s.kt,s.sl,s.s4⟩;have Li:(d.r 0).n+20*(1+aD ks)<=1000000:=hn;clear k hE Af Az Dx Es Be hL hl hnd Ay IH hG hn hy hnk;go_enter Tryz.func173,Tryz.ntmps173;go_upto_region 1 with fail;generalize w.alloc (.cells #[.int .i64 5,.int .i64 n,.slice am mod.length cm,.slice an name.length cn,.slice ak nk ck] 176 (0,0))=wb at *;rw[<-Ar]at x1 ⊢;have HX:Hid (Blk wb gx 176 [.int .i64 5,.int .i64 n,.slice am mod.length cm,.slice an name.length cn,.slice ak nk ck]):=x1;obtain⟨x0,y1,y2,y3,y4⟩:=x1.c5;clear x1 Ar;go_wp2_with fail;clear x0 y1 y2 y3 y4;refine aAx HE.out S0 A7 name (HN.out.below S0.bel) (by rw[S0.up.p.1];exact HAR.out) _ (fun d1 w1 q1=>?_);clear S0;go_wp2_with fail;refine eO HE.out q1 A7 (fun d2 w2 q2=>?_);clear q1;go_wp2_with fail;exact nY Tryz.results173 (HK.out _ _ (q2.wide A7))
theorem aSx (n:Int)(mod name:List Int)(ks:List Ex)(IH:∀e ∈ ks,XC e):XC (.mk 6 n mod name ks):=by
 intro E d w Q t v0 v1 v2 v3 v4 hE hG h1 h2 hn hg hv k;have HC:∀(d1:GD) (wb:World),GS E d1 wb->d1.sl=0->d1.s4=0->(d1.r 0).n+20*cQ (.mk 6 n mod name ks)<=1000000->qA E.m E.fs d1.p (.mk 6 n mod name ks)=true->∀Q:Ending->World->Prop,(∀d' w',St E d1 wb (20*cQ (.mk 6 n mod name ks)) d' w'->Q (.returned (.tuple #[])) w')->Calls Tryz.prog 185 #[.pointer (some ⟨E.g,0,none⟩),.agg #[v0,v1,v2,v3,v4],.int .i64 t] wb Q:=fun d1 wb a1 a2 a3 a4 a5 Q a6=>aTd n mod name ks IH t v0 v1 v2 v3 v4 hE a1 a2 a3 a4 a5 hv a6;have HGG:Hid (qA E.m E.fs d.p (.mk 6 n mod name ks)=true):=hg;have Dr:Hid (cQ (.mk 6 n mod name ks)=1+aD ks):=by show _=_;simp[cQ]
 refine M938 ?_;intro HE Ks;obtain⟨_,_,e0,rfl,_,_,e1,rfl,_,_,e2,⟨am,cm,rfl,Es,_⟩,_,_,e3,⟨an,cn,rfl,Be,_⟩,_,_,e4,hl,e5⟩:=hv;cases e0;cases e1;cases e2;cases e3;cases e4;obtain⟨ak,ck,rfl,hL⟩:=hl.list;have Ay:(exs ks).length=ks.length:=by rw[aX,zB2]
 rw[Ay];obtain⟨nk,hnk⟩:=zx (ks.length);have Am:Hid (ks.length=nk):=hnk.symm;rw[<-hnk];rw[Ay,<-hnk]at HC;have HL:Hid (aW E.w0 ak ck 5 (exs ks)):=hL;have HM:Hid (aV E.w0 am mod.length mod):=Es;have HN:Hid (aV E.w0 an name.length name):=Be;have hnd:cQ (.mk 6 n mod name ks)=1+aD ks:=by simp[cQ]
 rw[hnd]at hn k;simp only[qA,zC0,zE3]at hg;obtain⟨⟨⟨⟨⟨⟨_,hg2⟩,Bm⟩,Af⟩,Az⟩,_⟩,Dx⟩:=hg;rw[<-hnk]at Bm hg2;refine M931 ?_;intro Ax Do hg2;refine M953 ?_;intro hy x1;simp only[List.toArray]at x1;refine M965 ?_;intro gx Ar S0;refine M950 ?_;intro HK Li;clear k hE Af Az Dx Es Be hL hl hnd Ay IH hG hn hy hnk;go_enter Tryz.func173,Tryz.ntmps173;go_upto_region 1 with fail;generalize w.alloc (.cells #[.int .i64 6,.int .i64 n,.slice am mod.length cm,.slice an name.length cn,.slice ak nk ck] 176 (0,0))=wb at *;rw[<-Ar]at x1 ⊢;have HX:Hid (Blk wb gx 176 [.int .i64 6,.int .i64 n,.slice am mod.length cm,.slice an name.length cn,.slice ak nk ck]):=x1;obtain⟨x0,y1,y2,y3,y4⟩:=x1.c5;clear x1 Ar;go_wp2_with fail;clear x0 y1 y2 y3 y4;refine HC d wb S0.gs h1 h2 (by rw[Dr.out];exact Li) HGG.out _ (fun d1 w1 q1=>?_);go_wp2_with fail;rw[Dr.out]at q1;exact nY Tryz.results173 (HK.out _ _ (q1.wide A7))
theorem aSw (n:Int)(mod name:List Int)(ks:List Ex)(IH:∀e ∈ ks,XC e):XC (.mk 7 n mod name ks):=by
 intro E d w Q t v0 v1 v2 v3 v4 hE hG h1 h2 hn hg hv k;refine M938 ?_;intro HE Ks;obtain⟨_,_,e0,rfl,_,_,e1,rfl,_,_,e2,⟨am,cm,rfl,Es,_⟩,_,_,e3,⟨an,cn,rfl,Be,_⟩,_,_,e4,hl,e5⟩:=hv;cases e0;cases e1;cases e2;cases e3;cases e4;obtain⟨ak,ck,rfl,hL⟩:=hl.list;refine M96 ?_;intro Ay nk hnk Am HL HM HN;have hnd:cQ (.mk 7 n mod name ks)=1+aD ks:=by simp[cQ]
 rw[hnd]at hn k;simp only[qA,zC0,zE3]at hg;obtain⟨⟨⟨⟨⟨⟨_,hg2⟩,Bm⟩,Af⟩,Az⟩,_⟩,Dx⟩:=hg;rw[<-hnk]at Bm hg2;have HAR:Hid (aFc E.m d.p name=true):=by show _=true;simpa using Af
 refine M931 ?_;intro Ax Do hg2;have hy:Below w.heap.size w (w.alloc (.cells #[.int .i64 7,.int .i64 n,.slice am mod.length cm,.slice an name.length cn,.slice ak nk ck] 176 (0,0))):=(zD2 _ _).alloc (zB0 _) _;have x1:=Blk.new w 176 [.int .i64 7,.int .i64 n,.slice am mod.length cm,.slice an name.length cn,.slice ak nk ck];simp only[List.toArray]at x1;refine M965 ?_;intro gx Ar S0;have HK:Hid (∀d' w',St E d (w.alloc (.cells #[.int .i64 7,.int .i64 n,.slice am mod.length cm,.slice an name.length cn,.slice ak nk ck] 176 (0,0))) (20*(1+aD ks)) d' w'->Q (.returned (.tuple #[])) w'):=fun d' w' s=>k d' w' ⟨s.gs,s.up,(Kt.below hy).trans s.kt,s.sl,s.s4⟩;have Li:(d.r 0).n+20*(1+aD ks)<=1000000:=hn;clear k hE Af Az Dx Es Be hL hl hnd Ay IH hG hn hy hnk;go_enter Tryz.func173,Tryz.ntmps173;go_upto_region 1 with fail;generalize w.alloc (.cells #[.int .i64 7,.int .i64 n,.slice am mod.length cm,.slice an name.length cn,.slice ak nk ck] 176 (0,0))=wb at *;rw[<-Ar]at x1 ⊢;have HX:Hid (Blk wb gx 176 [.int .i64 7,.int .i64 n,.slice am mod.length cm,.slice an name.length cn,.slice ak nk ck]):=x1;obtain⟨x0,y1,y2,y3,y4⟩:=x1.c5;clear x1 Ar;go_wp2_with fail;clear x0 y1 y2 y3 y4;refine aAx HE.out S0 A7 name (HN.out.below S0.bel) (by rw[S0.up.p.1];exact HAR.out) _ (fun d1 w1 q1=>?_);clear S0;go_wp2_with fail;exact nY Tryz.results173 (HK.out _ _ (q1.wide A7))
theorem aSv (k n:Int)(mod name:List Int)(ks:List Ex)(IH:∀e ∈ ks,XC e):XC (.mk k n mod name ks):=fun E d w Q t v0 v1 v2 v3 v4 hE hG h1 h2 hn hg hv kk=>by
 have hk:0<=k/\k<=7:=by
  have hg':=hg;simp only[qA,zC0]at hg';simpa [inB] using hg'.1.1.1.1.1.1
 have:k=0\/k=1\/k=2\/k=3\/k=4\/k=5\/k=6\/k=7:=A0;rcases this with rfl|rfl|rfl|rfl|rfl|rfl|rfl|rfl
 .
  exact aS3 n mod name ks IH E d w Q t v0 v1 v2 v3 v4 hE hG h1 h2 hn hg hv kk
 .
  exact aS2 n mod name ks IH E d w Q t v0 v1 v2 v3 v4 hE hG h1 h2 hn hg hv kk
 .
  exact aS1 n mod name ks IH E d w Q t v0 v1 v2 v3 v4 hE hG h1 h2 hn hg hv kk
 .
  exact aS0 n mod name ks IH E d w Q t v0 v1 v2 v3 v4 hE hG h1 h2 hn hg hv kk
 .
  exact aSz n mod name ks IH E d w Q t v0 v1 v2 v3 v4 hE hG h1 h2 hn hg hv kk
 .
  exact aSy n mod name ks IH E d w Q t v0 v1 v2 v3 v4 hE hG h1 h2 hn hg hv kk
 .
  exact aSx n mod name ks IH E d w Q t v0 v1 v2 v3 v4 hE hG h1 h2 hn hg hv kk
 .
  exact aSw n mod name ks IH E d w Q t v0 v1 v2 v3 v4 hE hG h1 h2 hn hg hv kk
mutual
theorem sK:∀e:Ex,XC e
 | .mk k n mod name ks=>aSv k n mod name ks (aJp ks)
theorem aJp:∀l:List Ex,∀e ∈ l,XC e
 | [],e,h=>by cases h
 | x :: l,e,h=>(zG3.1 h).elim (fun q=>q ▸ sK x) (aJp l e)
end
end Cp
end Go.Proofs.YtcbhdhmhidpdgaaGreatDoor

import Derived.Test.YtcbhdhmhidpdgaaGreatPackH
namespace Go.Proofs.YtcbhdhmhidpdgaaGreat
open Go.RowKit
set_option linter.unusedVariables false
set_option linter.unusedSimpArgs false
set_option maxRecDepth 100000
theorem QA111{p:Prop}(h:p:=by
 show _<=_
 rw[<-bU he,<-List.take_append_drop (j+1) ks,kH,List.take_append_drop]
 omega):p:=h
namespace Cp
theorem M96{p q:Prop}(k:q)(h:Kx q->p:=by
 intro kQ
 have Ax:(exs ks).length=ks.length:=by rw[aY,zB2]
 rw[Ax]
 obtain⟨nk,hnk⟩:=zx (ks.length)
 have Ap:Hid (ks.length=nk):=hnk.symm
 rw[<-hnk]
 have HL:Hid (aX E.w0 ak ck 5 (exs ks)):=hL
 have HM:Hid (aV E.w0 am mod.length mod):=Eq
 have HN:Hid (aV E.w0 an name.length name):=Be
 revert HN;revert HM;revert HL;revert Ap;revert hnk;revert nk;revert Ax
 exact kQ.o):p:=h ⟨k⟩
theorem M99{p q:Prop}(k:q)(h:Kx q->p:=by
 intro kQ
 refine la 0 ?_
 refine la 1 ?_
 refine la 2 ?_
 try simp only[nrm]
 refine la 3 ?_
 refine la 4 ?_
 refine la 5 ?_
 try simp only[nrm]
 refine la 6 ?_
 refine la 7 ?_
 refine la 8 ?_
 try simp only[nrm]
 refine la 9 ?_
 exact kQ.o):p:=h ⟨k⟩
theorem M966{p q:Prop}(k:q)(h:Kx q->p:=by
 intro kQ
 obtain⟨gx,Au⟩:=zx (w.heap.size)
 have S0:=(St.start (hG.on hE hy) h1 h2)
 revert S0;revert Au;revert gx
 exact kQ.o):p:=h ⟨k⟩
theorem M938{p q:Prop}(k:q)(h:Kx q->p:=by
 intro kQ
 have HE:Hid (eA E):=hE
 have Ld:Hid (∀e ∈ ks,XC e):=IH
 revert Ld;revert HE
 exact kQ.o):p:=h ⟨k⟩
theorem M946{p q:Prop}(k:q)(h:Kx q->p:=by
 intro kQ
 have r0:=aB r0 Bf
 have r1:=aB r1 Bf
 have r2:=aB r2 Bf
 have r3:=aB r3 Bf
 have r4:=aB r4 Bf
 revert r4;revert r3;revert r2;revert r1;revert r0
 exact kQ.o):p:=h ⟨k⟩
theorem M951{p q:Prop}(k:q)(h:Kx q->p:=by
 intro kQ
 have HK:Hid (∀d' w',St E d (w.alloc (.cells #[.int .i64 6,.int .i64 n,.slice am mod.length cm,.slice an name.length cn,.slice ak nk ck] 147 (0,0))) (20*(1+aD ks)) d' w'->Q (.returned (.tuple #[])) w'):=fun d' w' s=>k d' w' ⟨s.gs,s.up,(Kt.below hy).trans s.kt,s.sl,s.s4⟩
 have Lv:(d.r 0).n+20*(1+aD ks)<=1000000:=hn
 revert Lv;revert HK
 exact kQ.o):p:=h ⟨k⟩
theorem M954{p q:Prop}(k:q)(h:Kx q->p:=by
 intro kQ
 have hy:Below w.heap.size w (w.alloc (.cells #[.int .i64 6,.int .i64 n,.slice am mod.length cm,.slice an name.length cn,.slice ak nk ck] 147 (0,0))):=(zD2 _ _).alloc (zB0 _) _
 have x1:=Blk.new w 147 [.int .i64 6,.int .i64 n,.slice am mod.length cm,.slice an name.length cn,.slice ak nk ck]
 revert x1;revert hy
 exact kQ.o):p:=h ⟨k⟩
theorem El.fix {E:En}{d:GD}(h:El E d)(hs:d.sl=0)(h4:d.s4=0){v:Value}{n:Nat}(hn:(d.r 0).n=n):El E ((d.at 1 1).put 3 ⟨v,(d.r 3).n+1,(d.r 3).xs++[.int .i64 n]⟩):=
 ⟨h.e0,h.e1,h.e2,h.n2,fun u hu=>by
  rcases List.mem_append.1 hu with hu|hu
  .
   obtain⟨x,e,hx⟩:=h.e3 u hu;exact⟨x,e,by show x<(d.r 0).n+1;omega⟩
  .
   exact⟨n,List.mem_singleton.1 hu,by show n<(d.r 0).n+1;omega⟩,by have:=h.m3;show(d.r 3).n+1<=(d.r 0).n+1;omega,h.e4,by have:=h.n4;show((d.r 4).n:Int)+1=((d.r 3).n+1:Nat);omega,h.rp,h.hl⟩
theorem Up.fix (d:GD)(v u:Value):Up d ((d.at 1 1).put 3 ⟨v,(d.r 3).n+1,(d.r 3).xs++[u]⟩) 0:=
 ⟨⟨rfl,rfl⟩,rfl,rfl,rfl,zB0 _,zB0 _,Nat.le_succ _,⟨[u],rfl⟩,⟨[],by simp[GD.put,GD.at]⟩⟩
theorem El.to {E:En}{d:GD}(h:El E d)(hs:d.sl=1)(h4:d.s4=1){v:Value}{i:Nat}(hi:i<E.m.procs.length):El E ((d.at 1 0).put 4 ⟨v,(d.r 4).n+1,(d.r 4).xs++[.int .i64 i]⟩):=
 ⟨h.e0,h.e1,h.e2,h.n2,fun u hu=>by
  obtain⟨x,e,hx⟩:=h.e3 u hu;exact⟨x,e,by show x<(d.r 0).n+1;omega⟩,by have:=h.m3;show(d.r 3).n<=(d.r 0).n+1;omega,fun u hu=>by
  rcases List.mem_append.1 hu with hu|hu
  .
   exact h.e4 u hu
  .
   exact⟨i,List.mem_singleton.1 hu,hi⟩,by have:=h.n4;show(((d.r 4).n+1:Nat):Int)+0=(d.r 3).n;omega,h.rp,h.hl⟩
theorem Up.to (d:GD)(v u:Value):Up d ((d.at 1 0).put 4 ⟨v,(d.r 4).n+1,(d.r 4).xs++[u]⟩) 0:=
 ⟨⟨rfl,rfl⟩,rfl,rfl,rfl,zB0 _,zB0 _,zB0 _,⟨[],by simp[GD.put,GD.at]⟩,⟨[u],rfl⟩⟩
set_option maxHeartbeats 40000000 in
theorem aUg (n:Int)(mod name:List Int)(ks:List Ex)(IH:∀e ∈ ks,XC e){E:En}{d:GD}{w:World}{Q:Ending->World->Prop}(t:Int)(v0 v1 v2 v3 v4:Value)(hE:eA E)(hG:GS E d w)(h1:d.sl=0)(h2:d.s4=0)(hn:(d.r 0).n+20*cU (.mk 6 n mod name ks)<=1000000)(hg:qI E.m E.fs d.p (.mk 6 n mod name ks)=true)(hv:aL E.w0 (Ex.fl (.mk 6 n mod name ks)) [v0,v1,v2,v3,v4])(k:∀d' w',St E d w (20*cU (.mk 6 n mod name ks)) d' w'->Q (.returned (.tuple #[])) w'):
  Calls Tryz.prog 122 #[.pointer (some ⟨E.g,0,none⟩),.agg #[v0,v1,v2,v3,v4],.int .i64 t] w Q:=by
 refine M938 ?_;intro HE Ld;obtain⟨_,_,e0,rfl,_,_,e1,rfl,_,_,e2,⟨am,cm,rfl,Eq,_⟩,_,_,e3,⟨an,cn,rfl,Be,_⟩,_,_,e4,hl,e5⟩:=hv;cases e0;cases e1;cases e2;cases e3;cases e4;obtain⟨ak,ck,rfl,hL⟩:=hl.list;refine M96 ?_;intro Ax nk hnk Ap HL HM HN;have Bw:cU (.mk 6 n mod name ks)=1+aD ks:=by simp[cU]
 rw[Bw]at hn k;simp only[qI,zC0,zE3]at hg;obtain⟨⟨⟨⟨⟨⟨_,_⟩,Bn⟩,_⟩,Az⟩,_⟩,Dz⟩:=hg;rw[<-hnk]at Bn;have Uc:Hid (aKl E.m E.fs mod name=true):=by show _=true;simpa using Az
 have Dr:Hid (fW E.m E.fs d.p ks=true):=Dz;refine M954 ?_;intro hy x1;simp only[List.toArray]at x1;refine M966 ?_;intro gx Au S0;refine M951 ?_;intro HK Lv;clear k hE Az Dz Eq Be hL hl Bw Ax IH hG hn hy hnk;go_enter Tryz.func122,Tryz.ntmps122;go_upto_region 1 with fail;generalize w.alloc (.cells #[.int .i64 6,.int .i64 n,.slice am mod.length cm,.slice an name.length cn,.slice ak nk ck] 147 (0,0))=wb at *;rw[<-Au]at x1 ⊢;have HX:Hid (Blk wb gx 147 [.int .i64 6,.int .i64 n,.slice am mod.length cm,.slice an name.length cn,.slice ak nk ck]):=x1;have x4:=x1.k 4;clear x1 Au;go_wp2_with fail;clear x4;go_loopw [7] (fun i wr=>∃(j:Nat) (d':GD),j<=nk/\i=.int .i64 j/\Hid (St E d wb (20*aD (ks.take j)+j) d' wr)) (fun i _=>nk-(intOf i).toNat)
 case atStart=>exact⟨0,d,zD1 _,rfl,by show St _ _ _ _ _ _;simpa [aD] using S0⟩
 case round=>
  obtain⟨j,d2,hj,rfl,Hs⟩:=hrel;have hj9:(j:Int)<=4:=A0;by_cases Ad:j<nk
  .
   obtain⟨e,he⟩:∃e,ks[j]?=some e:=⟨_,zA0 A31⟩
   have Aw:Hid (aD (ks.take (j+1))=aD (ks.take j)+cU e):=bU he;have Mf:Hid (aD (ks.take j)+cU e<=aD ks):=by
    exact QA111
   have HME:Hid (e ∈ ks):=zA3 he;obtain⟨b,off,s0,s1,s2,s3,s4,rfl,Ti,r0,r1,r2,r3,r4⟩:=mC HL.out he;have HV:Hid (aL E.w0 e.fl [s0,s1,s2,s3,s4]):=Ti;have Bf:=Hs.out.bel;refine M946 ?_;intro r0 r1 r2 r3 r4;have x4:=(Hs.out.b HX.out).k 4;have Gw:(j:Int)<(nk:Int):=A0;clear Ti Bf he;go_wp2_with fail;refine nZ (Ld.out e HME.out) HE.out Hs.out (by have:=Mf.out;omega) (dI Dr.out e HME.out) HV.out (fun d3 w3 q3=>?_);clear r0 r1 r2 r3 r4 x4;go_wp2_with fail;refine wH HE.out q3 (fun x d4 w4 q4=>?_);clear q3;go_wp2_with fail;refine eU HE.out q4 (by have:=Mf.out;omega) (fun d5 w5 q5=>?_);clear q4;go_wp2;go_roundw
   case rel=>exact⟨j+1,d5,by omega,by go_num,by show St _ _ _ _ _ _;rw[Aw.out];exact q5.wide A0⟩
   case measure=>simp[intOf];omega
  .
   have:nk=j:=A0;subst this;have q0:St E d wb (20*aD ks+nk) d2 wr:=by have:=Hs.out;rwa [zD3 A20]at this
   clear Hs S0;by_cases Fv:0<mod.length
   .
    have hm':(0:Int)<(mod.length:Int):=A0;have x2:=(q0.b HX.out).k 2;go_wp2_with fail;clear x2;go_loopw [8] (fun i wr=>∃(j:Nat) (d':GD),j<=nk/\i=.int .i64 j/\Hid (St E d wb (20*aD ks+nk+j) d' wr)) (fun i _=>nk-(intOf i).toNat)
    case atStart=>exact⟨0,d2,zD1 _,rfl,q0⟩
    case round=>
     obtain⟨j,d3,hj,rfl,Hs⟩:=hrel;have hj9:(j:Int)<=4:=A0;by_cases Ad:j<nk
     .
      have Gw:(j:Int)<(nk:Int):=A0;go_wp2_with fail;refine wH HE.out Hs.out (fun x d4 w4 q4=>?_);go_wp2_with fail;refine eU HE.out q4 A0 (fun d5 w5 q5=>?_);clear q4;go_wp2;go_roundw
      case rel=>exact⟨j+1,d5,by omega,by go_num,q5.wide A0⟩
      case measure=>simp[intOf];omega
     .
      have:nk=j:=A0;subst this;have q1:=Hs.out;have x0:=(q1.b HX.out).k 0;have x1:=(q1.b HX.out).k 1;have x2:=(q1.b HX.out).k 2;have x3:=(q1.b HX.out).k 3;have x4:=(q1.b HX.out).k 4;clear q0;go_wp2_with fail;refine aM4 HE.out q1 mod name (HM.out.below q1.bel) (HN.out.below q1.bel) (fun z w6 Xt=>?_);have q6:=q1.on HE.out Xt;clear x0 x1 x2 x3 x4 q1 Hs Xt;go_wp2_with fail;refine eU HE.out q6 A0 (fun d7 w7 q7=>?_);clear q6;have Qj:=q7.gs.blk.cell (i:=11) (v:=.int .i64 d7.fr) rfl;go_wp2_with fail;clear Qj;refine eU HE.out q7 A0 (fun d8 w8 q8=>?_);go_wp2_with fail;exact aLk Tryz.results122 (HK.out _ _ (q8.wide A0))
   .
    have Cu:mod.length=0:=A0;have x2:=(q0.b HX.out).k 2;rw[Cu]at x2;have Qj:=q0.gs.blk.cell (i:=11) (v:=.int .i64 d2.fr) rfl;obtain⟨fr,Oz⟩:=zx (d2.fr);rw[<-Oz]at Qj;clear Oz;go_wp2_with fail;clear x2 Qj;refine eU HE.out q0 A0 (fun d3 w3 q3=>?_);clear q0;go_wp2_with fail;go_loopw [10] (fun i wr=>∃(j:Nat) (d':GD),j<=nk/\i=.int .i64 j/\Hid (St E d wb (20*aD ks+nk+1+2*j) d' wr)) (fun i _=>nk-(intOf i).toNat)
    case atStart=>exact⟨0,d3,zD1 _,rfl,q3⟩
    case round=>
     obtain⟨j,d4,hj,rfl,Hs⟩:=hrel;have hj9:(j:Int)<=4:=A0;by_cases Ad:j<nk
     .
      have Gw:(j:Int)<(nk:Int):=A0;clear q3;go_wp2_with fail;refine wH HE.out Hs.out (fun x d5 w5 q5=>?_);go_wp2_with fail;refine eU HE.out q5 A0 (fun d6 w6 q6=>?_);clear q5;go_wp2_with fail;refine eU HE.out q6 A0 (fun d7 w7 q7=>?_);clear q6;go_wp2;go_roundw
      case rel=>exact⟨j+1,d7,by omega,by go_num,q7.wide A0⟩
      case measure=>simp[intOf];omega
     .
      have:nk=j:=A0;subst this;have q4:=Hs.out;clear q3 Hs;obtain⟨ca,cn4,cq,_,_,_,_,Fm⟩:=q4.code;go_wp2_with fail;clear Fm;refine eU HE.out q4 A0 (fun d5 w5 q5=>?_);clear q4;go_wp2_with fail;refine eU HE.out q5 A0 (fun d6 w6 q6=>?_);clear q5;go_wp2_with fail;refine eU HE.out q6 A0 (fun d7 w7 q7=>?_);clear q6;go_wp2_with fail;refine eU HE.out q7 A0 (fun d8 w8 q8=>?_);clear q7;go_wp2_with fail;refine eU HE.out q8 A0 (fun d9 w9 q9=>?_);clear q8;obtain⟨ca',Mr,cq',_,en,_,_,Fm⟩:=q9.code;have HU:Hid (aCv [.int .i64 (Mr:Int)]):=fun u hu=>⟨_,List.mem_singleton.1 hu⟩;obtain⟨fv,Uy⟩:=zx ((d9.r 3).v);have HFV:Hid ((d9.r 3).v=fv):=Uy.symm;have c15:w9.cell? ⟨E.g,15,none⟩=some fv:=q9.gs.blk.cell (i:=15) (by rw[Uy];rfl);have HG9:Hid (GS E d9 w9):=q9.gs;have HEN:Hid ((d9.r 0).n=Mr):=en;have Q9:Hid (St E d wb (20*aD ks+nk+1+2*nk+1+1+1+1+1) d9 w9):=q9;have HR3:Hid ((d9.r 3).n<=1000000/\(d9.r 4).n<=1000000):=by
       have:=q9.up.n1;have:=q9.gs.el.m3;have:=q9.gs.el.n4;have:=q9.sl;have:=q9.s4;exact⟨by omega,by omega⟩
      clear q9 Uy en;go_wp2_with fail;have Bj:∀wl,Below w9.heap.size w9 wl->wl.cell? ⟨E.g,15,none⟩=some fv/\wl.cell? ⟨E.g,10,none⟩=some (.slice ca' Mr cq'):=fun wl hb=>⟨aB c15 hb,aB Fm hb⟩;have Bq:=Bj w9.drew (zD2 _ _).drew;refine rl 14 (S:=fun wl=>wl.cell? ⟨E.g,15,none⟩=some fv/\wl.cell? ⟨E.g,10,none⟩=some (.slice ca' Mr cq')) A1 Bq (fun Aa=>?_);refine M99 ?_;try simp only[nrm]
      have xC:Blk (w9.alloc (.cells #[.int .i64 (Mr:Int)] 3 (0,0))).drew w9.heap.size 3 [.int .i64 (Mr:Int)]:=Blk.new w9 3 [.int .i64 (Mr:Int)];have bc:Below w9.heap.size w9 (w9.alloc (.cells #[.int .i64 (Mr:Int)] 3 (0,0))).drew:=((zD2 w9.heap.size w9).alloc (zB0 _) _).drew;have Fy:=Bj _ bc;refine da 10 fun K hK=>?_;go_simp;refine hK.out _ _ (Fy) (fun Aa=>?_);clear hK K;try simp only[nrm]
      have Er:Hid (GS E d9 (w9.alloc (.cells #[.int .i64 (Mr:Int)] 3 (0,0))).drew):=HG9.out.on HE.out bc;have HK2:Hid (Kt w9 (w9.alloc (.cells #[.int .i64 (Mr:Int)] 3 (0,0))).drew):=Kt.below bc;generalize (w9.alloc (.cells #[.int .i64 (Mr:Int)] 3 (0,0))).drew=wc at *;generalize w9.heap.size=gy at *;have An:wc.ownsRow E.w0.heap.size 3 1 fv (d9.r 3).n (d9.r 3).xs:=by have:=Er.out.row 3 A0;rw[HFV.out]at this;exact this
      refine da 11 fun K hK=>?_;rw[if_pos A1];refine mR aH4 Tryz.underlying99 rfl A6 A6 _ _ rfl (v:=fv) rfl An rfl xC rfl (xJ HU.out) HR3.out.1 Er.out.bel.size ?_;intro g' c' we ho Am hl;have Cc:wc.grownBy we (d9.r 3).v.ownBlock:=by rw[HFV.out];exact Am
      have HF:Hid (GS E ((d9.at 1 1).put 3 ⟨.slice (some ⟨g',0,none⟩) ((d9.r 3).n+1) c',(d9.r 3).n+1,(d9.r 3).xs++[.int .i64 (Mr:Int)]⟩) (we.setCell ⟨E.g,15,none⟩ (.slice (some ⟨g',0,none⟩) ((d9.r 3).n+1) c'))):=
       Er.out.put HE.out (i:=3) A0 (q:=(⟨.slice (some ⟨g',0,none⟩) ((d9.r 3).n+1) c',(d9.r 3).n+1,(d9.r 3).xs++[Value.int .i64 (Mr:Int)]⟩:RD)) Cc ho (fun b hb=>by
        have hb:some g'=some b:=hb;rw[HFV.out];cases hb;exact hl.imp id (fun e=>Nat.le_of_eq e.symm)) 1 1 (Er.out.el.fix Q9.out.sl Q9.out.s4 HEN.out)
      have Zm:Hid (Kt w9 (we.setCell ⟨E.g,15,none⟩ (.slice (some ⟨g',0,none⟩) ((d9.r 3).n+1) c'))):=HK2.out.trans (Er.out.kt (i:=3) A0 Cc _);have Et:we.heap[E.g]?=wc.heap[E.g]?:=Cc.block E.g Er.out.lt (fun e=>Er.out.ng 3 E.g A0 e.symm rfl);have b3:Blk we E.g 119 (cells E d9):=Et.trans Er.out.blk;have Uf:we.cell? ⟨E.g,15,none⟩=some fv:=b3.cell (i:=15) (by rw[<-HFV.out];rfl);have f15:=b3.free 15;have Id:we.cell? ⟨E.g,10,none⟩=some (.slice ca' Mr cq'):=by
       have:=Fy.2;unfold World.cell? at this ⊢;rw[Et];exact this
      have h9:we.cell? ⟨E.g,15,none⟩=some fv/\we.cell? ⟨E.g,10,none⟩=some (.slice ca' Mr cq'):=⟨Uf,Id⟩
      refine hK.out _ _ (h9) (fun Aa=>?_);clear hK K;try simp only[nrm]
      refine da 12 fun K hK=>?_;go_simp;refine hK.out _ _ (h9) (fun Aa=>?_);clear hK K;try simp only[nrm]
      refine la 13 ?_;try simp only[nrm]
      refine ea fun K hK=>?_;go_simp;refine hK.out _ _ ?_;clear hK K Aa h9 Id Uf f15 b3 Et An Cc ho Am hl xC bc Fy Bq Bj c15 Fm;generalize hD:(d9.at 1 1).put 3 ⟨.slice (some ⟨g',0,none⟩) ((d9.r 3).n+1) c',(d9.r 3).n+1,(d9.r 3).xs++[.int .i64 (Mr:Int)]⟩=Fz at *;generalize we.setCell ⟨E.g,15,none⟩ (.slice (some ⟨g',0,none⟩) ((d9.r 3).n+1) c')=wa at *;have UA:Hid (Up d9 Fz 0/\Fz.sl=1/\Fz.s4=1/\(Fz.r 4).n=(d9.r 4).n/\Fz.p=d9.p):=by rw[<-hD];exact⟨Up.fix _ _ _,rfl,rfl,rfl,rfl⟩
      clear hD Er HK2 HFV;obtain⟨i9,Xq⟩:∃i,ix (E.m.procs.map Pr.name) name=some i:=by
       have h1:=Uc.out;unfold aKl at h1;rw[if_pos (zE0 Cu)]at h1;exact Option.isSome_iff_exists.1 h1
      have HI9:Hid (i9<E.m.procs.length):=by
       have:=(zC1.1 (xG Xq).1).1;rwa [zB2]at this
      have x3:=((Q9.out.b HX.out |> Zm.out.b (hm:=by decide))).k 3;have Tz:=aEa E.m E.ms wa.drew (aL.below HE.out.rm HF.out.bel.drew) an name.length cn name (HN.out.below HF.out.bel.drew);rw[cK Xq]at Tz;simp only[En.ms,agg,List.toArray]at Tz;obtain⟨tv,htv⟩:=zx ((Fz.r 4).v);have HTV:Hid ((Fz.r 4).v=tv):=htv.symm;have HU4:Hid (aCv [.int .i64 (i9:Int)]):=fun u hu=>⟨_,List.mem_singleton.1 hu⟩;have c16:wa.cell? ⟨E.g,16,none⟩=some tv:=HF.out.blk.cell (i:=16) (by rw[htv];rfl);have Bj:∀wl,Below wa.heap.size wa wl->wl.cell? ⟨E.g,16,none⟩=some tv/\wl.cell? ⟨E.g,0,none⟩=some E.m0/\wl.cell? ⟨E.g,1,none⟩=some E.m1/\wl.cell? ⟨E.g,2,none⟩=some E.m2/\wl.cell? ⟨E.g,3,none⟩=some E.m3/\wl.cell? ⟨gx,3,none⟩=some (.slice an name.length cn):=fun wl hb=>⟨aB c16 hb,aB (HF.out.blk.k 0) hb,aB (HF.out.blk.k 1) hb,aB (HF.out.blk.k 2) hb,aB (HF.out.blk.k 3) hb,aB x3 hb⟩;have HR4:Hid ((Fz.r 4).n<=1000000):=by rw[UA.out.2.2.2.1];exact HR3.out.2
      clear htv Xq;go_wp2_with fail;have Bq:=Bj wa.drew (zD2 _ _).drew;refine rl 16 (S:=fun wl=>wl.cell? ⟨E.g,16,none⟩=some tv/\wl.cell? ⟨E.g,0,none⟩=some E.m0/\wl.cell? ⟨E.g,1,none⟩=some E.m1/\wl.cell? ⟨E.g,2,none⟩=some E.m2/\wl.cell? ⟨E.g,3,none⟩=some E.m3/\wl.cell? ⟨gx,3,none⟩=some (.slice an name.length cn)) A1 Bq (fun Aa=>?_);refine M99 ?_;refine la 10 ?_;try simp only[nrm]
      refine da 11 fun K hK=>?_;go_simp
      (with_reducible refine Tz.mono ?_)
      rintro e wp ⟨rfl,Uw⟩;have bp:Below wa.heap.size wa wp:=(zD2 wa.heap.size wa).drew.trans (aA Uw);have Nn:=Bj wp bp;clear Tz Uw;go_wp2_with fail;refine hK.out _ _ (Nn) (fun Aa=>?_);clear hK K;try simp only[nrm]
      have xC:Blk (wp.alloc (.cells #[.int .i64 (i9:Int)] 3 (0,0))) wp.heap.size 3 [.int .i64 (i9:Int)]:=Blk.new wp 3 [.int .i64 (i9:Int)];have bc:Below wa.heap.size wa (wp.alloc (.cells #[.int .i64 (i9:Int)] 3 (0,0))):=bp.alloc bp.size _;have Fy:=Bj _ bc;refine da 12 fun K hK=>?_;go_simp;refine hK.out _ _ (Fy) (fun Aa=>?_);clear hK K;try simp only[nrm]
      have Er:Hid (GS E Fz (wp.alloc (.cells #[.int .i64 (i9:Int)] 3 (0,0)))):=HF.out.on HE.out bc;have HK2:Hid (Kt wa (wp.alloc (.cells #[.int .i64 (i9:Int)] 3 (0,0)))):=Kt.below bc;generalize (wp.alloc (.cells #[.int .i64 (i9:Int)] 3 (0,0)))=wd at *;generalize wp.heap.size=gz at *;have An:wd.ownsRow E.w0.heap.size 3 1 tv (Fz.r 4).n (Fz.r 4).xs:=by have:=Er.out.row 4 A0;rw[HTV.out]at this;exact this
      refine da 13 fun K hK=>?_;rw[if_pos A1];refine mR aH4 Tryz.underlying99 rfl A6 A6 _ _ rfl (v:=tv) rfl An rfl xC rfl (xJ HU4.out) HR4.out Er.out.bel.size ?_;intro g2 c2 wf ho Am hl;have Cc:wd.grownBy wf (Fz.r 4).v.ownBlock:=by rw[HTV.out];exact Am
      have Kk:Hid (GS E ((Fz.at 1 0).put 4 ⟨.slice (some ⟨g2,0,none⟩) ((Fz.r 4).n+1) c2,(Fz.r 4).n+1,(Fz.r 4).xs++[.int .i64 (i9:Int)]⟩) (wf.setCell ⟨E.g,16,none⟩ (.slice (some ⟨g2,0,none⟩) ((Fz.r 4).n+1) c2))):=
       Er.out.put HE.out (i:=4) A0 (q:=(⟨.slice (some ⟨g2,0,none⟩) ((Fz.r 4).n+1) c2,(Fz.r 4).n+1,(Fz.r 4).xs++[Value.int .i64 (i9:Int)]⟩:RD)) Cc ho (fun b hb=>by
        have hb:some g2=some b:=hb;rw[HTV.out];cases hb;exact hl.imp id (fun e=>Nat.le_of_eq e.symm)) 1 0 (Er.out.el.to UA.out.2.1 UA.out.2.2.1 HI9.out)
      have HKF2:Hid (Kt wa (wf.setCell ⟨E.g,16,none⟩ (.slice (some ⟨g2,0,none⟩) ((Fz.r 4).n+1) c2))):=HK2.out.trans (Er.out.kt (i:=4) A0 Cc _);have Et:wf.heap[E.g]?=wd.heap[E.g]?:=Cc.block E.g Er.out.lt (fun e=>Er.out.ng 4 E.g A0 e.symm rfl);have b3:Blk wf E.g 119 (cells E Fz):=Et.trans Er.out.blk;have f16:=b3.free 16;have Au:wf.cell? ⟨gx,3,none⟩=some (.slice an name.length cn):=by
       have e9:=HX.out;have hxw:=HK2.out.b (T:=147) A6 (Zm.out.b A6 (Q9.out.b HX.out));have hkf:wf.heap[gx]?=wd.heap[gx]?:=(Kt.grown (w:=wd) Cc fun b eb cs T fl hb=>by
        obtain⟨Rf,e'⟩:=jD (Er.out.row 4 A0) eb;rw[e']at hb;cases hb;exact mU (i:=4)).blk gx _ _ _ hxw A6
       exact Blk.cell (i:=3) (T:=147) (hkf.trans hxw) rfl
      have h9:wf.cell? ⟨E.g,16,none⟩=some tv/\wf.cell? ⟨E.g,0,none⟩=some E.m0/\wf.cell? ⟨E.g,1,none⟩=some E.m1/\wf.cell? ⟨E.g,2,none⟩=some E.m2/\wf.cell? ⟨E.g,3,none⟩=some E.m3/\wf.cell? ⟨gx,3,none⟩=some (.slice an name.length cn):=⟨b3.cell (i:=16) (by rw[<-HTV.out];rfl),b3.k 0,b3.k 1,b3.k 2,b3.k 3,Au⟩
      refine hK.out _ _ (h9) (fun Aa=>?_);clear hK K;try simp only[nrm]
      refine da 14 fun K hK=>?_;go_simp;refine hK.out _ _ (h9) (fun Aa=>?_);clear hK K;try simp only[nrm]
      refine la 15 ?_;try simp only[nrm]
      refine ea fun K hK=>?_;go_simp;refine hK.out _ _ ?_;clear hK K Aa h9 Au f16 b3 Et An Cc ho Am hl xC bc Fy Nn bp Bq Bj c16 x3 Er HTV;have UB:Hid (Up Fz ((Fz.at 1 0).put 4 ⟨.slice (some ⟨g2,0,none⟩) ((Fz.r 4).n+1) c2,(Fz.r 4).n+1,(Fz.r 4).xs++[.int .i64 (i9:Int)]⟩) 0):=Up.to _ _ _;have Du:Hid ((Fz.r 0).n<=1000000-1):=by
       have:=UA.out.1.n1;have:=Q9.out.up.n1;show _<=_
       omega
      go_wp2_with fail;refine(aSv HE.out Kk.out (zB0 1) (by have:=Du.out;show(Fz.r 0).n<=1000000;omega) _ _ _ _ _ _).mono ?_;rintro e w8 ⟨rfl,d8,a1,a2,a3,a4,a5,_⟩;have HZ:Hid (St E d wb (20*(1+aD ks)) d8 w8):=(St.wide (c:=20*aD ks+nk+1+2*nk+1+1+1+1+1+(0+0+1)) ⟨a1,Q9.out.up.trans ((UA.out.1.trans UB.out).trans a2),Q9.out.kt.trans (Zm.out.trans (HKF2.out.trans a3)),a4,a5⟩ A0)
      clear a1 a2 a3 a4 a5;go_wp2_with fail;exact oJ Tryz.results122 (HK.out _ _ HZ.out)
end Cp
end Go.Proofs.YtcbhdhmhidpdgaaGreat

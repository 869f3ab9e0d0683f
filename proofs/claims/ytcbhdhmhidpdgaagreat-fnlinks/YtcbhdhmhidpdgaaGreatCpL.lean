import Derived.Test.YtcbhdhmhidpdgaaGreatPackI
namespace Go.Proofs.YtcbhdhmhidpdgaaGreat
open Go.RowKit
set_option linter.unusedVariables false
set_option linter.unusedSimpArgs false
set_option maxRecDepth 100000
theorem A34{p:Prop}(h:p:=by have:=Gq.out;omega):p:=h
theorem A39{p:Prop}(h:p:=by have:=Gr.out;omega):p:=h
theorem QA5{p:Prop}(h:p:=by
 have S20:=St.start On.out.1 (Dw.out.2.2.2.2.2.2.1.trans HQ.out.sl) (Dw.out.2.2.2.2.2.2.2.trans HQ.out.s4)
 have Wv:Hid (Gp.p=p):=Dw.out.2.2.2.2.2.1.trans (HQ.out.up.p.1.trans HER.out.2.2)
 have Gq:Hid ((Gp.r 0).n+5900<=1000000):=by
  have:=Gr.out
  have:=HQ.out.up.n1
  show _<=_
  rw[Dw.out.1]
  omega
 have Oe:Hid (Blk Yc gx 111 [.slice a0 p.name.length k0,.bool p.opn,.slice a2 n2 k2,.slice a3 n3 k3,.slice a4 n4 k4]):=On.out.2.2
 have HNS':=HNS.out
 have Qj:=S20.gs.blk.cell (i:=11) (v:=.int .i64 Gp.fr) rfl
 go_wp2_with fail
 clear Qj
 refine eU HE.out S20 A34 (fun d21 w21 q21=>?_)
 go_wp2_with fail
 refine eU HE.out q21 A34 (fun d22 w22 q22=>?_)
 clear q21 S20
 go_wp2_with fail
 go_loopw [9] (fun i wr=>∃(z:Nat) (d':GD),z<=n3/\i=.int .i64 z/\Hid (St E Gp Yc (2+z) d' wr)) (fun i _=>n3-(intOf i).toNat)
 case atStart=>exact⟨0,d22,zD1 _,rfl,q22⟩
 case round=>
  obtain⟨z,d23,hz,rfl,Hs⟩:=hrel
  have Yn:(z:Int)<=8:=A0
  have x3:=(Hs.out.b Oe.out).k 3
  by_cases Ad:z<n3
  .
   have hz':(z:Int)<(n3:Int):=A0
   have x2:=(Hs.out.b Oe.out).k 2
   clear q22
   go_wp2_with fail
   clear x2 x3
   refine eU HE.out Hs.out A34 (fun d24 w24 Yg=>?_)
   go_wp2
   go_roundw
   case rel=>exact⟨z+1,d24,by omega,by go_num,Yg.wide A0⟩
   case measure=>simp[intOf];omega
  .
   have:n3=z:=A0
   subst this
   have Le:=Hs.out
   clear q22 Hs
   have x4:=(Le.b Oe.out).k 4
   go_wp2_with fail
   clear x3 x4
   have Kl:=aKo p.body E d23 wr
   rw[HN4.out]at Kl
   refine Kl _ a4 k4 HE.out Le.gs Le.sl Le.s4 (by have:=Le.up.n1;have:=Gq.out;omega) (by rw[Le.up.p.1,Wv.out];exact Dr.out) Dv.out (fun d24 w24 Km=>?_)
   have Yg:=Le.trans Km
   clear Le Km Kl
   go_wp2_with fail
   refine eU HE.out Yg A34 (fun d25 w25 q25=>?_)
   clear Yg
   go_wp2_with fail
   refine wK HE.out q25 A34 (fun d26 w26 q26=>?_)
   clear q25
   go_wp2_with fail
   have HZ:Pc E d w 5100 d26 w26:=(HQ.out.pc (q26.toPc Dw.out.1 Dw.out.2.1 Dw.out.2.2.1 Dw.out.2.2.2.1 Dw.out.2.2.2.2.1 On.out.2.1) HER.out.1 HER.out.2.1 HKT.out).wide A0
   have Oo:=HK.out _ _ HZ (q26.up.p.1.trans Wv.out)
   rw[<-HER.out.1,HCN.out]at Oo
   exact Oo):p:=h
theorem QA42{p:Prop}(h:p:=by
 rw[hax]at r1
 go_wp2_with fail
 clear r1 x2
 refine eU HE.out Hs.out A39 (fun d5 w5 q5=>?_)
 go_wp2_with fail
 refine eU HE.out q5 A39 (fun d6 w6 q6=>?_)
 clear q5
 go_wp2
 go_roundw
 case rel=>exact⟨z+1,d6,by omega,by go_num,q6.wide A0⟩
 case measure=>simp[intOf];omega):p:=h
namespace Cp
variable{E:En}{w:World}
theorem Pc.wide{d d':GD}{w':World}{c c':Nat}(h:Pc E d w c d' w')(hc:c<=c'):Pc E d w c' d' w':=⟨h.gs,h.fr,h.r1,h.n0,by have:=h.n1;omega,h.n3,h.x3,h.x4,h.kt,h.sl,h.s4⟩
theorem aLm{W:World}{ps:List Pa}{a:Option Addr}{q i:Nat}{x:Pa}(h:aX W a q 2 (ps.map Pa.fl))(hi:ps[i]?=some x):∃b off,a=some ⟨b,off,none⟩/\W.cell? ⟨b,off+i*2+1,none⟩=some (.bool x.arr):=by
 obtain⟨b,off,vs,e2,hr,hc⟩:=h.cellsAt (show(ps.map Pa.fl)[i]?=some x.fl by rw[zA2,hi];rfl);obtain⟨v0,_,rfl,_,v1,_,rfl,rfl,rfl⟩:=hr;exact⟨b,off,e2,hc 1 _ rfl⟩
theorem GS.bodyS{d:GD}(h:GS E d w)(hE:eA E){a:Nat}(ha:a<E.m.procs.length)(x:Int):∃b n q,E.m.procs.length=n/\w.cell? ⟨E.g,14,none⟩=some (.slice (some ⟨b,0,none⟩) n q)/\(∃y,w.cell? ⟨b,a,none⟩=some y)/\w.frozen? ⟨b,a,none⟩=false ∧
  ∃d':GD,(d'.r 0=d.r 0/\d'.r 1=d.r 1/\d'.r 3=d.r 3/\d'.r 4=d.r 4/\d'.fr=d.fr/\d'.p=d.p/\d'.sl=d.sl/\d'.s4=d.s4)/\GS E d' (w.setCell ⟨b,a,none⟩ (.int .i64 x))/\Kt w (w.setCell ⟨b,a,none⟩ (.int .i64 x)):=by
 have hr:=h.row 2 A0;obtain⟨a0,q,e,_,_,_,ha0⟩:=aH hr;have hn:=h.el.n2;obtain⟨b,rfl⟩:=ha0 A0;have Ff:=hr;rw[e]at Ff;have Af:(d.r 2).xs.length=(d.r 2).n*1:=hr.1;obtain⟨y,hy⟩:∃y,(d.r 2).xs[a]?=some y:=⟨_,zA0 A0⟩
 have el:=h.el;have hs:=h.cell hE (i:=2) A0 e a (.int .i64 x) ⟨el.e0,el.e1,fun u hu=>(List.mem_or_eq_of_mem_set hu).elim (el.e2 u) (fun e=>⟨x,e⟩),el.n2,el.e3,el.m3,el.e4,el.n4,el.rp,el.hl⟩;exact⟨b,_,q,hn.symm,h.blk.cell (i:=14) A92,⟨y,cM Ff _ _ hy⟩,Ff.frozenAt _,d.put 2 ⟨(d.r 2).v,(d.r 2).n,(d.r 2).xs.set a (.int .i64 x)⟩,⟨rfl,rfl,rfl,rfl,rfl,rfl,rfl,rfl⟩,hs.1,hs.2⟩
set_option maxHeartbeats 40000000 in
theorem aOy{d:GD}{Q:Ending->World->Prop}(hE:eA E)(hG:GS E d w)(h1:d.sl=0)(h2:d.s4=0){j:Nat}{p:Pr}(hj:E.m.procs[j]?=some p)(hn:(d.r 0).n+6000<=1000000)(k:∀d' w',Pc E d w 5100 d' w'->d'.p=p->Q (.returned (.int .i64 ((d.r 0).n:Int))) w'):
  Calls Tryz.prog 48 #[.pointer (some ⟨E.g,0,none⟩),.int .i64 j] w Q:=by
 have HE:Hid (eA E):=hE;have HK:Hid (∀d' w',Pc E d w 5100 d' w'->d'.p=p->Q (.returned (.int .i64 ((d.r 0).n:Int))) w'):=k;obtain⟨ap,np,qp,em,Es,hL⟩:=aDl hE.rm;have hp8:np<=8:=by rw[<-Es];exact hE.ok.procs
 have hjp:(j:Int)<(np:Int):=by
  have:=(zC1.1 hj).1;omega
 have hd:=hE.ok.head p (zA3 hj);have Dr:Hid (eI E.m E.fs p p.body=true):=hE.ok.gd p (zA3 hj);have HNS:Hid (aK p.body<=250):=hE.ok.nd p (zA3 hj);obtain⟨b,off,v0,v1,v2,v3,v4,rfl,hr,r0,r1,r2,r3,r4⟩:=aJp hL hj;obtain⟨_,_,q0,⟨a0,k0,rfl,_⟩,_,_,q1,rfl,_,_,q2,Dx,_,_,q3,To,_,_,q4,Tn,_⟩:=id hr;cases q0;cases q1;cases q2;cases q3;cases q4;obtain⟨a2,k2,rfl,Av⟩:=Dx.list;obtain⟨a3,k3,rfl,Zf⟩:=To.list;obtain⟨a4,k4,rfl,Bd⟩:=Tn.list;have e2:(p.params.map Pa.fl).length=p.params.length:=zB2 _;have e3:(dK p.locals).length=p.locals.length:=by simp[dK]
 have e4:(sts p.body).length=p.body.length:=by rw[bE,zB2]
 rw[e2]at hr r2;rw[e3]at hr r3;rw[e4]at hr r4;have HL2:Hid (aX E.w0 a2 k2 2 (p.params.map Pa.fl)):=Av;have Dv:Hid (aX E.w0 a4 k4 6 (sts p.body)):=Bd;have hd':=hd;obtain⟨n2,Dl⟩:=zx (p.params.length);obtain⟨n3,Dk⟩:=zx (p.locals.length);obtain⟨n4,hn4⟩:=zx (p.body.length);have Oi:Hid (p.params.length=n2):=Dl.symm;have HN4:Hid (p.body.length=n4):=hn4.symm;rw[<-Dl]at hr r2 hd';rw[<-Dk]at hr r3 hd';rw[<-hn4]at hr r4;clear Dx To Tn Av Zf Bd e2 e3 e4 Dl Dk hn4;have c3:w.cell? ⟨E.g,3,none⟩=some (.slice (some ⟨b,off,none⟩) np qp):=hG.blk.cell (i:=3) (by rw[<-em];rfl);have Bf:=hG.bel;refine M946 ?_;intro r0 r1 r2 r3 r4;clear Bf;have B0:Blk (w.alloc (.cells #[.slice a0 p.name.length k0,.bool p.opn,.slice a2 n2 k2,.slice a3 n3 k3,.slice a4 n4 k4] 111 (0,0))) w.heap.size 111 [.slice a0 p.name.length k0,.bool p.opn,.slice a2 n2 k2,.slice a3 n3 k3,.slice a4 n4 k4]:=Blk.new w 111 [.slice a0 p.name.length k0,.bool p.opn,.slice a2 n2 k2,.slice a3 n3 k3,.slice a4 n4 k4];have HW1:Below w.heap.size w (w.alloc (.cells #[.slice a0 p.name.length k0,.bool p.opn,.slice a2 n2 k2,.slice a3 n3 k3,.slice a4 n4 k4] 111 (0,0))):=(zD2 _ _).alloc (zB0 _) _;have Yb:=hG.on hE HW1;have HR:Hid (aL E.w0 p.fl [.slice a0 p.name.length k0,.bool p.opn,.slice a2 n2 k2,.slice a3 n3 k3,.slice a4 n4 k4]):=hr;have HD:Hid (p.params.length<=4/\p.locals.length<=8):=hd;clear hG hr hd hE k;go_enter Tryz.func48,Tryz.ntmps48;go_upto_region 2 with fail;clear r0 r1 r2 r3 r4 c3;generalize w.alloc (.cells #[.slice a0 p.name.length k0,.bool p.opn,.slice a2 n2 k2,.slice a3 n3 k3,.slice a4 n4 k4] 111 (0,0))=w1 at *;generalize Au:w.heap.size=gx at *;have GQ:=Yb.proc5 HE.out HR.out HD.out;simp only[World.setCells]at GQ;have y0:=B0.cell (i:=0) (v:=.slice a0 p.name.length k0) rfl;have y1:=B0.cell (i:=1) (v:=.bool p.opn) rfl;have y2:=B0.cell (i:=2) (v:=.slice a2 n2 k2) rfl;have y3:=B0.cell (i:=3) (v:=.slice a3 n3 k3) rfl;have y4:=B0.cell (i:=4) (v:=.slice a4 n4 k4) rfl;have C0:=Yb.blk;have C1:=C0.set (i:=5) (.slice a0 p.name.length k0);have C2:=C1.set (i:=6) (.bool p.opn);have C3:=C2.set (i:=7) (.slice a2 n2 k2);have C4:=C3.set (i:=8) (.slice a3 n3 k3);have C5:=C4.set (i:=9) (.slice a4 n4 k4);have u0:=C0.k 5;have e0:=C0.free 5;have u1:=C1.k 6;have e1:=C1.free 6;have u2:=C2.k 7;have e2:=C2.free 7;have u3:=C3.k 8;have e3:=C3.free 8;have u4:=C4.k 9;have e4:=C4.free 9;have Er:Hid (∃d2:GD,GS E d2 (((((w1.setCell ⟨E.g,5,none⟩ (.slice a0 p.name.length k0)).setCell ⟨E.g,6,none⟩ (.bool p.opn)).setCell ⟨E.g,7,none⟩ (.slice a2 n2 k2)).setCell ⟨E.g,8,none⟩ (.slice a3 n3 k3)).setCell ⟨E.g,9,none⟩ (.slice a4 n4 k4))/\d2.r=d.r/\d2.fr=d.fr/\d2.sl=0/\d2.s4=0/\d2.p=p):=⟨_,GQ.1,rfl,rfl,h1,h2,rfl⟩
 have HKT:Hid (Kt w (((((w1.setCell ⟨E.g,5,none⟩ (.slice a0 p.name.length k0)).setCell ⟨E.g,6,none⟩ (.bool p.opn)).setCell ⟨E.g,7,none⟩ (.slice a2 n2 k2)).setCell ⟨E.g,8,none⟩ (.slice a3 n3 k3)).setCell ⟨E.g,9,none⟩ (.slice a4 n4 k4))):=(Kt.below (by rw[Au];exact HW1)).trans GQ.2;have HX:Hid (Blk (((((w1.setCell ⟨E.g,5,none⟩ (.slice a0 p.name.length k0)).setCell ⟨E.g,6,none⟩ (.bool p.opn)).setCell ⟨E.g,7,none⟩ (.slice a2 n2 k2)).setCell ⟨E.g,8,none⟩ (.slice a3 n3 k3)).setCell ⟨E.g,9,none⟩ (.slice a4 n4 k4)) gx 111 [.slice a0 p.name.length k0,.bool p.opn,.slice a2 n2 k2,.slice a3 n3 k3,.slice a4 n4 k4]):=GQ.2.b A6 B0;clear GQ B0 C0 C1 C2 C3 C4 C5 Yb Au HW1;go_upto_region 3 with fail;clear y0 y1 y2 y3 y4 u0 u1 u2 u3 u4 e0 e1 e2 e3 e4;generalize (((((w1.setCell ⟨E.g,5,none⟩ (.slice a0 p.name.length k0)).setCell ⟨E.g,6,none⟩ (.bool p.opn)).setCell ⟨E.g,7,none⟩ (.slice a2 n2 k2)).setCell ⟨E.g,8,none⟩ (.slice a3 n3 k3)).setCell ⟨E.g,9,none⟩ (.slice a4 n4 k4))=w2 at *;obtain⟨d2,G2,er,ef,es,e4,ep⟩:=Er.out;have HER:Hid (d2.r=d.r/\d2.fr=d.fr/\d2.p=p):=⟨er,ef,ep⟩
 have S0:=St.start G2 es e4;have Gr:Hid ((d2.r 0).n+6000<=1000000):=by rw[er];exact hn
 have Xm:j<E.m.procs.length:=(zC1.1 hj).1;have HJ:Hid (j<E.m.procs.length):=Xm;clear Er G2 er ef es e4 ep hn hj Xm hL em Es;obtain⟨ca,cn,cq,_,en,_,_,Id⟩:=S0.code;have HCN:Hid ((d2.r 0).n=cn):=en;have x1:=HX.out.cell (i:=1) (v:=.bool p.opn) rfl;clear en;by_cases hop:p.opn=true
 .
  rw[hop]at x1;have Qj:=S0.gs.blk.cell (i:=11) (v:=.int .i64 d2.fr) rfl;go_wp2_with fail;clear x1 Qj Id;refine eU HE.out S0 A39 (fun d3 w3 q3=>?_);clear S0;go_wp2_with fail;go_loopw [7] (fun i wr=>∃(z:Nat) (d':GD),z<=n2/\i=.int .i64 z/\Hid (St E d2 w2 (1+2*z) d' wr)) (fun i _=>n2-(intOf i).toNat)
  case atStart=>exact⟨0,d3,zD1 _,rfl,q3⟩
  case round=>
   obtain⟨z,d4,hz,rfl,Hs⟩:=hrel;have Yn:(z:Int)<=4:=A0;have x2:=(Hs.out.b HX.out).k 2;by_cases Ad:z<n2
   .
    have hz':(z:Int)<(n2:Int):=A0;obtain⟨x,hx⟩:∃x,p.params[z]?=some x:=⟨_,zA0 (by rw[Oi.out];exact Ad)⟩
    obtain⟨b2,o2,rfl,r1⟩:=aLm HL2.out hx;have r1:=aB r1 Hs.out.bel;clear hx q3;by_cases hax:x.arr=true
    .
     exact QA42
    .
     rw[Bool.not_eq_true]at hax;exact QA42
   .
    have:n2=z:=A0;subst this;have q4:=Hs.out;clear q3 Hs;go_wp2_with fail;clear x2;refine eU HE.out q4 A39 (fun d5 w5 q5=>?_);clear q4;go_wp2_with fail;refine eU HE.out q5 A39 (fun d6 w6 q6=>?_);clear q5;go_wp2_with fail;refine eU HE.out q6 A39 (fun d7 w7 q7=>?_);clear q6;go_wp2_with fail;refine eU HE.out q7 A39 (fun d8 w8 q8=>?_);clear q7;go_wp2_with fail;have HQ:Hid (St E d2 w2 (1+2*n2+1+1+1+1) d8 w8):=q8;obtain⟨bb,nb,qb,enb,c14,⟨ob,cob⟩,fob,Gp,Vb,g20,Ju⟩:=q8.gs.bodyS HE.out HJ.out ((d8.r 0).n:Int);have Ni:(j:Int)<(nb:Int):=by have:=HJ.out;omega
    obtain⟨cb,cm,cqb,_,em2,Ci,_,Fm⟩:=q8.code;have hm9:cm<=1000000:=by have:=Gr.out;omega
    have Js:Hid ((d8.r 0).n=cm):=em2;rw[em2]at g20 Ju;have Dw:Hid (Gp.r 0=d8.r 0/\Gp.r 1=d8.r 1/\Gp.r 3=d8.r 3/\Gp.r 4=d8.r 4/\Gp.fr=d8.fr/\Gp.p=d8.p/\Gp.sl=d8.sl/\Gp.s4=d8.s4):=Vb;have On:Hid (GS E Gp (w8.setCell ⟨bb,j,none⟩ (.int .i64 (cm:Int))).drew/\Kt w8 (w8.setCell ⟨bb,j,none⟩ (.int .i64 (cm:Int))).drew/\Blk (w8.setCell ⟨bb,j,none⟩ (.int .i64 (cm:Int))).drew gx 111 [.slice a0 p.name.length k0,.bool p.opn,.slice a2 n2 k2,.slice a3 n3 k3,.slice a4 n4 k4]):=⟨g20.drew HE.out,Ju.trans (Kt.below (zD2 _ _).drew),(Ju.trans (Kt.below (zD2 _ _).drew)).b A6 (q8.b HX.out)⟩
    clear q8 Vb g20 Ju em2 enb Ci;refine rl 11 (S:=fun wl=>wl.cell? ⟨E.g,14,none⟩=some (.slice (some ⟨bb,0,none⟩) nb qb)/\wl.cell? ⟨E.g,10,none⟩=some (.slice cb cm cqb)) A1 ⟨c14,Fm⟩ (fun Aa=>?_);refine M99 ?_;try simp only[nrm]
    refine da 10 fun K hK=>?_;go_simp;refine hK.out _ _ (⟨c14,Fm⟩) (fun Aa=>?_);clear hK K;try simp only[nrm]
    refine ea fun K hK=>?_;go_simp;refine hK.out _ _ ?_;clear hK K Aa Fm c14 cob fob;generalize (w8.setCell ⟨bb,j,none⟩ (.int .i64 (cm:Int))).drew=Yc at *;exact QA5
 .
  rw[Bool.not_eq_true]at hop;rw[hop]at x1;go_wp2_with fail;clear x1 Id;have HQ:Hid (St E d2 w2 (0) d2 w2):=S0;obtain⟨bb,nb,qb,enb,c14,⟨ob,cob⟩,fob,Gp,Vb,g20,Ju⟩:=S0.gs.bodyS HE.out HJ.out ((d2.r 0).n:Int);have Ni:(j:Int)<(nb:Int):=by have:=HJ.out;omega
  obtain⟨cb,cm,cqb,_,em2,Ci,_,Fm⟩:=S0.code;have hm9:cm<=1000000:=by have:=Gr.out;omega
  have Js:Hid ((d2.r 0).n=cm):=em2;rw[em2]at g20 Ju;have Dw:Hid (Gp.r 0=d2.r 0/\Gp.r 1=d2.r 1/\Gp.r 3=d2.r 3/\Gp.r 4=d2.r 4/\Gp.fr=d2.fr/\Gp.p=d2.p/\Gp.sl=d2.sl/\Gp.s4=d2.s4):=Vb;have On:Hid (GS E Gp (w2.setCell ⟨bb,j,none⟩ (.int .i64 (cm:Int))).drew/\Kt w2 (w2.setCell ⟨bb,j,none⟩ (.int .i64 (cm:Int))).drew/\Blk (w2.setCell ⟨bb,j,none⟩ (.int .i64 (cm:Int))).drew gx 111 [.slice a0 p.name.length k0,.bool p.opn,.slice a2 n2 k2,.slice a3 n3 k3,.slice a4 n4 k4]):=⟨g20.drew HE.out,Ju.trans (Kt.below (zD2 _ _).drew),(Ju.trans (Kt.below (zD2 _ _).drew)).b A6 (S0.b HX.out)⟩
  clear S0 Vb g20 Ju em2 enb Ci;refine rl 11 (S:=fun wl=>wl.cell? ⟨E.g,14,none⟩=some (.slice (some ⟨bb,0,none⟩) nb qb)/\wl.cell? ⟨E.g,10,none⟩=some (.slice cb cm cqb)) A1 ⟨c14,Fm⟩ (fun Aa=>?_);refine M99 ?_;try simp only[nrm]
  refine da 10 fun K hK=>?_;go_simp;refine hK.out _ _ (⟨c14,Fm⟩) (fun Aa=>?_);clear hK K;try simp only[nrm]
  refine ea fun K hK=>?_;go_simp;refine hK.out _ _ ?_;clear hK K Aa Fm c14 cob fob;generalize (w2.setCell ⟨bb,j,none⟩ (.int .i64 (cm:Int))).drew=Yc at *;exact QA5
end Cp
end Go.Proofs.YtcbhdhmhidpdgaaGreat

import Derived.Test.YtcbhdhmhidpdgaaGreatPackM
namespace Go.Proofs.YtcbhdhmhidpdgaaGreat
open Go.RowKit
set_option linter.unusedVariables false
set_option linter.unusedSimpArgs false
set_option maxRecDepth 100000
section
theorem A49{p:Prop}(h:p:=by simp only[zB1,zC3];omega):p:=h
namespace Cp
theorem aQn (w:World)(k i:Nat)(v:Value):w.grownBy (w.setCell ⟨k,i,none⟩ v) (some k):=
 ⟨rfl,rfl,rfl,by simp,fun j hj Ae=>heap_setCell_other w ⟨k,i,none⟩ j v (fun e=>Ae A86)⟩
section
variable {E:En} {d d':GD} {w w':World}
theorem GS.far (h:GS E d w)(hE:eA E){r:Option Nat}(hg:w.grownBy w' r)(hb:∀b,r=some b->E.w0.heap.size<=b)(hr:∀b,r=some b->∃cs T fl,w.heap[b]?=some (Obj.cells cs T fl)/\aHg T=false):GS E d w':=by
 have Ae:∀b cs T,w.heap[b]?=some (Obj.cells cs T (0,0))->aHg T=true->some b ≠ r:=fun b cs T hb hm e=>by
  obtain⟨Rf,T',fl',e1,e2⟩:=hr b e.symm;rw[hb]at e1;cases e1;rw[hm]at e2;cases e2
 have An:∀i,i<5->∀b,(d.r i).v.ownBlock=some b->w'.heap[b]?=w.heap[b]?:=fun i hi b e=>by
  obtain⟨cs,h1⟩:=jD (h.row i hi) e;exact hg.block b ((h.row i hi).lt b e).2 (Ae b cs _ h1 mU)
 exact⟨(hg.block E.g h.lt (Ae E.g _ _ h.blk rfl)).trans h.blk,h.bel.grown hg h.bel.size hb,fun i hi=>bW (h.row i hi) (An i hi),h.dj,h.ng,h.el⟩
theorem GS.farS (h:GS E d w)(hE:eA E){b i:Nat}{T:TypeId}{vs:List Value}(hb:Blk w b T vs)(Ad:E.w0.heap.size<=b)(hm:aHg T=false)(v:Value):GS E d (w.setCell ⟨b,i,none⟩ v):=
 h.far hE (aQn w b i v) (fun c e=>by cases e;exact Ad) (fun c e=>by cases e;exact⟨_,_,_,hb,hm⟩)
theorem GS.frame (h:GS E d w)(hE:eA E)(x:Int):GS E { d with fr:=x } (w.setCell ⟨E.g,11,none⟩ (.int .i64 x))/\Kt w (w.setCell ⟨E.g,11,none⟩ (.int .i64 x)):=by
 have e:=h.el;exact⟨h.own hE (d':={ d with fr:=x }) (cs:=[.int .i64 x]) (o:=11) rfl (h.blk.set (i:=11) (.int .i64 x)) ⟨e.e0,e.e1,e.e2,e.n2,e.e3,e.m3,e.e4,e.n4,e.rp,e.hl⟩,h.kto [.int .i64 x] 11⟩
theorem GS.mostS (h:GS E d w)(hE:eA E)(x:Int):GS E { d with mo:=x } (w.setCell ⟨E.g,12,none⟩ (.int .i64 x))/\Kt w (w.setCell ⟨E.g,12,none⟩ (.int .i64 x)):=by
 have e:=h.el;exact⟨h.own hE (d':={ d with mo:=x }) (cs:=[.int .i64 x]) (o:=12) rfl (h.blk.set (i:=12) (.int .i64 x)) ⟨e.e0,e.e1,e.e2,e.n2,e.e3,e.m3,e.e4,e.n4,e.rp,e.hl⟩,h.kto [.int .i64 x] 12⟩
structure Xo (E:En) (w:World) (v:Value) (n:Nat) (xss:List (List Value)):Prop where
 own:w.ownsRow E.w0.heap.size 68 3 v n xss.flatten
 len:xss.length=n
 ty:∀us ∈ xss,Eg.RV E.τ0 [.b 4,.n,.n] us
theorem Xo.nil (E:En)(w:World):Xo E w (.slice none 0 0) 0 []:=⟨⟨by simp,.inl ⟨rfl,rfl⟩⟩,rfl,fun us h=>by cases h⟩
theorem Xo.kt {v:Value}{n:Nat}{xss:List (List Value)}(h:Xo E w v n xss)(k:Kt w w'):Xo E w' v n xss:=⟨bW h.own fun b hb=>by
 obtain⟨cs,e⟩:=jD h.own hb;exact k.blk b cs _ _ e rfl,h.len,h.ty⟩
theorem Xo.on {v:Value}{n:Nat}{xss:List (List Value)}(h:Xo E w v n xss)(k:Below w.heap.size w w'):Xo E w' v n xss:=⟨bW h.own fun b hb=>k.block b (h.own.lt b hb).2,h.len,h.ty⟩
theorem aSm (hE:eA E)(h:GS E d w){v:Value}{n:Nat}{xss:List (List Value)}(hX:Xo E w v n xss):
  ∃τ',Eg.Fr ⟨true,[],E.τ0,E.w0⟩ τ' w/\Eg.Tg τ'/\Eg.Sub E.τ0 τ'/\Eg.SV τ' (.rc 18) n v/\Eg.SV τ' (.rc 19) (d.r 1).n (d.r 1).v/\(∀b,w.heap.size<=b->τ' b=none)/\∀b,v.ownBlock ≠ some b->(d.r 1).v.ownBlock ≠ some b->τ' b=E.τ0 b:=by
 have f0:Eg.Fr ⟨true,[],E.τ0,E.w0⟩ E.τ0 w:=((Eg.Fr.refl (st:=true) (K:=[]) hE.th).below h.bel).fr;have h1:=h.row 1 A0;obtain⟨Fc,ey,hy⟩:=h.el.e1;obtain⟨τ1,f1,s1,u1,n1,t1⟩:=f0.own (k:=.rc 18) (xss:=xss) (base:=E.w0.heap.size) hX.own hX.ty hX.len (zB0 _) (fun g hg=>hE.th.fresh (hX.own.lt g hg).1);have Af:Fc.length=(d.r 1).n:=by
  have e1:=h1.1;rw[ey]at e1;have e2:=Eg.flat_len Fc (k:=3) fun us hu=>Eg.RV.length (hy us hu);have e1:Fc.flatten.length=(d.r 1).n*3:=e1;omega
 obtain⟨τ2,f2,s2,u2,n2,t2⟩:=f1.own (k:=.rc 19) (v:=(d.r 1).v) (n:=(d.r 1).n) (xss:=Fc) (base:=E.w0.heap.size) (by rw[<-ey];exact h1) (fun us hu=>(hy us hu).sub u1) Af (zB0 _) (fun g hg=>by
  have Ae:v.ownBlock ≠ some g:=fun e=>by
   obtain⟨c1,e1⟩:=jD hX.own e;obtain⟨c2,e2⟩:=jD h1 hg;rw[e1]at e2;cases e2
  rw[n1 g Ae];exact hE.th.fresh (h1.lt g hg).1)
 exact⟨τ2,f2,t2 (t1 hE.tg),u1.trans u2,s1.sub u2,s2,fun b hb=>f2.th.fresh hb,fun b h1 h2=>(n2 b h2).trans (n1 b h1)⟩
theorem aQ9:∀(n:Nat) (xs:List Value),xs.length=n*6->aCv xs->∃l:List In6,l.length=n/\xs=gV l
 | 0,xs,h,_=>⟨[],rfl,List.length_eq_zero_iff.1 A0⟩| n+1,xs,h,ha=>by
  obtain⟨x0,x1,x2,x3,x4,x5,ys,rfl⟩:∃x0 x1 x2 x3 x4 x5 ys,xs=x0 :: x1 :: x2 :: x3 :: x4 :: x5 :: ys:=by
   match xs,h with
   | [],h=>exact absurd h A9| [_],h=>exact absurd h A49| [_,_],h=>exact absurd h A49| [_,_,_],h=>exact absurd h A49| [_,_,_,_],h=>exact absurd h A49| [_,_,_,_,_],h=>exact absurd h A49| x0 :: x1 :: x2 :: x3 :: x4 :: x5 :: ys,_=>exact⟨x0,x1,x2,x3,x4,x5,ys,rfl⟩
  obtain⟨l,hl,e⟩:=aQ9 n ys (by simp only[zB1]at h;omega) (fun u hu=>ha u (by simp[hu]));obtain⟨y0,rfl⟩:=ha x0 A9;obtain⟨y1,rfl⟩:=ha x1 A9;obtain⟨y2,rfl⟩:=ha x2 A9;obtain⟨y3,rfl⟩:=ha x3 A9;obtain⟨y4,rfl⟩:=ha x4 A9;obtain⟨y5,rfl⟩:=ha x5 A9;exact⟨⟨y0,y1,y2,y3,y4,y5⟩ :: l,by simp[hl],by rw[e];rfl⟩
theorem GS.codeRow (h:GS E d w):∃a c l,(d.r 0).v=.slice a (d.r 0).n c/\aBc w a (d.r 0).n l:=by
 have h0:=h.row 0 A0;obtain⟨a,c,e,_,_,_,ha⟩:=aH h0;obtain⟨l,hl,ex⟩:=aQ9 (d.r 0).n (d.r 0).xs h0.1 h.el.e0;refine⟨a,c,l,e,hl,fun hn=>?_⟩;obtain⟨b,rfl⟩:=ha hn;refine⟨b,0,rfl,fun k u hu=>?_⟩;rw[zJ1];rw[e]at h0;exact cM h0 k u (by rw[ex];exact hu)
end
end Cp
end
section
namespace Cp
def zOb:List Value:=[.slice none 0 0,.slice none 0 0,.slice none 0 0,.int .i64 0,.slice none 0 0]
theorem aN9 (τ:Eg.Sm):Eg.RV τ (Eg.Dt 20).2 zOb:=⟨_,_,rfl,⟨0,zD1 _,Eg.SV.nil _⟩,_,_,rfl,⟨0,⟨zB0 _,zD1 _⟩,Eg.SV.nil _⟩,_,_,rfl,⟨0,⟨zB0 _,zD1 _⟩,Eg.SV.nil _⟩,_,_,rfl,⟨0,rfl,by unfold Eg.I64;omega⟩,_,_,rfl,⟨0,zD1 _,Eg.SV.nil _⟩,rfl⟩
structure Lo (E:En) (gm gr go:Nat) (rq:RD) (nm:Value) (d:GD) (w:World) (xv:Value) (xn:Nat) (dt:Int):Prop where
 gs:GS E d w
 sl:d.sl=0
 s4:d.s4=0
 r1:d.r 1=rq
 bm:Blk w gm 81 E.ms
 br:Blk w gr 36 zOb
 bo:Blk w go 36 [nm,xv,rq.v,.int .i64 dt,.slice none 0 0]
 xo:∃xss,Xo E w xv xn xss
 di:Eg.I64 dt
 lt:E.w0.heap.size<=gm/\E.w0.heap.size<=gr/\E.w0.heap.size<=go/\gm ≠ go/\gr ≠ go
section
variable {E:En} {gm gr go:Nat} {rq:RD} {nm:Value} {d d' d1:GD} {w w' w1:World} {xv:Value} {xn:Nat} {dt:Int}
theorem Lo.start (hE:eA E)(g:GS E d w)(h1:d.sl=0)(h4:d.s4=0)(hb:Below w.heap.size w w')(bm:Blk w gm 81 E.ms)(br:Blk w gr 36 zOb)(bo:Blk w' go 36 [nm,.slice none 0 0,(d.r 1).v,.int .i64 0,.slice none 0 0])(lm:E.w0.heap.size<=gm)(lr:E.w0.heap.size<=gr)(lo:w.heap.size<=go):Lo E gm gr go (d.r 1) nm d w' (.slice none 0 0) 0 0:=
 ⟨g.on hE hb,h1,h4,rfl,bm.below hb bm.lt,br.below hb br.lt,bo,⟨[],Xo.nil E w'⟩,by unfold Eg.I64;omega,lm,lr,zF2 g.bel.size lo,by have:=bm.lt;omega,by have:=br.lt;omega⟩
theorem Lo.kt (h:Lo E gm gr go rq nm d w xv xn dt)(g:GS E d' w')(k:Kt w w')(h1:d'.sl=0)(h4:d'.s4=0)(hr:d'.r 1=d.r 1):Lo E gm gr go rq nm d' w' xv xn dt:=
 ⟨g,h1,h4,hr.trans h.r1,k.b A6 h.bm,k.b A6 h.br,k.b A6 h.bo,by
  obtain⟨xss,hx⟩:=h.xo;exact⟨xss,hx.kt k⟩,h.di,h.lt⟩
theorem Lo.on (h:Lo E gm gr go rq nm d w xv xn dt)(hE:eA E)(hb:Below w.heap.size w w'):Lo E gm gr go rq nm d w' xv xn dt:=h.kt (h.gs.on hE hb) (Kt.below hb) h.sl h.s4 rfl
theorem Lo.pc {c:Nat}(h:Lo E gm gr go rq nm d w xv xn dt)(p:Pc E d w c d1 w1):Lo E gm gr go rq nm d1 w1 xv xn dt:=h.kt p.gs p.kt p.sl p.s4 p.r1
theorem Xo.ne {xss:List (List Value)}(h:Xo E w xv xn xss){b T:Nat}{vs:List Value}(hb:Blk w b T vs)(hT:T ≠ 68):xv.ownBlock ≠ some b:=fun e=>by
 obtain⟨cs,h1⟩:=jD h.own e;rw[hb]at h1;cases h1;exact hT rfl
theorem Lo.data (h:Lo E gm gr go rq nm d w xv xn dt)(hE:eA E){x:Int}(hx:Eg.I64 x):Lo E gm gr go rq nm d (w.setCell ⟨go,3,none⟩ (.int .i64 x)) xv xn x:=by
 have Ad:=h.lt;refine⟨h.gs.farS hE h.bo A0 A6 _,h.sl,h.s4,h.r1,h.bm.other Ad.2.2.2.1,h.br.other Ad.2.2.2.2,h.bo.set (i:=3) (.int .i64 x), ?_,hx,h.lt⟩;obtain⟨xss,hX⟩:=h.xo;exact⟨xss,bW hX.own fun b hb=>heap_setCell_other w ⟨go,3,none⟩ b _ (fun e=>hX.ne h.bo A6 (by rw[show b=go from e]at hb;exact hb)),hX.len,hX.ty⟩
theorem Lo.app {xss:List (List Value)}(h:Lo E gm gr go rq nm d w xv xn dt)(hE:eA E)(hX:Xo E w xv xn xss){v':Value}{us:List Value}(ho:w1.ownsRow E.w0.heap.size 68 3 v' (xn+1) (xss.flatten++us))(hg:w.grownBy w1 xv.ownBlock)(hu:Eg.RV E.τ0 [.b 4,.n,.n] us):
  (∀(b T:Nat) (vs:List Value),Blk w b T vs->T ≠ 68->Blk w1 b T vs)/\Lo E gm gr go rq nm d (w1.setCell ⟨go,1,none⟩ v') v' (xn+1) dt:=by
 have Cd:∀(b T:Nat) (vs:List Value),Blk w b T vs->T ≠ 68->Blk w1 b T vs:=fun b T vs hb hT=>hb.below_row hg (hX.ne hb hT);have Ad:=h.lt;have bo1:=Cd _ _ _ h.bo A6;have g1:GS E d w1:=h.gs.far hE hg (fun b e=>(hX.own.lt b e).1) (fun b e=>by
  obtain⟨cs,e1⟩:=jD hX.own e;exact⟨cs,_,_,e1,by decide⟩)
 have hX':Xo E w1 v' (xn+1) (xss++[us]):=⟨by simpa using ho,by simp[hX.len],fun vs hv=>by
  rcases List.mem_append.1 hv with hv|hv
  .
   exact hX.ty vs hv
  .
   rw[List.mem_singleton.1 hv];exact hu⟩
 refine⟨Cd,⟨g1.farS hE bo1 A0 A6 _,h.sl,h.s4,h.r1,(Cd _ _ _ h.bm A6).other Ad.2.2.2.1,(Cd _ _ _ h.br A6).other Ad.2.2.2.2,bo1.set (i:=1) v',⟨xss++[us],bW hX'.own fun b hb=>heap_setCell_other w1 ⟨go,1,none⟩ b _ (fun e=>hX'.ne bo1 A6 (by rw[show b=go from e]at hb;exact hb)),hX'.len,hX'.ty⟩,h.di,h.lt⟩⟩
theorem Lo.cuts {c:Nat}(h:Lo E gm gr go rq nm d w xv xn dt)(hE:eA E)(p:Pc E d w c d1 w1):∃a0 n0 c0 a3 n3 c3 a4 n4 c4,
  (w1.cell? ⟨E.g,10,none⟩=some (.slice a0 n0 c0)/\((d.r 0).n:Int)<=(c0:Int)/\c0<=maxLen/\w1.frozen? ⟨E.g,10,none⟩=false) ∧
  ((w1.setCell ⟨E.g,10,none⟩ (.slice a0 (d.r 0).n c0)).cell? ⟨E.g,15,none⟩=some (.slice a3 n3 c3)/\((d.r 3).n:Int)<=(c3:Int)/\c3<=maxLen/\(w1.setCell ⟨E.g,10,none⟩ (.slice a0 (d.r 0).n c0)).frozen? ⟨E.g,15,none⟩=false) ∧
  (((w1.setCell ⟨E.g,10,none⟩ (.slice a0 (d.r 0).n c0)).setCell ⟨E.g,15,none⟩ (.slice a3 (d.r 3).n c3)).cell? ⟨E.g,16,none⟩=some (.slice a4 n4 c4)/\((d.r 3).n:Int)<=(c4:Int)/\c4<=maxLen/\((w1.setCell ⟨E.g,10,none⟩ (.slice a0 (d.r 0).n c0)).setCell ⟨E.g,15,none⟩ (.slice a3 (d.r 3).n c3)).frozen? ⟨E.g,16,none⟩=false) ∧
  ∃d4:GD,(d4.r 0).n=(d.r 0).n/\Kt w (((w1.setCell ⟨E.g,10,none⟩ (.slice a0 (d.r 0).n c0)).setCell ⟨E.g,15,none⟩ (.slice a3 (d.r 3).n c3)).setCell ⟨E.g,16,none⟩ (.slice a4 (d.r 3).n c4))/\Lo E gm gr go rq nm d4 (((w1.setCell ⟨E.g,10,none⟩ (.slice a0 (d.r 0).n c0)).setCell ⟨E.g,15,none⟩ (.slice a3 (d.r 3).n c3)).setCell ⟨E.g,16,none⟩ (.slice a4 (d.r 3).n c4)) xv xn dt:=by
 obtain⟨a0,c0,e0,l0,m0,_⟩:=aH (p.gs.row 0 A0);obtain⟨a3,c3,e3,l3,m3,_⟩:=aH (p.gs.row 3 A0);obtain⟨a4,c4,e4,l4,m4,_⟩:=aH (p.gs.row 4 A0);have hn4:(d1.r 4).n=(d1.r 3).n:=by have:=p.gs.el.n4;have:=p.s4;omega
 have b0:=p.n0;have b3:=p.n3;have k1:=p.gs.cut hE (i:=0) A0 e0 (m:=(d.r 0).n) b0 _ _ (p.gs.el.cut0 p.sl b0 _);have k2:=k1.1.cut hE (i:=3) (a:=a3) (n:=(d1.r 3).n) (c:=c3) A0 e3 (m:=(d.r 3).n) b3 _ _ (k1.1.el.cut3 b3 _);obtain⟨us,Uh⟩:=p.x3;have hx3:(d1.r 3).xs.take ((d.r 3).n*1)=(d.r 3).xs:=by
  have h9:(d.r 3).xs.length=(d.r 3).n*1:=(h.gs.row 3 A0).1;rw[Uh,List.take_append_of_le_length A0,zD3 A0]
 have hN:aF5 (d.r 0).n (d.r 3).xs:=by have:=h.gs.el.e3;rw[h.sl]at this;exact this
 have hM:(d.r 3).n<=(d.r 0).n:=by have:=h.gs.el.m3;rw[h.sl]at this;exact this
 have k3:=k2.1.cut hE (i:=4) (a:=a4) (n:=(d1.r 4).n) (c:=c4) A0 e4 (m:=(d.r 3).n) (by show(d.r 3).n<=(d1.r 4).n;omega) 0 0 (k2.1.el.cut4 (m:=(d.r 3).n) rfl (by show aF5 (d.r 0).n ((d1.r 3).xs.take ((d.r 3).n*1));rw[hx3];exact hN) hM _);have q1:=p.gs.blk;have q2:=k1.1.blk;have q3:=k2.1.blk;refine⟨a0,(d1.r 0).n,c0,a3,(d1.r 3).n,c3,a4,(d1.r 4).n,c4,⟨q1.cell (i:=10) (by rw[<-e0];rfl),by omega,m0,q1.free 10⟩,⟨q2.cell (i:=15) (by rw[<-e3];rfl),by omega,m3,q2.free 15⟩,⟨q3.cell (i:=16) (by rw[<-e4];rfl),by omega,m4,q3.free 16⟩, ?_⟩;have fin:∀d4:GD,GS E d4 (((w1.setCell ⟨E.g,10,none⟩ (.slice a0 (d.r 0).n c0)).setCell ⟨E.g,15,none⟩ (.slice a3 (d.r 3).n c3)).setCell ⟨E.g,16,none⟩ (.slice a4 (d.r 3).n c4))->d4.sl=0->d4.s4=0->d4.r 1=d1.r 1->(d4.r 0).n=(d.r 0).n->∃d4:GD,(d4.r 0).n=(d.r 0).n/\Kt w (((w1.setCell ⟨E.g,10,none⟩ (.slice a0 (d.r 0).n c0)).setCell ⟨E.g,15,none⟩ (.slice a3 (d.r 3).n c3)).setCell ⟨E.g,16,none⟩ (.slice a4 (d.r 3).n c4))/\Lo E gm gr go rq nm d4 (((w1.setCell ⟨E.g,10,none⟩ (.slice a0 (d.r 0).n c0)).setCell ⟨E.g,15,none⟩ (.slice a3 (d.r 3).n c3)).setCell ⟨E.g,16,none⟩ (.slice a4 (d.r 3).n c4)) xv xn dt:=fun d4 g h1 h2 h3 h4=>
  ⟨d4,h4,((p.kt.trans k1.2).trans k2.2).trans k3.2,h.kt g (((p.kt.trans k1.2).trans k2.2).trans k3.2) h1 h2 (h3.trans p.r1)⟩
 exact fin _ k3.1 rfl rfl rfl rfl
theorem Lo.fix (h:Lo E gm gr go rq nm d w xv xn dt)(hE:eA E){a:Nat}(ha:a<(d.r 0).n)(x:Int):∃b q,w.cell? ⟨E.g,10,none⟩=some (.slice (some ⟨b,0,none⟩) (d.r 0).n q)/\(∃y,w.cell? ⟨b,a*6+4,none⟩=some y)/\w.frozen? ⟨b,a*6+4,none⟩=false ∧
  ∃d':GD,((d'.r 0).n=(d.r 0).n/\d'.r 3=d.r 3)/\Lo E gm gr go rq nm d' (w.setCell ⟨b,a*6+4,none⟩ (.int .i64 x)) xv xn dt:=by
 have hr:=h.gs.row 0 A0;obtain⟨a0,q,e,_,_,_,ha0⟩:=aH hr;obtain⟨b,rfl⟩:=ha0 A0;have Ff:=hr;rw[e]at Ff;have Af:(d.r 0).xs.length=(d.r 0).n*6:=hr.1;obtain⟨y,hy⟩:∃y,(d.r 0).xs[a*6+4]?=some y:=⟨_,zA0 A0⟩
 have el:=h.gs.el;have hs:=h.gs.cell hE (i:=0) A0 e (a*6+4) (.int .i64 x) ⟨fun u hu=>(List.mem_or_eq_of_mem_set hu).elim (el.e0 u) (fun e=>⟨x,e⟩),el.e1,el.e2,el.n2,el.e3,el.m3,el.e4,el.n4,el.rp,el.hl⟩;exact⟨b,q,h.gs.blk.cell (i:=10) A92,⟨y,cM Ff _ _ hy⟩,Ff.frozenAt _,d.put 0 ⟨(d.r 0).v,(d.r 0).n,(d.r 0).xs.set (a*6+4) (.int .i64 x)⟩,⟨rfl,rfl⟩,h.kt hs.1 hs.2 h.sl h.s4 rfl⟩
end
end Cp
end
end Go.Proofs.YtcbhdhmhidpdgaaGreat

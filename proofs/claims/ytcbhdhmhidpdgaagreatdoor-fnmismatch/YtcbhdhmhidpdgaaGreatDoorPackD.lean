import Derived.Test.YtcbhdhmhidpdgaaGreatDoorSpEx
namespace Go.Proofs.YtcbhdhmhidpdgaaGreatDoor
open Go.RowKit
set_option linter.unusedVariables false
set_option linter.unusedSimpArgs false
set_option maxRecDepth 100000
section
variable{left:Int}{ks:List Ex}{es:List St}{nb nk:Nat}
def fW (k n:Int)(name:List Int)(nk nb ne:Nat):Bool:=
 inB k 0 7 && (inB n 0 (cS k) && inB nk (cD k) (cD k) && (if eG k then aN name false else decide (name.length=0))) && (decide (nb=0) || iC k) && (decide (ne=0) || decide (k=2))
theorem nW (k n:Int)(name:List Int)(ks:List Ex)(nb ne:Nat):oK k n name ks nb ne=(fW k n name ks.length nb ne && !ks.any lH && (!decide (k=7) || ks.any iW)):=rfl
theorem bI{k n:Int}{name:List Int}{ne:Nat}(h:inB k 0 7=false\/¬(nk:Int)=cD k\/inB n 0 (cS k)=false\/(eG k=true/\aN name false=false)\/(eG k=false/\¬name.length=0)\/(¬nb=0/\iC k=false)\/(¬ne=0/\¬k=2)):fW k n name nk nb ne=false:=by
 unfold fW;rcases h with h|h|h|⟨h1,h2⟩|⟨h1,h2⟩|⟨h1,h2⟩|⟨h1,h2⟩
 .
  rw[h];rfl
 .
  have:inB (nk:Int) (cD k) (cD k)=false:=by simp[inB];omega
  rw[this];simp
 .
  rw[h];simp
 .
  rw[h1,if_pos rfl,h2];simp
 .
  rw[h1,zC2 h2];simp
 .
  rw[zC2 h1,h2];simp
 .
  rw[zC2 h1,zC2 h2];simp
theorem iH{k n:Int}{name:List Int}{ne:Nat}(h1:inB k 0 7=true)(h2:(nk:Int)=cD k)(h3:inB n 0 (cS k)=true)(h4:(if eG k then aN name false else decide (name.length=0))=true)(h5:(decide (nb=0) || iC k)=true)(h6:(decide (ne=0) || decide (k=2))=true):fW k n name nk nb ne=true:=by
 have:inB (nk:Int) (cD k) (cD k)=true:=by simp[inB];omega
 unfold fW;rw[h1,this,h3,h4,h5,h6];rfl
def kG (ks:List Ex)(bs es:List St)(d left:Int):Bool:=dY ks d false left && cI bs d (left-(aD ks:Int)) && cI es d (left-(aD ks:Int)-(aK bs:Int))
theorem aB4{k n:Int}{name:List Int}{bs:List St}{d:Int}(h:fW k n name ks.length bs.length es.length=false):aY (.mk k n name ks bs es) d left=false:=by
 refine mW ?_;rw[tD,nW,h];rfl
theorem aB5{n:Int}{name:List Int}{x:Ex}{bs:List St}{d:Int}(h:¬x.kind=6):aY (.mk 7 n name [x] bs es) d left=false:=by
 refine mW ?_;rw[tD,nW];simp[iW,h]
theorem iL{k n:Int}{name:List Int}{bs:List St}{d:Int}(h:fW k n name ks.length bs.length es.length=true)(hc:(!decide (k=7) || ks.any iW)=true)(hl:1<=left)(hd:d<=16):aY (.mk k n name ks bs es) d left=kG ks bs es (d+1) (left-1):=by
 unfold kG dY;cases ha:ks.any lH
 .
  simp only[Bool.not_false,Bool.or_true,Bool.true_and];exact aB3 (by rw[tD,nW,h,ha,hc];rfl) hl hd
 .
  simp only[Bool.not_true,Bool.or_self,Bool.false_and];refine mW ?_;rw[tD,nW,ha];simp
theorem iD{l:List Ex}{d:Int}{Bh:Bool}(h:dY l d Bh left=true):(aD l:Int)<=left:=by
 unfold dY at h;rw[zC0]at h;exact aEp h.2
end
theorem A12{p:Prop}(h:p:=by have:=(zC1.1 hy).1;rw[Am.out]at this;exact this):p:=h
theorem A17{p:Prop}(h:p:=by rw[Am.out];exact zB0 _):p:=h
theorem A26{p:Prop}(h:p:=by rw[Am.out];exact Ad):p:=h
theorem A36{p:Prop}(h:p:=by simp[inB,cS];omega):p:=h
theorem QA8{p:Prop}(h:p:=by
 clear HC q5
 go_wp2
 go_ret
 rw[he.out]
 exact⟨rfl,aC Bl Az,fun h=>by
  have:=Ng h
  rw[HD.out,show left-((1+(aD ks+aK bs+aK es):Nat):Int)=m-(aD ks:Int)-(aK bs:Int)-(aK es:Int) by have:=Bu.out;omega]
  exact this⟩):p:=h
theorem QA38{p:Prop}(h:p:=by
 show _=_
 rw[iL Ns.out Nx.out A15 A0,Bu.out]):p:=h
theorem M966{p q:Prop}(k:q)(h:Kx q->p:=by
 intro kQz
 replace Ab:∀i v,_->_:=fun i v hv=>aB (Ab i v hv) hb
 have t0:wr.cell? ⟨b3,o3+j*5,none⟩=some u0:=Ab 0 _ rfl
 have t1:wr.cell? ⟨b3,o3+j*5+1,none⟩=some u1:=Ab 1 _ rfl
 have t2:wr.cell? ⟨b3,o3+j*5+2,none⟩=some u2:=Ab 2 _ rfl
 have t3:wr.cell? ⟨b3,o3+j*5+3,none⟩=some u3:=Ab 3 _ rfl
 have t4:wr.cell? ⟨b3,o3+j*5+4,none⟩=some u4:=Ab 4 _ rfl
 have Cd:=zF2 (bZ (zA3 Bc)) De
 have HC:=S3 x (zA3 hx) w0 wr [u0,u1,u2,u3,u4] g (m-(aD (ks.take j):Int)) (d+1) false Ak hb hg Cs.out A22 A0 Cr Cj Cd
 revert HC;revert Cd;revert t4;revert t3;revert t2;revert t1;revert t0;revert Ab
 exact kQz.o):p:=h ⟨k⟩
theorem M94{p q:Prop}(k:q)(h:Kx q->p:=by
 intro kQz
 have Ga:Hid _:=x0
 have HY:Hid (w.grownBy w2 (some g)):=yy
 have Bn:Hid (Below w0.heap.size w0 w2):=hb
 have Ea:Hid (Lft w2 g (m-(aD (ks.take 0):Int))):=by show Lft _ _ _;simpa [aD] using Av
 have Eq:=hid h3
 have Nq:=hid h4
 have Np:=hid h5
 have Cq:0<=m:=A0
 have Ez:m<=250:=by have:=Bu.out;omega
 have Cj:d+1<=17:=A0
 have Cr:0<=d+1:=A0
 revert Cr;revert Cj;revert Ez;revert Cq;revert Np;revert Nq;revert Eq;revert Ea;revert Bn;revert HY;revert Ga
 exact kQz.o):p:=h ⟨k⟩
theorem M97{p q:Prop}(k:q)(h:Kx q->p:=by
 intro kQz
 have Hm:Hid (dY ks (d+1) false m=true):=dJ (fun i y hy=>Ao.out i y A12 hy) Cq
 have Mx:=iD Hm.out
 have Da:=Cs.out
 rw[zD3 A17]at Da
 have Bl:=aC HY.out Al.out
 have q4:=x0.k 4
 have q5:=x0.k 5
 have HC:=S4 w0 wr a4 c4 g (m-(aD ks:Int)) (d+1) Nq.out hb hg Da A0 A0 Cr Cj Mr
 revert HC;revert q5;revert q4;revert Bl;revert Da;revert Mx;revert Hm
 exact kQz.o):p:=h ⟨k⟩
theorem M916{p q:Prop}(k:q)(h:Kx q->p:=by
 intro kQz
 obtain⟨x,hx⟩:∃x,ks[j]?=some x:=⟨ks[j]' A26,zA0 _⟩
 have Bc:(exs ks)[j]?=some x.fl:=by rw[aX,zA2,hx];rfl
 obtain⟨us,Ak,Ab⟩:=(aW.el Eq.out Bc).vals
 revert Ab;revert Ak;revert us;revert Bc;revert hx;revert x
 exact kQz.o):p:=h ⟨k⟩
theorem M917{p q:Prop}(k:q)(h:Kx q->p:=by
 intro kQz
 have Mw:=eK Cn.out
 have Nh:=Bd rfl
 have q5:=x0.k 5
 have HC:=S5 w0 w4 a5 c5 g (m-(aD ks:Int)-(aK bs:Int)) (d+1) Np.out hb hg Nh A0 A0 Cr Cj Mq
 rw[Ap.out,show ne=0 by omega]at HC
 revert HC;revert q5;revert Nh;revert Mw
 exact kQz.o):p:=h ⟨k⟩
theorem M924{p q:Prop}(k:q)(h:Kx q->p:=by
 intro kQz
 refine HC.mono ?_
 rintro e w4 ⟨rfl,Af,Bd⟩
 replace x0:=x0.grown Af Ar
 replace hb:=bW hb Af hg
 replace Bl:=aC Bl Af
 revert Bl;revert hb;revert x0;revert Bd;revert Af;revert w4
 exact kQz.o):p:=h ⟨k⟩
theorem M926{p q:Prop}(k:q)(h:Kx q->p:=by
 intro kQz
 refine HC.mono ?_
 rintro e w4 ⟨rfl,Af,Bd⟩
 revert Bd;revert Af;revert w4
 exact kQz.o):p:=h ⟨k⟩
theorem M932{p q:Prop}(k:q)(h:Kx q->p:=by
 intro kQz
 have x0:=Blk.grown Ga.out Al.out Ar
 have q3:=x0.k 3
 have hb:=bW Bn.out Al.out hg
 revert hb;revert q3;revert x0
 exact kQz.o):p:=h ⟨k⟩
theorem M940{p q:Prop}(k:q)(h:Kx q->p:=by
 intro kQz
 have Eh:¬(0:Int)<(nn:Int):=A0
 have Lz:=hid (Gw.out.trans e0)
 have Jo:Hid _:=Ca
 revert Jo;revert Lz;revert Eh
 exact kQz.o):p:=h ⟨k⟩
theorem M941{p q:Prop}(k:q)(h:Kx q->p:=by
 intro kQz
 have Lr:((1:Int) != (nk:Int))=false:=by simp;omega
 have Fq:=hid c1
 have Ca:nk=1:=A0
 revert Ca;revert Fq;revert Lr
 exact kQz.o):p:=h ⟨k⟩
theorem M948{p q:Prop}(k:q)(h:Kx q->p:=by
 intro kQz
 have Dg:=hid (aC Al.out Af)
 have Ds:=hid Bd
 revert Ds;revert Dg
 exact kQz.o):p:=h ⟨k⟩
def aQy (x:St):Prop:=∀(w0 w:World) (vs:List Value) (g:Nat) (left d:Int),aL w0 x.fl vs->Below w0.heap.size w0 w->w0.heap.size<=g->Lft w g left->0<=left->left<=250->0<=d->d<=17->aO x.fl<=1048576 →
 Calls Tryz.prog 183 #[agg vs,.int .i64 d,.pointer (some ⟨g,0,none⟩)] w fun e w'=>e=.returned (.bool (aY x d left))/\w.grownBy w' (some g)/\(aY x d left=true->Lft w' g (left-(gD x:Int)))
def aIq (l:List St):Prop:=∀(w0 w:World) (a:Option Addr) (c g:Nat) (left d:Int),aW w0 a c 6 (sts l)->Below w0.heap.size w0 w->w0.heap.size<=g->Lft w g left->0<=left->left<=250->0<=d->d<=17->aG (sts l)<=1048576 →
 Calls Tryz.prog 169 #[.slice a l.length c,.int .i64 d,.pointer (some ⟨g,0,none⟩)] w fun e w'=>e=.returned (.bool (cI l d left))/\w.grownBy w' (some g)/\(cI l d left=true->Lft w' g (left-(aK l:Int)))
theorem aOb {α:Type}{l:List α}(h:l.length=1):∃x,l=[x]:=by
 match l,h with
 | [x],_=>exact⟨x,rfl⟩
theorem aU {k n:Int}{name:List Int}{ks:List Ex}{bs es:List St}{d left:Int}{nk nb ne:Nat}(h1:ks.length=nk)(h2:bs.length=nb)(h3:es.length=ne)(h:fW k n name nk nb ne=false):aY (.mk k n name ks bs es) d left=false:=by
 refine aB4 ?_;rw[h1,h2,h3];exact h
set_option maxHeartbeats 40000000 in
theorem aRl (k n:Int)(name:List Int)(ks:List Ex)(bs es:List St)(S3:∀x ∈ ks,aIr x)(S4:aIq bs)(S5:aIq es):aQy (.mk k n name ks bs es):=by
 intro w0 w vs g left d hr hb hg hL Gh Wj Yf hd1 hs;unfold St.fl at hr;have Pt:aO (St.mk k n name ks bs es).fl=name.length+((exs ks).length+aG (exs ks))+((sts bs).length+aG (sts bs))+((sts es).length+aG (sts es)):=by simp[St.fl,aO,Fl.len] <;> omega
 rw[Pt]at hs;have Xu:name.length<=1048576:=A0;have De:aG (exs ks)<=1048576:=A0;have Mr:aG (sts bs)<=1048576:=A0;have Mq:aG (sts es)<=1048576:=A0;clear hs Pt;obtain⟨y0,_,rfl,rfl,y1,_,rfl,rfl,y2,_,rfl,⟨a2,c2,rfl,h2,Dl,_⟩,y3,_,rfl,h3',y4,_,rfl,Ps,y5,_,rfl,h5',rfl⟩:=hr;obtain⟨a3,c3,rfl,h3⟩:=h3'.list;obtain⟨a4,c4,rfl,h4⟩:=Ps.list;obtain⟨a5,c5,rfl,h5⟩:=h5'.list;clear h3' Ps h5';have Dp:(exs ks).length=ks.length:=by simp[aX]
 have Ck:(sts bs).length=bs.length:=by simp[bA]
 have Na:(sts es).length=es.length:=by simp[bA]
 have Ju:ks.length<=9223372036854775807:=by have h7:=h3.cap;have h6:=h3.most;unfold maxLen at h6;omega
 have Lg:bs.length<=9223372036854775807:=by have h7:=h4.cap;have h6:=h4.most;unfold maxLen at h6;omega
 have he9:es.length<=9223372036854775807:=by have h7:=h5.cap;have h6:=h5.most;unfold maxLen at h6;omega
 rw[Dp,Ck,Na];clear Ck Na;simp only[agg];obtain⟨nn,Iv⟩:=zx (name.length);rw[<-Iv]at h2 Xu Dl ⊢;have Gw:=hid Iv.symm;clear Iv;obtain⟨nk,hnk⟩:=zx (ks.length);obtain⟨nb,Ba⟩:=zx (bs.length);obtain⟨ne,Ae⟩:=zx (es.length);rw[<-hnk]at Dp Ju ⊢;rw[<-Ba]at Lg ⊢;rw[<-Ae]at he9 ⊢;have Am:=hid hnk.symm;have Aq:=hid Ba.symm;have Ap:=hid Ae.symm;clear hnk Ba Ae;have Fb:=Blk.lt hL;have Ar:w.heap.size ≠ g:=A0;have yy:=aE w (.cells #[.int .i64 k,.int .i64 n,.slice a2 nn c2,.slice a3 nk c3,.slice a4 nb c4,.slice a5 ne c5] 179 (0,0)) (some g);have x0:=Blk.new w 179 [.int .i64 k,.int .i64 n,.slice a2 nn c2,.slice a3 nk c3,.slice a4 nb c4,.slice a5 ne c5];have Tl:=Blk.old hL (o:=.cells #[.int .i64 k,.int .i64 n,.slice a2 nn c2,.slice a3 nk c3,.slice a4 nb c4,.slice a5 ne c5] 179 (0,0));replace hb:Below w0.heap.size w0 (w.alloc (.cells #[.int .i64 k,.int .i64 n,.slice a2 nn c2,.slice a3 nk c3,.slice a4 nb c4,.slice a5 ne c5] 179 (0,0))):=hb.alloc hb.size _;clear hL;go_enter Tryz.func183,Tryz.ntmps183;go_upto_region 1 with fail;generalize w.alloc (.cells #[.int .i64 k,.int .i64 n,.slice a2 nn c2,.slice a3 nk c3,.slice a4 nb c4,.slice a5 ne c5] 179 (0,0))=w1 at *;have z0:=Tl.k 0;have z1:=Tl.free 0;go_upto_region 2 with fail;refine M963 ?_;intro Av hq;replace x0:=x0.grown hq Ar;replace yy:=aC yy hq;replace hb:=bW hb hq hg;generalize w1.setCell ⟨g,0,none⟩ (.int .i64 (left-1))=w2 at *;generalize w.heap.size=gx at *;clear z0 z1 Tl hq Fb;obtain⟨m,hm⟩:=zx (left-1);rw[<-hm]at Av;have Bu:Hid (m=left-1):=hm;have z0:=Av.k 0;obtain⟨q0,q1,q2,q3,q4,q5⟩:=x0.c6;by_cases r1:m<0
 .
  have he:Hid (aY (.mk k n name ks bs es) d left=false):=qS (.inl A0);clear hm;exact QA4
 by_cases r2:16<d
 .
  have he:Hid (aY (.mk k n name ks bs es) d left=false):=qS (.inr r2);clear hm;exact QA4
 clear hm;by_cases i1:inB k 0 7=true;rotate_left
 .
  have Ai:inB k 0 7=false:=by simpa using i1
  have he:Hid (aY (.mk k n name ks bs es) d left=false):=aU Am.out Aq.out Ap.out (bI (.inl Ai));have g0:(k == 0)=false:=by simp only[inB,zH3,zH0]at Ai;simp only[beq_eq_false_iff_ne,ne_eq];omega
  have g1:(k == 1)=false:=by simp only[inB,zH3,zH0]at Ai;simp only[beq_eq_false_iff_ne,ne_eq];omega
  have g2:(k == 2)=false:=by simp only[inB,zH3,zH0]at Ai;simp only[beq_eq_false_iff_ne,ne_eq];omega
  have g3:(k == 3)=false:=by simp only[inB,zH3,zH0]at Ai;simp only[beq_eq_false_iff_ne,ne_eq];omega
  have g4:(k == 4)=false:=by simp only[inB,zH3,zH0]at Ai;simp only[beq_eq_false_iff_ne,ne_eq];omega
  have g5:(k == 5)=false:=by simp only[inB,zH3,zH0]at Ai;simp only[beq_eq_false_iff_ne,ne_eq];omega
  have g6:(k == 6)=false:=by simp only[inB,zH3,zH0]at Ai;simp only[beq_eq_false_iff_ne,ne_eq];omega
  have g7:(k == 7)=false:=by simp only[inB,zH3,zH0]at Ai;simp only[beq_eq_false_iff_ne,ne_eq];omega
  have g8:((-1:Int) != (nk:Int))=true:=by simp only[bne_iff_ne,ne_eq];omega
  clear Ai i1;exact QA4
 have h8:=aS8 i1;have HI1:=hid i1;clear i1;rcases h8 with rfl|rfl|rfl|rfl|rfl|rfl|rfl|rfl
 .
  by_cases c1:(nk:Int)=1;rotate_left
  .
   have Lr:((1:Int) != (nk:Int))=true:=by simp;omega
   have he:Hid (aY (.mk 0 n name ks bs es) d left=false):=aU Am.out Aq.out Ap.out (bI (.inr (.inl c1)));exact QA4
  refine M941 ?_;intro Lr Fq Ca;clear c1;by_cases b1:nb=0;rotate_left
  .
   have Jm:(0:Int)<(nb:Int):=A0;clear Ca;have he:Hid (aY (.mk 0 n name ks bs es) d left=false):=aU Am.out Aq.out Ap.out (bI (.inr (.inr (.inr (.inr (.inr (.inl ⟨b1,by decide⟩)))))));exact QA4
  have Jm:¬(0:Int)<(nb:Int):=A0;have Gc:Hid ((decide (nb=0) || iC 0)=true):=by show _=_;rw[zB3 b1];rfl
  clear b1;by_cases b2:ne=0;rotate_left
  .
   have Jl:(0:Int)<(ne:Int):=A0;clear Ca;have he:Hid (aY (.mk 0 n name ks bs es) d left=false):=aU Am.out Aq.out Ap.out (bI (.inr (.inr (.inr (.inr (.inr (.inr ⟨b2,by decide⟩)))))));exact QA4
  have Jl:¬(0:Int)<(ne:Int):=A0;have Ei:Hid ((decide (ne=0) || decide ((0:Int)=2))=true):=by show _=_;rw[zB3 b2];rfl
  clear b2;have hn3:=aQ a2 nn c2 name false w2 (h2.below hb) A0;by_cases e0:nn=0
  .
   have Ai:aN name false=false:=cY A47;rw[e0]at q2 ⊢;clear Ca;have he:Hid (aY (.mk 0 n name ks bs es) d left=false):=aU Am.out Aq.out Ap.out (bI (.inr (.inr (.inr (.inl ⟨by decide,Ai⟩)))));exact QA4
  have Eh:(0:Int)<(nn:Int):=A0;generalize Ue:aN name false=ok at *;have Dz:=hid Ue;clear Ue;have Jo:Hid _:=Ca;clear Ca;go_wp2_with fail;refine hn3.mono ?_;rintro e w2 ⟨rfl,rfl⟩;clear hn3;cases ok
  .
   have he:Hid (aY (.mk 0 n name ks bs es) d left=false):=aU Am.out Aq.out Ap.out (bI (.inr (.inr (.inr (.inl ⟨by decide,Dz.out⟩)))));exact QA4
  by_cases n0:n=0;rotate_left
  .
   have n0':(n != 0)=true:=by simpa using n0
   have he:Hid (aY (.mk 0 n name ks bs es) d left=false):=aU Am.out Aq.out Ap.out (bI (.inr (.inr (.inl A36))));exact QA4
  have n0':(n != 0)=false:=by simpa using n0
  have Dr:Hid (inB n 0 (cS 0)=true):=by show _=_;rw[n0];decide
  clear n0;have Ns:Hid (fW 0 n name ks.length bs.length es.length=true):=by show _=_;rw[Am.out,Aq.out,Ap.out];exact iH HI1.out Fq.out Dr.out (by rw[show eG 0=true from by decide];exact Dz.out) Gc.out Ei.out
  have Nx:Hid ((!decide ((0:Int)=7) || ks.any iW)=true):=by show _=_;simp
  have HE:Hid (aY (.mk 0 n name ks bs es) d left=kG ks bs es (d+1) m):=by
   exact QA38
  have HD:Hid (gD (.mk 0 n name ks bs es)=1+(aD ks+aK bs+aK es)):=by show _=_;simp[gD]
  refine M94 ?_;intro Ga HY Bn Ea Eq Nq Np Cq Ez Cj Cr;go_wp2_with fail;clear q0 q1 q2 q3 q4 q5 x0 yy hb Av h3 h4 h5 z0 Eh Jm Jl;go_loopw [11] (fun i wr=>∃j:Nat,j<=nk/\i=.int .i64 j/\Hid (w2.grownBy wr (some g))/\Hid (Lft wr g (m-(aD (ks.take j):Int)))/\Hid ((aD (ks.take j):Int)<=m)/\Hid (∀i x,i<j->ks[i]?=some x->cT x (d+1) false (m-(aD (ks.take i):Int))=true)) (fun i _=>nk-(intOf i).toNat)
  case atStart=>exact⟨0,zD1 _,rfl,aP _ _,Ea,by show(_:Int)<=_;simp[aD];omega,by show ∀_ _,_;omega⟩
  case round=>
   obtain⟨j,hj,rfl,Al,Cs,Ej,Ao⟩:=hrel;clear Ea;refine M932 ?_;intro x0 q3 hb;by_cases Ad:j<nk
   .
    obtain⟨b3,o3,rfl⟩:=aW.addr Eq.out A43;refine M916 ?_;intro x hx Bc us Ak Ab;obtain⟨u0,u1,u2,u3,u4,rfl⟩:=dT (Ak.len.trans (eL x));refine M966 ?_;clear Ab;intro Ab t0 t1 t2 t3 t4 Cd HC;simp only[agg]at HC;have HJ:=hid hx;have Dn:=hid (bR hx);clear Ab hx Bc Cd Ak;generalize hsp:cT x (d+1) false (m-(aD (ks.take j):Int))=rr at *;have Cm:=hid hsp;clear hsp;go_wp2_with fail;refine M926 ?_;intro w4 Af Bd;refine M948 ?_;intro Dg Ds;clear HC t0 t1 t2 t3 t4 q3 x0 hb Af Bd;cases rr
    .
     have he:Hid (aY (.mk 0 n name ks bs es) d left=false):=by show _=_;rw[HE.out];unfold kG;rw[eA HJ.out Cm.out];rfl
     have Bl:=aC HY.out Dg.out;exact QA12
    .
     exact QA3
   .
    have:j=nk:=A0;subst this;refine M97 ?_;intro Hm Mx Da Bl q4 q5 HC;rw[Aq.out,show nb=0 by omega]at HC;generalize hsp:cI bs (d+1) (m-(aD ks:Int))=r4 at *;have Cn:=hid hsp;clear hsp Al Cs Ej Ao;go_wp2_with fail;refine M924 ?_;clear x0 hb Bl;intro w4 Af Bd x0 hb Bl;clear HC q3 q4 q5 Da Af;cases r4
    .
     have he:Hid (aY (.mk 0 n name ks bs es) d left=false):=by show _=_;rw[HE.out];unfold kG;rw[Cn.out];simp
     clear Bd;exact QA12
    .
     refine M917 ?_;intro Mw Nh q5 HC;generalize hsp:cI es (d+1) (m-(aD ks:Int)-(aK bs:Int))=r5 at *;have Fc:=hid hsp;clear hsp Bd;go_wp2_with fail;refine HC.mono ?_;rintro e w5 ⟨rfl,Az,Ng⟩;have he:Hid (aY (.mk 0 n name ks bs es) d left=r5):=by show _=_;rw[HE.out];unfold kG;rw[Hm.out,Cn.out,Fc.out];rfl
     exact QA8
 .
  by_cases c1:(nk:Int)=2;rotate_left
  .
   have Lr:((2:Int) != (nk:Int))=true:=by simp;omega
   have he:Hid (aY (.mk 1 n name ks bs es) d left=false):=aU Am.out Aq.out Ap.out (bI (.inr (.inl c1)));exact QA4
  have Lr:((2:Int) != (nk:Int))=false:=by simp;omega
  have Fq:=hid c1;have Ca:nk=2:=A0;clear c1;by_cases b1:nb=0;rotate_left
  .
   have Jm:(0:Int)<(nb:Int):=A0;clear Ca;have he:Hid (aY (.mk 1 n name ks bs es) d left=false):=aU Am.out Aq.out Ap.out (bI (.inr (.inr (.inr (.inr (.inr (.inl ⟨b1,by decide⟩)))))));exact QA4
  have Jm:¬(0:Int)<(nb:Int):=A0;have Gc:Hid ((decide (nb=0) || iC 1)=true):=by show _=_;rw[zB3 b1];rfl
  clear b1;by_cases b2:ne=0;rotate_left
  .
   have Jl:(0:Int)<(ne:Int):=A0;clear Ca;have he:Hid (aY (.mk 1 n name ks bs es) d left=false):=aU Am.out Aq.out Ap.out (bI (.inr (.inr (.inr (.inr (.inr (.inr ⟨b2,by decide⟩)))))));exact QA4
  have Jl:¬(0:Int)<(ne:Int):=A0;have Ei:Hid ((decide (ne=0) || decide ((1:Int)=2))=true):=by show _=_;rw[zB3 b2];rfl
  clear b2;have hn3:=aQ a2 nn c2 name false w2 (h2.below hb) A0;by_cases e0:nn=0
  .
   have Ai:aN name false=false:=cY A47;rw[e0]at q2 ⊢;clear Ca;have he:Hid (aY (.mk 1 n name ks bs es) d left=false):=aU Am.out Aq.out Ap.out (bI (.inr (.inr (.inr (.inl ⟨by decide,Ai⟩)))));exact QA4
  have Eh:(0:Int)<(nn:Int):=A0;generalize Ue:aN name false=ok at *;have Dz:=hid Ue;clear Ue;have Jo:Hid _:=Ca;clear Ca;go_wp2_with fail;refine hn3.mono ?_;rintro e w2 ⟨rfl,rfl⟩;clear hn3;cases ok
  .
   have he:Hid (aY (.mk 1 n name ks bs es) d left=false):=aU Am.out Aq.out Ap.out (bI (.inr (.inr (.inr (.inl ⟨by decide,Dz.out⟩)))));exact QA4
  by_cases n0:n=0;rotate_left
  .
   have n0':(n != 0)=true:=by simpa using n0
   have he:Hid (aY (.mk 1 n name ks bs es) d left=false):=aU Am.out Aq.out Ap.out (bI (.inr (.inr (.inl A36))));exact QA4
  have n0':(n != 0)=false:=by simpa using n0
  have Dr:Hid (inB n 0 (cS 1)=true):=by show _=_;rw[n0];decide
  clear n0;have Ns:Hid (fW 1 n name ks.length bs.length es.length=true):=by show _=_;rw[Am.out,Aq.out,Ap.out];exact iH HI1.out Fq.out Dr.out (by rw[show eG 1=true from by decide];exact Dz.out) Gc.out Ei.out
  have Nx:Hid ((!decide ((1:Int)=7) || ks.any iW)=true):=by show _=_;simp
  have HE:Hid (aY (.mk 1 n name ks bs es) d left=kG ks bs es (d+1) m):=by
   exact QA38
  have HD:Hid (gD (.mk 1 n name ks bs es)=1+(aD ks+aK bs+aK es)):=by show _=_;simp[gD]
  refine M94 ?_;intro Ga HY Bn Ea Eq Nq Np Cq Ez Cj Cr;go_wp2_with fail;clear q0 q1 q2 q3 q4 q5 x0 yy hb Av h3 h4 h5 z0 Eh Jm Jl;go_loopw [11] (fun i wr=>∃j:Nat,j<=nk/\i=.int .i64 j/\Hid (w2.grownBy wr (some g))/\Hid (Lft wr g (m-(aD (ks.take j):Int)))/\Hid ((aD (ks.take j):Int)<=m)/\Hid (∀i x,i<j->ks[i]?=some x->cT x (d+1) false (m-(aD (ks.take i):Int))=true)) (fun i _=>nk-(intOf i).toNat)
  case atStart=>exact⟨0,zD1 _,rfl,aP _ _,Ea,by show(_:Int)<=_;simp[aD];omega,by show ∀_ _,_;omega⟩
  case round=>
   obtain⟨j,hj,rfl,Al,Cs,Ej,Ao⟩:=hrel;clear Ea;refine M932 ?_;intro x0 q3 hb;by_cases Ad:j<nk
   .
    obtain⟨b3,o3,rfl⟩:=aW.addr Eq.out A43;refine M916 ?_;intro x hx Bc us Ak Ab;obtain⟨u0,u1,u2,u3,u4,rfl⟩:=dT (Ak.len.trans (eL x));refine M966 ?_;clear Ab;intro Ab t0 t1 t2 t3 t4 Cd HC;simp only[agg]at HC;have HJ:=hid hx;have Dn:=hid (bR hx);clear Ab hx Bc Cd Ak;generalize hsp:cT x (d+1) false (m-(aD (ks.take j):Int))=rr at *;have Cm:=hid hsp;clear hsp;go_wp2_with fail;refine M926 ?_;intro w4 Af Bd;refine M948 ?_;intro Dg Ds;clear HC t0 t1 t2 t3 t4 q3 x0 hb Af Bd;cases rr
    .
     have he:Hid (aY (.mk 1 n name ks bs es) d left=false):=by show _=_;rw[HE.out];unfold kG;rw[eA HJ.out Cm.out];rfl
     have Bl:=aC HY.out Dg.out;exact QA12
    .
     exact QA3
   .
    have:j=nk:=A0;subst this;refine M97 ?_;intro Hm Mx Da Bl q4 q5 HC;rw[Aq.out,show nb=0 by omega]at HC;generalize hsp:cI bs (d+1) (m-(aD ks:Int))=r4 at *;have Cn:=hid hsp;clear hsp Al Cs Ej Ao;go_wp2_with fail;refine M924 ?_;clear x0 hb Bl;intro w4 Af Bd x0 hb Bl;clear HC q3 q4 q5 Da Af;cases r4
    .
     have he:Hid (aY (.mk 1 n name ks bs es) d left=false):=by show _=_;rw[HE.out];unfold kG;rw[Cn.out];simp
     clear Bd;exact QA12
    .
     refine M917 ?_;intro Mw Nh q5 HC;generalize hsp:cI es (d+1) (m-(aD ks:Int)-(aK bs:Int))=r5 at *;have Fc:=hid hsp;clear hsp Bd;go_wp2_with fail;refine HC.mono ?_;rintro e w5 ⟨rfl,Az,Ng⟩;have he:Hid (aY (.mk 1 n name ks bs es) d left=r5):=by show _=_;rw[HE.out];unfold kG;rw[Hm.out,Cn.out,Fc.out];rfl
     exact QA8
 .
  by_cases c1:(nk:Int)=1;rotate_left
  .
   have Lr:((1:Int) != (nk:Int))=true:=by simp;omega
   have he:Hid (aY (.mk 2 n name ks bs es) d left=false):=aU Am.out Aq.out Ap.out (bI (.inr (.inl c1)));exact QA4
  refine M941 ?_;intro Lr Fq Ca;clear c1;have Gc:Hid ((decide (nb=0) || iC 2)=true):=by show _=_;rw[show iC 2=true from by decide];simp
  have Ei:Hid ((decide (ne=0) || decide ((2:Int)=2))=true):=by show _=_;simp
  have hn3:=aQ a2 nn c2 name false w2 (h2.below hb) A0;by_cases e0:nn=0;rotate_left
  .
   have Eh:(0:Int)<(nn:Int):=A0;clear Ca;have he:Hid (aY (.mk 2 n name ks bs es) d left=false):=aU Am.out Aq.out Ap.out (bI (.inr (.inr (.inr (.inr (.inl ⟨by decide,by rw[Gw.out];exact e0⟩))))));exact QA4
  refine M940 ?_;clear e0;intro Eh Lz Jo;clear Ca;by_cases n0:n=0;rotate_left
  .
   have n0':(n != 0)=true:=by simpa using n0
   have he:Hid (aY (.mk 2 n name ks bs es) d left=false):=aU Am.out Aq.out Ap.out (bI (.inr (.inr (.inl A36))));exact QA4
  have n0':(n != 0)=false:=by simpa using n0
  have Dr:Hid (inB n 0 (cS 2)=true):=by show _=_;rw[n0];decide
  clear n0;have Ns:Hid (fW 2 n name ks.length bs.length es.length=true):=by show _=_;rw[Am.out,Aq.out,Ap.out];exact iH HI1.out Fq.out Dr.out (by rw[show eG 2=false from by decide];exact zB3 Lz.out) Gc.out Ei.out
  have Nx:Hid ((!decide ((2:Int)=7) || ks.any iW)=true):=by show _=_;simp
  have HE:Hid (aY (.mk 2 n name ks bs es) d left=kG ks bs es (d+1) m):=by
   exact QA38
  have HD:Hid (gD (.mk 2 n name ks bs es)=1+(aD ks+aK bs+aK es)):=by show _=_;simp[gD]
  refine M94 ?_;intro Ga HY Bn Ea Eq Nq Np Cq Ez Cj Cr;go_wp2_with fail;clear q0 q1 q2 q3 q4 q5 x0 yy hb Av h3 h4 h5 z0 Eh;go_loopw [11] (fun i wr=>∃j:Nat,j<=nk/\i=.int .i64 j/\Hid (w2.grownBy wr (some g))/\Hid (Lft wr g (m-(aD (ks.take j):Int)))/\Hid ((aD (ks.take j):Int)<=m)/\Hid (∀i x,i<j->ks[i]?=some x->cT x (d+1) false (m-(aD (ks.take i):Int))=true)) (fun i _=>nk-(intOf i).toNat)
  case atStart=>exact⟨0,zD1 _,rfl,aP _ _,Ea,by show(_:Int)<=_;simp[aD];omega,by show ∀_ _,_;omega⟩
  case round=>
   obtain⟨j,hj,rfl,Al,Cs,Ej,Ao⟩:=hrel;clear Ea;refine M932 ?_;intro x0 q3 hb;by_cases Ad:j<nk
   .
    obtain⟨b3,o3,rfl⟩:=aW.addr Eq.out A43;refine M916 ?_;intro x hx Bc us Ak Ab;obtain⟨u0,u1,u2,u3,u4,rfl⟩:=dT (Ak.len.trans (eL x));refine M966 ?_;clear Ab;intro Ab t0 t1 t2 t3 t4 Cd HC;simp only[agg]at HC;have HJ:=hid hx;have Dn:=hid (bR hx);clear Ab hx Bc Cd Ak;generalize hsp:cT x (d+1) false (m-(aD (ks.take j):Int))=rr at *;have Cm:=hid hsp;clear hsp;go_wp2_with fail;refine M926 ?_;intro w4 Af Bd;refine M948 ?_;intro Dg Ds;clear HC t0 t1 t2 t3 t4 q3 x0 hb Af Bd;cases rr
    .
     have he:Hid (aY (.mk 2 n name ks bs es) d left=false):=by show _=_;rw[HE.out];unfold kG;rw[eA HJ.out Cm.out];rfl
     have Bl:=aC HY.out Dg.out;exact QA12
    .
     exact QA3
   .
    have:j=nk:=A0;subst this;refine M97 ?_;intro Hm Mx Da Bl q4 q5 HC;rw[Aq.out]at HC;generalize hsp:cI bs (d+1) (m-(aD ks:Int))=r4 at *;have Cn:=hid hsp;clear hsp Al Cs Ej Ao;go_wp2_with fail;refine M924 ?_;clear x0 hb Bl;intro w4 Af Bd x0 hb Bl;clear HC q3 q4 q5 Da Af;cases r4
    .
     have he:Hid (aY (.mk 2 n name ks bs es) d left=false):=by show _=_;rw[HE.out];unfold kG;rw[Cn.out];simp
     clear Bd;exact QA12
    .
     have Mw:=eK Cn.out;have Nh:=Bd rfl;have q5:=x0.k 5;have HC:=S5 w0 w4 a5 c5 g (m-(aD ks:Int)-(aK bs:Int)) (d+1) Np.out hb hg Nh A0 A0 Cr Cj Mq;rw[Ap.out]at HC;generalize hsp:cI es (d+1) (m-(aD ks:Int)-(aK bs:Int))=r5 at *;have Fc:=hid hsp;clear hsp Bd;go_wp2_with fail;refine HC.mono ?_;rintro e w5 ⟨rfl,Az,Ng⟩;have he:Hid (aY (.mk 2 n name ks bs es) d left=r5):=by show _=_;rw[HE.out];unfold kG;rw[Hm.out,Cn.out,Fc.out];rfl
     exact QA8
 .
  by_cases c1:(nk:Int)=1;rotate_left
  .
   have Lr:((1:Int) != (nk:Int))=true:=by simp;omega
   have he:Hid (aY (.mk 3 n name ks bs es) d left=false):=aU Am.out Aq.out Ap.out (bI (.inr (.inl c1)));exact QA4
  refine M941 ?_;intro Lr Fq Ca;clear c1;have Gc:Hid ((decide (nb=0) || iC 3)=true):=by show _=_;rw[show iC 3=true from by decide];simp
  by_cases b2:ne=0;rotate_left
  .
   have Jl:(0:Int)<(ne:Int):=A0;clear Ca;have he:Hid (aY (.mk 3 n name ks bs es) d left=false):=aU Am.out Aq.out Ap.out (bI (.inr (.inr (.inr (.inr (.inr (.inr ⟨b2,by decide⟩)))))));exact QA4
  have Jl:¬(0:Int)<(ne:Int):=A0;have Ei:Hid ((decide (ne=0) || decide ((3:Int)=2))=true):=by show _=_;rw[zB3 b2];rfl
  clear b2;have hn3:=aQ a2 nn c2 name false w2 (h2.below hb) A0;by_cases e0:nn=0;rotate_left
  .
   have Eh:(0:Int)<(nn:Int):=A0;clear Ca;have he:Hid (aY (.mk 3 n name ks bs es) d left=false):=aU Am.out Aq.out Ap.out (bI (.inr (.inr (.inr (.inr (.inl ⟨by decide,by rw[Gw.out];exact e0⟩))))));exact QA4
  refine M940 ?_;clear e0;intro Eh Lz Jo;clear Ca;by_cases n0:n=0;rotate_left
  .
   have n0':(n != 0)=true:=by simpa using n0
   have he:Hid (aY (.mk 3 n name ks bs es) d left=false):=aU Am.out Aq.out Ap.out (bI (.inr (.inr (.inl A36))));exact QA4
  have n0':(n != 0)=false:=by simpa using n0
  have Dr:Hid (inB n 0 (cS 3)=true):=by show _=_;rw[n0];decide
  clear n0;have Ns:Hid (fW 3 n name ks.length bs.length es.length=true):=by show _=_;rw[Am.out,Aq.out,Ap.out];exact iH HI1.out Fq.out Dr.out (by rw[show eG 3=false from by decide];exact zB3 Lz.out) Gc.out Ei.out
  have Nx:Hid ((!decide ((3:Int)=7) || ks.any iW)=true):=by show _=_;simp
  have HE:Hid (aY (.mk 3 n name ks bs es) d left=kG ks bs es (d+1) m):=by
   exact QA38
  have HD:Hid (gD (.mk 3 n name ks bs es)=1+(aD ks+aK bs+aK es)):=by show _=_;simp[gD]
  refine M94 ?_;intro Ga HY Bn Ea Eq Nq Np Cq Ez Cj Cr;go_wp2_with fail;clear q0 q1 q2 q3 q4 q5 x0 yy hb Av h3 h4 h5 z0 Eh Jl;go_loopw [11] (fun i wr=>∃j:Nat,j<=nk/\i=.int .i64 j/\Hid (w2.grownBy wr (some g))/\Hid (Lft wr g (m-(aD (ks.take j):Int)))/\Hid ((aD (ks.take j):Int)<=m)/\Hid (∀i x,i<j->ks[i]?=some x->cT x (d+1) false (m-(aD (ks.take i):Int))=true)) (fun i _=>nk-(intOf i).toNat)
  case atStart=>exact⟨0,zD1 _,rfl,aP _ _,Ea,by show(_:Int)<=_;simp[aD];omega,by show ∀_ _,_;omega⟩
  case round=>
   obtain⟨j,hj,rfl,Al,Cs,Ej,Ao⟩:=hrel;clear Ea;refine M932 ?_;intro x0 q3 hb;by_cases Ad:j<nk
   .
    obtain⟨b3,o3,rfl⟩:=aW.addr Eq.out A43;refine M916 ?_;intro x hx Bc us Ak Ab;obtain⟨u0,u1,u2,u3,u4,rfl⟩:=dT (Ak.len.trans (eL x));refine M966 ?_;clear Ab;intro Ab t0 t1 t2 t3 t4 Cd HC;simp only[agg]at HC;have HJ:=hid hx;have Dn:=hid (bR hx);clear Ab hx Bc Cd Ak;generalize hsp:cT x (d+1) false (m-(aD (ks.take j):Int))=rr at *;have Cm:=hid hsp;clear hsp;go_wp2_with fail;refine M926 ?_;intro w4 Af Bd;refine M948 ?_;intro Dg Ds;clear HC t0 t1 t2 t3 t4 q3 x0 hb Af Bd;cases rr
    .
     have he:Hid (aY (.mk 3 n name ks bs es) d left=false):=by show _=_;rw[HE.out];unfold kG;rw[eA HJ.out Cm.out];rfl
     have Bl:=aC HY.out Dg.out;exact QA12
    .
     exact QA3
   .
    have:j=nk:=A0;subst this;refine M97 ?_;intro Hm Mx Da Bl q4 q5 HC;rw[Aq.out]at HC;generalize hsp:cI bs (d+1) (m-(aD ks:Int))=r4 at *;have Cn:=hid hsp;clear hsp Al Cs Ej Ao;go_wp2_with fail;refine M924 ?_;clear x0 hb Bl;intro w4 Af Bd x0 hb Bl;clear HC q3 q4 q5 Da Af;cases r4
    .
     have he:Hid (aY (.mk 3 n name ks bs es) d left=false):=by show _=_;rw[HE.out];unfold kG;rw[Cn.out];simp
     clear Bd;exact QA12
    .
     refine M917 ?_;intro Mw Nh q5 HC;generalize hsp:cI es (d+1) (m-(aD ks:Int)-(aK bs:Int))=r5 at *;have Fc:=hid hsp;clear hsp Bd;go_wp2_with fail;refine HC.mono ?_;rintro e w5 ⟨rfl,Az,Ng⟩;have he:Hid (aY (.mk 3 n name ks bs es) d left=r5):=by show _=_;rw[HE.out];unfold kG;rw[Hm.out,Cn.out,Fc.out];rfl
     exact QA8
 .
  by_cases c1:(nk:Int)=1;rotate_left
  .
   have Lr:((1:Int) != (nk:Int))=true:=by simp;omega
   have he:Hid (aY (.mk 4 n name ks bs es) d left=false):=aU Am.out Aq.out Ap.out (bI (.inr (.inl c1)));exact QA4
  refine M941 ?_;intro Lr Fq Ca;clear c1;by_cases b1:nb=0;rotate_left
  .
   have Jm:(0:Int)<(nb:Int):=A0;clear Ca;have he:Hid (aY (.mk 4 n name ks bs es) d left=false):=aU Am.out Aq.out Ap.out (bI (.inr (.inr (.inr (.inr (.inr (.inl ⟨b1,by decide⟩)))))));exact QA4
  have Jm:¬(0:Int)<(nb:Int):=A0;have Gc:Hid ((decide (nb=0) || iC 4)=true):=by show _=_;rw[zB3 b1];rfl
  clear b1;by_cases b2:ne=0;rotate_left
  .
   have Jl:(0:Int)<(ne:Int):=A0;clear Ca;have he:Hid (aY (.mk 4 n name ks bs es) d left=false):=aU Am.out Aq.out Ap.out (bI (.inr (.inr (.inr (.inr (.inr (.inr ⟨b2,by decide⟩)))))));exact QA4
  have Jl:¬(0:Int)<(ne:Int):=A0;have Ei:Hid ((decide (ne=0) || decide ((4:Int)=2))=true):=by show _=_;rw[zB3 b2];rfl
  clear b2;have hn3:=aQ a2 nn c2 name false w2 (h2.below hb) A0;by_cases e0:nn=0;rotate_left
  .
   have Eh:(0:Int)<(nn:Int):=A0;clear Ca;have he:Hid (aY (.mk 4 n name ks bs es) d left=false):=aU Am.out Aq.out Ap.out (bI (.inr (.inr (.inr (.inr (.inl ⟨by decide,by rw[Gw.out];exact e0⟩))))));exact QA4
  refine M940 ?_;clear e0;intro Eh Lz Jo;clear Ca;by_cases n0:n=0;rotate_left
  .
   have n0':(n != 0)=true:=by simpa using n0
   have he:Hid (aY (.mk 4 n name ks bs es) d left=false):=aU Am.out Aq.out Ap.out (bI (.inr (.inr (.inl A36))));exact QA4
  have n0':(n != 0)=false:=by simpa using n0
  have Dr:Hid (inB n 0 (cS 4)=true):=by show _=_;rw[n0];decide
  clear n0;have Ns:Hid (fW 4 n name ks.length bs.length es.length=true):=by show _=_;rw[Am.out,Aq.out,Ap.out];exact iH HI1.out Fq.out Dr.out (by rw[show eG 4=false from by decide];exact zB3 Lz.out) Gc.out Ei.out
  have Nx:Hid ((!decide ((4:Int)=7) || ks.any iW)=true):=by show _=_;simp
  have HE:Hid (aY (.mk 4 n name ks bs es) d left=kG ks bs es (d+1) m):=by
   exact QA38
  have HD:Hid (gD (.mk 4 n name ks bs es)=1+(aD ks+aK bs+aK es)):=by show _=_;simp[gD]
  refine M94 ?_;intro Ga HY Bn Ea Eq Nq Np Cq Ez Cj Cr;go_wp2_with fail;clear q0 q1 q2 q3 q4 q5 x0 yy hb Av h3 h4 h5 z0 Eh Jm Jl;go_loopw [11] (fun i wr=>∃j:Nat,j<=nk/\i=.int .i64 j/\Hid (w2.grownBy wr (some g))/\Hid (Lft wr g (m-(aD (ks.take j):Int)))/\Hid ((aD (ks.take j):Int)<=m)/\Hid (∀i x,i<j->ks[i]?=some x->cT x (d+1) false (m-(aD (ks.take i):Int))=true)) (fun i _=>nk-(intOf i).toNat)
  case atStart=>exact⟨0,zD1 _,rfl,aP _ _,Ea,by show(_:Int)<=_;simp[aD];omega,by show ∀_ _,_;omega⟩
  case round=>
   obtain⟨j,hj,rfl,Al,Cs,Ej,Ao⟩:=hrel;clear Ea;refine M932 ?_;intro x0 q3 hb;by_cases Ad:j<nk
   .
    obtain⟨b3,o3,rfl⟩:=aW.addr Eq.out A43;refine M916 ?_;intro x hx Bc us Ak Ab;obtain⟨u0,u1,u2,u3,u4,rfl⟩:=dT (Ak.len.trans (eL x));refine M966 ?_;clear Ab;intro Ab t0 t1 t2 t3 t4 Cd HC;simp only[agg]at HC;have HJ:=hid hx;have Dn:=hid (bR hx);clear Ab hx Bc Cd Ak;generalize hsp:cT x (d+1) false (m-(aD (ks.take j):Int))=rr at *;have Cm:=hid hsp;clear hsp;go_wp2_with fail;refine M926 ?_;intro w4 Af Bd;refine M948 ?_;intro Dg Ds;clear HC t0 t1 t2 t3 t4 q3 x0 hb Af Bd;cases rr
    .
     have he:Hid (aY (.mk 4 n name ks bs es) d left=false):=by show _=_;rw[HE.out];unfold kG;rw[eA HJ.out Cm.out];rfl
     have Bl:=aC HY.out Dg.out;exact QA12
    .
     exact QA3
   .
    have:j=nk:=A0;subst this;refine M97 ?_;intro Hm Mx Da Bl q4 q5 HC;rw[Aq.out,show nb=0 by omega]at HC;generalize hsp:cI bs (d+1) (m-(aD ks:Int))=r4 at *;have Cn:=hid hsp;clear hsp Al Cs Ej Ao;go_wp2_with fail;refine M924 ?_;clear x0 hb Bl;intro w4 Af Bd x0 hb Bl;clear HC q3 q4 q5 Da Af;cases r4
    .
     have he:Hid (aY (.mk 4 n name ks bs es) d left=false):=by show _=_;rw[HE.out];unfold kG;rw[Cn.out];simp
     clear Bd;exact QA12
    .
     refine M917 ?_;intro Mw Nh q5 HC;generalize hsp:cI es (d+1) (m-(aD ks:Int)-(aK bs:Int))=r5 at *;have Fc:=hid hsp;clear hsp Bd;go_wp2_with fail;refine HC.mono ?_;rintro e w5 ⟨rfl,Az,Ng⟩;have he:Hid (aY (.mk 4 n name ks bs es) d left=r5):=by show _=_;rw[HE.out];unfold kG;rw[Hm.out,Cn.out,Fc.out];rfl
     exact QA8
 .
  by_cases c1:(nk:Int)=1;rotate_left
  .
   have Lr:((1:Int) != (nk:Int))=true:=by simp;omega
   have he:Hid (aY (.mk 5 n name ks bs es) d left=false):=aU Am.out Aq.out Ap.out (bI (.inr (.inl c1)));exact QA4
  refine M941 ?_;intro Lr Fq Ca;clear c1;by_cases b1:nb=0;rotate_left
  .
   have Jm:(0:Int)<(nb:Int):=A0;clear Ca;have he:Hid (aY (.mk 5 n name ks bs es) d left=false):=aU Am.out Aq.out Ap.out (bI (.inr (.inr (.inr (.inr (.inr (.inl ⟨b1,by decide⟩)))))));exact QA4
  have Jm:¬(0:Int)<(nb:Int):=A0;have Gc:Hid ((decide (nb=0) || iC 5)=true):=by show _=_;rw[zB3 b1];rfl
  clear b1;by_cases b2:ne=0;rotate_left
  .
   have Jl:(0:Int)<(ne:Int):=A0;clear Ca;have he:Hid (aY (.mk 5 n name ks bs es) d left=false):=aU Am.out Aq.out Ap.out (bI (.inr (.inr (.inr (.inr (.inr (.inr ⟨b2,by decide⟩)))))));exact QA4
  have Jl:¬(0:Int)<(ne:Int):=A0;have Ei:Hid ((decide (ne=0) || decide ((5:Int)=2))=true):=by show _=_;rw[zB3 b2];rfl
  clear b2;have hn3:=aQ a2 nn c2 name false w2 (h2.below hb) A0;by_cases e0:nn=0;rotate_left
  .
   have Eh:(0:Int)<(nn:Int):=A0;clear Ca;have he:Hid (aY (.mk 5 n name ks bs es) d left=false):=aU Am.out Aq.out Ap.out (bI (.inr (.inr (.inr (.inr (.inl ⟨by decide,by rw[Gw.out];exact e0⟩))))));exact QA4
  refine M940 ?_;clear e0;intro Eh Lz Jo;clear Ca;by_cases n0:n=0;rotate_left
  .
   have n0':(n != 0)=true:=by simpa using n0
   have he:Hid (aY (.mk 5 n name ks bs es) d left=false):=aU Am.out Aq.out Ap.out (bI (.inr (.inr (.inl A36))));exact QA4
  have n0':(n != 0)=false:=by simpa using n0
  have Dr:Hid (inB n 0 (cS 5)=true):=by show _=_;rw[n0];decide
  clear n0;have Ns:Hid (fW 5 n name ks.length bs.length es.length=true):=by show _=_;rw[Am.out,Aq.out,Ap.out];exact iH HI1.out Fq.out Dr.out (by rw[show eG 5=false from by decide];exact zB3 Lz.out) Gc.out Ei.out
  have Nx:Hid ((!decide ((5:Int)=7) || ks.any iW)=true):=by show _=_;simp
  have HE:Hid (aY (.mk 5 n name ks bs es) d left=kG ks bs es (d+1) m):=by
   exact QA38
  have HD:Hid (gD (.mk 5 n name ks bs es)=1+(aD ks+aK bs+aK es)):=by show _=_;simp[gD]
  refine M94 ?_;intro Ga HY Bn Ea Eq Nq Np Cq Ez Cj Cr;go_wp2_with fail;clear q0 q1 q2 q3 q4 q5 x0 yy hb Av h3 h4 h5 z0 Eh Jm Jl;go_loopw [11] (fun i wr=>∃j:Nat,j<=nk/\i=.int .i64 j/\Hid (w2.grownBy wr (some g))/\Hid (Lft wr g (m-(aD (ks.take j):Int)))/\Hid ((aD (ks.take j):Int)<=m)/\Hid (∀i x,i<j->ks[i]?=some x->cT x (d+1) false (m-(aD (ks.take i):Int))=true)) (fun i _=>nk-(intOf i).toNat)
  case atStart=>exact⟨0,zD1 _,rfl,aP _ _,Ea,by show(_:Int)<=_;simp[aD];omega,by show ∀_ _,_;omega⟩
  case round=>
   obtain⟨j,hj,rfl,Al,Cs,Ej,Ao⟩:=hrel;clear Ea;refine M932 ?_;intro x0 q3 hb;by_cases Ad:j<nk
   .
    obtain⟨b3,o3,rfl⟩:=aW.addr Eq.out A43;refine M916 ?_;intro x hx Bc us Ak Ab;obtain⟨u0,u1,u2,u3,u4,rfl⟩:=dT (Ak.len.trans (eL x));refine M966 ?_;clear Ab;intro Ab t0 t1 t2 t3 t4 Cd HC;simp only[agg]at HC;have HJ:=hid hx;have Dn:=hid (bR hx);clear Ab hx Bc Cd Ak;generalize hsp:cT x (d+1) false (m-(aD (ks.take j):Int))=rr at *;have Cm:=hid hsp;clear hsp;go_wp2_with fail;refine M926 ?_;intro w4 Af Bd;refine M948 ?_;intro Dg Ds;clear HC t0 t1 t2 t3 t4 q3 x0 hb Af Bd;cases rr
    .
     have he:Hid (aY (.mk 5 n name ks bs es) d left=false):=by show _=_;rw[HE.out];unfold kG;rw[eA HJ.out Cm.out];rfl
     have Bl:=aC HY.out Dg.out;exact QA12
    .
     exact QA3
   .
    have:j=nk:=A0;subst this;refine M97 ?_;intro Hm Mx Da Bl q4 q5 HC;rw[Aq.out,show nb=0 by omega]at HC;generalize hsp:cI bs (d+1) (m-(aD ks:Int))=r4 at *;have Cn:=hid hsp;clear hsp Al Cs Ej Ao;go_wp2_with fail;refine M924 ?_;clear x0 hb Bl;intro w4 Af Bd x0 hb Bl;clear HC q3 q4 q5 Da Af;cases r4
    .
     have he:Hid (aY (.mk 5 n name ks bs es) d left=false):=by show _=_;rw[HE.out];unfold kG;rw[Cn.out];simp
     clear Bd;exact QA12
    .
     refine M917 ?_;intro Mw Nh q5 HC;generalize hsp:cI es (d+1) (m-(aD ks:Int)-(aK bs:Int))=r5 at *;have Fc:=hid hsp;clear hsp Bd;go_wp2_with fail;refine HC.mono ?_;rintro e w5 ⟨rfl,Az,Ng⟩;have he:Hid (aY (.mk 5 n name ks bs es) d left=r5):=by show _=_;rw[HE.out];unfold kG;rw[Hm.out,Cn.out,Fc.out];rfl
     exact QA8
 .
  by_cases c1:(nk:Int)=0;rotate_left
  .
   have Lr:((0:Int) != (nk:Int))=true:=by simp;omega
   have he:Hid (aY (.mk 6 n name ks bs es) d left=false):=aU Am.out Aq.out Ap.out (bI (.inr (.inl c1)));exact QA4
  have Lr:((0:Int) != (nk:Int))=false:=by simp;omega
  have Fq:=hid c1;have Ca:nk=0:=A0;clear c1;by_cases b1:nb=0;rotate_left
  .
   have Jm:(0:Int)<(nb:Int):=A0;clear Ca;have he:Hid (aY (.mk 6 n name ks bs es) d left=false):=aU Am.out Aq.out Ap.out (bI (.inr (.inr (.inr (.inr (.inr (.inl ⟨b1,by decide⟩)))))));exact QA4
  have Jm:¬(0:Int)<(nb:Int):=A0;have Gc:Hid ((decide (nb=0) || iC 6)=true):=by show _=_;rw[zB3 b1];rfl
  clear b1;by_cases b2:ne=0;rotate_left
  .
   have Jl:(0:Int)<(ne:Int):=A0;clear Ca;have he:Hid (aY (.mk 6 n name ks bs es) d left=false):=aU Am.out Aq.out Ap.out (bI (.inr (.inr (.inr (.inr (.inr (.inr ⟨b2,by decide⟩)))))));exact QA4
  have Jl:¬(0:Int)<(ne:Int):=A0;have Ei:Hid ((decide (ne=0) || decide ((6:Int)=2))=true):=by show _=_;rw[zB3 b2];rfl
  clear b2;have hn3:=aQ a2 nn c2 name false w2 (h2.below hb) A0;by_cases e0:nn=0;rotate_left
  .
   have Eh:(0:Int)<(nn:Int):=A0;clear Ca;have he:Hid (aY (.mk 6 n name ks bs es) d left=false):=aU Am.out Aq.out Ap.out (bI (.inr (.inr (.inr (.inr (.inl ⟨by decide,by rw[Gw.out];exact e0⟩))))));exact QA4
  refine M940 ?_;clear e0;intro Eh Lz Jo;clear Ca;by_cases n0:n<0
  .
   have he:Hid (aY (.mk 6 n name ks bs es) d left=false):=aU Am.out Aq.out Ap.out (bI (.inr (.inr (.inl A36))));exact QA4
  by_cases n5:99<n
  .
   have he:Hid (aY (.mk 6 n name ks bs es) d left=false):=aU Am.out Aq.out Ap.out (bI (.inr (.inr (.inl A36))));exact QA4
  have Dr:Hid (inB n 0 (cS 6)=true):=by show _=_;simp[inB,cS];omega
  have Ns:Hid (fW 6 n name ks.length bs.length es.length=true):=by show _=_;rw[Am.out,Aq.out,Ap.out];exact iH HI1.out Fq.out Dr.out (by rw[show eG 6=false from by decide];exact zB3 Lz.out) Gc.out Ei.out
  have Nx:Hid ((!decide ((6:Int)=7) || ks.any iW)=true):=by show _=_;simp
  have HE:Hid (aY (.mk 6 n name ks bs es) d left=kG ks bs es (d+1) m):=by
   exact QA38
  have HD:Hid (gD (.mk 6 n name ks bs es)=1+(aD ks+aK bs+aK es)):=by show _=_;simp[gD]
  refine M94 ?_;intro Ga HY Bn Ea Eq Nq Np Cq Ez Cj Cr;go_wp2_with fail;clear q0 q1 q2 q3 q4 q5 x0 yy hb Av h3 h4 h5 z0 Eh Jm Jl;go_loopw [11] (fun i wr=>∃j:Nat,j<=nk/\i=.int .i64 j/\Hid (w2.grownBy wr (some g))/\Hid (Lft wr g (m-(aD (ks.take j):Int)))/\Hid ((aD (ks.take j):Int)<=m)/\Hid (∀i x,i<j->ks[i]?=some x->cT x (d+1) false (m-(aD (ks.take i):Int))=true)) (fun i _=>nk-(intOf i).toNat)
  case atStart=>exact⟨0,zD1 _,rfl,aP _ _,Ea,by show(_:Int)<=_;simp[aD];omega,by show ∀_ _,_;omega⟩
  case round=>
   obtain⟨j,hj,rfl,Al,Cs,Ej,Ao⟩:=hrel;clear Ea;refine M932 ?_;intro x0 q3 hb;by_cases Ad:j<nk
   .
    obtain⟨b3,o3,rfl⟩:=aW.addr Eq.out A43;refine M916 ?_;intro x hx Bc us Ak Ab;obtain⟨u0,u1,u2,u3,u4,rfl⟩:=dT (Ak.len.trans (eL x));refine M966 ?_;clear Ab;intro Ab t0 t1 t2 t3 t4 Cd HC;simp only[agg]at HC;have HJ:=hid hx;have Dn:=hid (bR hx);clear Ab hx Bc Cd Ak;generalize hsp:cT x (d+1) false (m-(aD (ks.take j):Int))=rr at *;have Cm:=hid hsp;clear hsp;go_wp2_with fail;refine M926 ?_;intro w4 Af Bd;refine M948 ?_;intro Dg Ds;clear HC t0 t1 t2 t3 t4 q3 x0 hb Af Bd;cases rr
    .
     have he:Hid (aY (.mk 6 n name ks bs es) d left=false):=by show _=_;rw[HE.out];unfold kG;rw[eA HJ.out Cm.out];rfl
     have Bl:=aC HY.out Dg.out;exact QA12
    .
     exact QA3
   .
    have:j=nk:=A0;subst this;refine M97 ?_;intro Hm Mx Da Bl q4 q5 HC;rw[Aq.out,show nb=0 by omega]at HC;generalize hsp:cI bs (d+1) (m-(aD ks:Int))=r4 at *;have Cn:=hid hsp;clear hsp Al Cs Ej Ao;go_wp2_with fail;refine M924 ?_;clear x0 hb Bl;intro w4 Af Bd x0 hb Bl;clear HC q3 q4 q5 Da Af;cases r4
    .
     have he:Hid (aY (.mk 6 n name ks bs es) d left=false):=by show _=_;rw[HE.out];unfold kG;rw[Cn.out];simp
     clear Bd;exact QA12
    .
     refine M917 ?_;intro Mw Nh q5 HC;generalize hsp:cI es (d+1) (m-(aD ks:Int)-(aK bs:Int))=r5 at *;have Fc:=hid hsp;clear hsp Bd;go_wp2_with fail;refine HC.mono ?_;rintro e w5 ⟨rfl,Az,Ng⟩;have he:Hid (aY (.mk 6 n name ks bs es) d left=r5):=by show _=_;rw[HE.out];unfold kG;rw[Hm.out,Cn.out,Fc.out];rfl
     exact QA8
 .
  by_cases c1:(nk:Int)=1;rotate_left
  .
   have Lr:((1:Int) != (nk:Int))=true:=by simp;omega
   have he:Hid (aY (.mk 7 n name ks bs es) d left=false):=aU Am.out Aq.out Ap.out (bI (.inr (.inl c1)));exact QA4
  refine M941 ?_;intro Lr Fq Ca;clear c1;by_cases b1:nb=0;rotate_left
  .
   have Jm:(0:Int)<(nb:Int):=A0;clear Ca;have he:Hid (aY (.mk 7 n name ks bs es) d left=false):=aU Am.out Aq.out Ap.out (bI (.inr (.inr (.inr (.inr (.inr (.inl ⟨b1,by decide⟩)))))));exact QA4
  have Jm:¬(0:Int)<(nb:Int):=A0;have Gc:Hid ((decide (nb=0) || iC 7)=true):=by show _=_;rw[zB3 b1];rfl
  clear b1;by_cases b2:ne=0;rotate_left
  .
   have Jl:(0:Int)<(ne:Int):=A0;clear Ca;have he:Hid (aY (.mk 7 n name ks bs es) d left=false):=aU Am.out Aq.out Ap.out (bI (.inr (.inr (.inr (.inr (.inr (.inr ⟨b2,by decide⟩)))))));exact QA4
  have Jl:¬(0:Int)<(ne:Int):=A0;have Ei:Hid ((decide (ne=0) || decide ((7:Int)=2))=true):=by show _=_;rw[zB3 b2];rfl
  clear b2;have hn3:=aQ a2 nn c2 name false w2 (h2.below hb) A0;by_cases e0:nn=0;rotate_left
  .
   have Eh:(0:Int)<(nn:Int):=A0;clear Ca;have he:Hid (aY (.mk 7 n name ks bs es) d left=false):=aU Am.out Aq.out Ap.out (bI (.inr (.inr (.inr (.inr (.inl ⟨by decide,by rw[Gw.out];exact e0⟩))))));exact QA4
  refine M940 ?_;clear e0;intro Eh Lz Jo;clear Ca;by_cases n0:n=0;rotate_left
  .
   have n0':(n != 0)=true:=by simpa using n0
   have he:Hid (aY (.mk 7 n name ks bs es) d left=false):=aU Am.out Aq.out Ap.out (bI (.inr (.inr (.inl A36))));exact QA4
  have n0':(n != 0)=false:=by simpa using n0
  have Dr:Hid (inB n 0 (cS 7)=true):=by show _=_;rw[n0];decide
  clear n0;have Ns:Hid (fW 7 n name ks.length bs.length es.length=true):=by show _=_;rw[Am.out,Aq.out,Ap.out];exact iH HI1.out Fq.out Dr.out (by rw[show eG 7=false from by decide];exact zB3 Lz.out) Gc.out Ei.out
  obtain⟨b3,o3,rfl⟩:=h3.addr (by rw[Dp,Jo.out];omega);obtain⟨xk,hxk⟩:∃x,ks=[x]:=aOb (Am.out.trans Jo.out);have Fj:(exs ks)[0]?=some xk.fl:=by rw[hxk];simp[exs]
  obtain⟨uk,hvk,hck⟩:=(h3.el Fj).vals;obtain⟨v0,v1,v2,v3,v4,rfl⟩:=dT (hvk.len.trans (eL xk));have hv0:v0=.int .i64 xk.kind:=by
   obtain⟨e0,e1,e2,e3,e4⟩:=xk;unfold Ex.fl at hvk;obtain⟨y0,_,ey,ry,_⟩:=hvk;simp only[zJ2]at ey;rw[ey.1];exact ry
  have tk:w2.cell? ⟨b3,o3,none⟩=some (.int .i64 xk.kind):=by
   have:=aB (hck 0 _ rfl) hb;rw[hv0]at this;simpa using this
  have hkp:(0:Int)<(nk:Int):=by rw[Jo.out];omega
  have HXK:Hid (ks=[xk]):=hxk;clear hck hvk Fj hv0 hxk;by_cases k6:xk.kind=6;rotate_left
  .
   have k6':(xk.kind != 6)=true:=by simpa using k6
   have he:Hid (aY (.mk 7 n name ks bs es) d left=false):=by show _=_;rw[HXK.out];exact aB5 k6
   clear k6;generalize xk.kind=kk at *;exact QA4
  have k6':(xk.kind != 6)=false:=by simpa using k6
  have Nx:Hid ((!decide ((7:Int)=7) || ks.any iW)=true):=by show _=_;rw[HXK.out];simp[iW,k6]
  clear k6;generalize xk.kind=kk at *;have HE:Hid (aY (.mk 7 n name ks bs es) d left=kG ks bs es (d+1) m):=by
   exact QA38
  have HD:Hid (gD (.mk 7 n name ks bs es)=1+(aD ks+aK bs+aK es)):=by show _=_;simp[gD]
  refine M94 ?_;intro Ga HY Bn Ea Eq Nq Np Cq Ez Cj Cr;go_wp2_with fail;clear q0 q1 q2 q3 q4 q5 x0 yy hb Av h3 h4 h5 z0 Eh tk Jm Jl;go_loopw [11] (fun i wr=>∃j:Nat,j<=nk/\i=.int .i64 j/\Hid (w2.grownBy wr (some g))/\Hid (Lft wr g (m-(aD (ks.take j):Int)))/\Hid ((aD (ks.take j):Int)<=m)/\Hid (∀i x,i<j->ks[i]?=some x->cT x (d+1) false (m-(aD (ks.take i):Int))=true)) (fun i _=>nk-(intOf i).toNat)
  case atStart=>exact⟨0,zD1 _,rfl,aP _ _,Ea,by show(_:Int)<=_;simp[aD];omega,by show ∀_ _,_;omega⟩
  case round=>
   obtain⟨j,hj,rfl,Al,Cs,Ej,Ao⟩:=hrel;clear Ea;refine M932 ?_;intro x0 q3 hb;by_cases Ad:j<nk
   .
    have HRX:=Eq;refine M916 ?_;intro x hx Bc us Ak Ab;obtain⟨u0,u1,u2,u3,u4,rfl⟩:=dT (Ak.len.trans (eL x));refine M966 ?_;clear Ab;intro Ab t0 t1 t2 t3 t4 Cd HC;simp only[agg]at HC;have HJ:=hid hx;have Dn:=hid (bR hx);clear Ab hx Bc Cd Ak;generalize hsp:cT x (d+1) false (m-(aD (ks.take j):Int))=rr at *;have Cm:=hid hsp;clear hsp;go_wp2_with fail;refine M926 ?_;intro w4 Af Bd;refine M948 ?_;intro Dg Ds;clear HC t0 t1 t2 t3 t4 q3 x0 hb Af Bd;cases rr
    .
     have he:Hid (aY (.mk 7 n name ks bs es) d left=false):=by show _=_;rw[HE.out];unfold kG;rw[eA HJ.out Cm.out];rfl
     have Bl:=aC HY.out Dg.out;exact QA12
    .
     exact QA3
   .
    have:j=nk:=A0;subst this;refine M97 ?_;intro Hm Mx Da Bl q4 q5 HC;rw[Aq.out,show nb=0 by omega]at HC;generalize hsp:cI bs (d+1) (m-(aD ks:Int))=r4 at *;have Cn:=hid hsp;clear hsp Al Cs Ej Ao;go_wp2_with fail;refine M924 ?_;clear x0 hb Bl;intro w4 Af Bd x0 hb Bl;clear HC q3 q4 q5 Da Af;cases r4
    .
     have he:Hid (aY (.mk 7 n name ks bs es) d left=false):=by show _=_;rw[HE.out];unfold kG;rw[Cn.out];simp
     clear Bd;exact QA12
    .
     refine M917 ?_;intro Mw Nh q5 HC;generalize hsp:cI es (d+1) (m-(aD ks:Int)-(aK bs:Int))=r5 at *;have Fc:=hid hsp;clear hsp Bd;go_wp2_with fail;refine HC.mono ?_;rintro e w5 ⟨rfl,Az,Ng⟩;have he:Hid (aY (.mk 7 n name ks bs es) d left=r5):=by show _=_;rw[HE.out];unfold kG;rw[Hm.out,Cn.out,Fc.out];rfl
     exact QA8
end Go.Proofs.YtcbhdhmhidpdgaaGreatDoor

import Derived.Test.YtcbhdhmhidpdgaaGreatSpEx
namespace Go.Proofs.YtcbhdhmhidpdgaaGreat
open Go.RowKit
set_option linter.unusedVariables false
set_option linter.unusedSimpArgs false
set_option maxRecDepth 100000
section
variable{left:Int}{ks:List Ex}{es:List St}{nb nk:Nat}
def gE (k n:Int)(name:List Int)(nk nb ne:Nat):Bool:=
 inB k 0 7 && (inB n 0 (cX k) && inB nk (cD k) (cD k) && (if eK k then aO name false else decide (name.length=0))) && (decide (nb=0) || iH k) && (decide (ne=0) || decide (k=2))
theorem oH (k n:Int)(name:List Int)(ks:List Ex)(nb ne:Nat):oU k n name ks nb ne=(gE k n name ks.length nb ne && !ks.any lP && (!decide (k=7) || ks.any jE)):=rfl
theorem bK{k n:Int}{name:List Int}{ne:Nat}(h:inB k 0 7=false\/¬(nk:Int)=cD k\/inB n 0 (cX k)=false\/(eK k=true/\aO name false=false)\/(eK k=false/\¬name.length=0)\/(¬nb=0/\iH k=false)\/(¬ne=0/\¬k=2)):gE k n name nk nb ne=false:=by
 unfold gE;rcases h with h|h|h|⟨h1,h2⟩|⟨h1,h2⟩|⟨h1,h2⟩|⟨h1,h2⟩
 .
  rw[h];rfl
 .
  have:inB (nk:Int) (cD k) (cD k)=false:=by simp[inB];omega
  rw[this];simp
 .
  rw[h];simp
 .
  rw[h1,if_pos rfl,h2];simp
 .
  rw[h1,zC2 h2];simp
 .
  rw[zC2 h1,h2];simp
 .
  rw[zC2 h1,zC2 h2];simp
theorem iN{k n:Int}{name:List Int}{ne:Nat}(h1:inB k 0 7=true)(h2:(nk:Int)=cD k)(h3:inB n 0 (cX k)=true)(h4:(if eK k then aO name false else decide (name.length=0))=true)(h5:(decide (nb=0) || iH k)=true)(h6:(decide (ne=0) || decide (k=2))=true):gE k n name nk nb ne=true:=by
 have:inB (nk:Int) (cD k) (cD k)=true:=by simp[inB];omega
 unfold gE;rw[h1,this,h3,h4,h5,h6];rfl
def kQ (ks:List Ex)(bs es:List St)(d left:Int):Bool:=eC ks d false left && cJ bs d (left-(aD ks:Int)) && cJ es d (left-(aD ks:Int)-(aK bs:Int))
theorem aCf{k n:Int}{name:List Int}{bs:List St}{d:Int}(h:gE k n name ks.length bs.length es.length=false):aZ (.mk k n name ks bs es) d left=false:=by
 refine nE ?_;rw[tM,oH,h];rfl
theorem aCg{n:Int}{name:List Int}{x:Ex}{bs:List St}{d:Int}(h:¬x.kind=6):aZ (.mk 7 n name [x] bs es) d left=false:=by
 refine nE ?_;rw[tM,oH];simp[jE,h]
theorem iR{k n:Int}{name:List Int}{bs:List St}{d:Int}(h:gE k n name ks.length bs.length es.length=true)(hc:(!decide (k=7) || ks.any jE)=true)(hl:1<=left)(hd:d<=16):aZ (.mk k n name ks bs es) d left=kQ ks bs es (d+1) (left-1):=by
 unfold kQ eC;cases ha:ks.any lP
 .
  simp only[Bool.not_false,Bool.or_true,Bool.true_and];exact aCe (by rw[tM,oH,h,ha,hc];rfl) hl hd
 .
  simp only[Bool.not_true,Bool.or_self,Bool.false_and];refine nE ?_;rw[tM,oH,ha];simp
theorem iI{l:List Ex}{d:Int}{Bi:Bool}(h:eC l d Bi left=true):(aD l:Int)<=left:=by
 unfold eC at h;rw[zC0]at h;exact aE7 h.2
end
theorem A14{p:Prop}(h:p:=by have:=(zC1.1 hy).1;rw[Ap.out]at this;exact this):p:=h
theorem A19{p:Prop}(h:p:=by rw[Ap.out];exact zB0 _):p:=h
theorem A30{p:Prop}(h:p:=by rw[Ap.out];exact Ad):p:=h
theorem A40{p:Prop}(h:p:=by simp[inB,cX];omega):p:=h
theorem QA8{p:Prop}(h:p:=by
 clear HC q5
 go_wp2
 go_ret
 rw[he.out]
 exact⟨rfl,aC Bm Az,fun h=>by
  have:=Nq h
  rw[HD.out,show left-((1+(aD ks+aK bs+aK es):Nat):Int)=m-(aD ks:Int)-(aK bs:Int)-(aK es:Int) by have:=Bt.out;omega]
  exact this⟩):p:=h
theorem QA38{p:Prop}(h:p:=by
 show _=_
 rw[iR Ok.out Oq.out A17 A0,Bt.out]):p:=h
theorem M967{p q:Prop}(k:q)(h:Kx q->p:=by
 intro kQ
 replace Ab:∀i v,_->_:=fun i v hv=>aB (Ab i v hv) hb
 have t0:wr.cell? ⟨b3,o3+j*5,none⟩=some u0:=Ab 0 _ rfl
 have t1:wr.cell? ⟨b3,o3+j*5+1,none⟩=some u1:=Ab 1 _ rfl
 have t2:wr.cell? ⟨b3,o3+j*5+2,none⟩=some u2:=Ab 2 _ rfl
 have t3:wr.cell? ⟨b3,o3+j*5+3,none⟩=some u3:=Ab 3 _ rfl
 have t4:wr.cell? ⟨b3,o3+j*5+4,none⟩=some u4:=Ab 4 _ rfl
 have Ch:=zF2 (cA (zA3 Bc)) Df
 have HC:=S3 x (zA3 hx) w0 wr [u0,u1,u2,u3,u4] g (m-(aD (ks.take j):Int)) (d+1) false Al hb hg Cw.out A25 A0 Cv Cn Ch
 revert HC;revert Ch;revert t4;revert t3;revert t2;revert t1;revert t0;revert Ab
 exact kQ.o):p:=h ⟨k⟩
theorem M94{p q:Prop}(k:q)(h:Kx q->p:=by
 intro kQ
 have Ga:Hid _:=x0
 have HY:Hid (w.grownBy w2 (some g)):=yy
 have Bv:Hid (Below w0.heap.size w0 w2):=hb
 have Eb:Hid (Lft w2 g (m-(aD (ks.take 0):Int))):=by show Lft _ _ _;simpa [aD] using Av
 have Ep:=hid h3
 have Oh:=hid h4
 have Og:=hid h5
 have Cu:0<=m:=A0
 have Ew:m<=250:=by have:=Bt.out;omega
 have Cn:d+1<=17:=A0
 have Cv:0<=d+1:=A0
 revert Cv;revert Cn;revert Ew;revert Cu;revert Og;revert Oh;revert Ep;revert Eb;revert Bv;revert HY;revert Ga
 exact kQ.o):p:=h ⟨k⟩
theorem M97{p q:Prop}(k:q)(h:Kx q->p:=by
 intro kQ
 have Ht:Hid (eC ks (d+1) false m=true):=dL (fun i y hy=>Aq.out i y A14 hy) Cu
 have Nh:=iI Ht.out
 have Dd:=Cw.out
 rw[zD3 A19]at Dd
 have Bm:=aC HY.out Am.out
 have q4:=x0.k 4
 have q5:=x0.k 5
 have HC:=S4 w0 wr a4 c4 g (m-(aD ks:Int)) (d+1) Oh.out hb hg Dd A0 A0 Cv Cn Nb
 revert HC;revert q5;revert q4;revert Bm;revert Dd;revert Nh;revert Ht
 exact kQ.o):p:=h ⟨k⟩
theorem M915{p q:Prop}(k:q)(h:Kx q->p:=by
 intro kQ
 obtain⟨x,hx⟩:∃x,ks[j]?=some x:=⟨ks[j]' A30,zA0 _⟩
 have Bc:(exs ks)[j]?=some x.fl:=by rw[aY,zA2,hx];rfl
 obtain⟨us,Al,Ab⟩:=(aX.el Ep.out Bc).vals
 revert Ab;revert Al;revert us;revert Bc;revert hx;revert x
 exact kQ.o):p:=h ⟨k⟩
theorem M916{p q:Prop}(k:q)(h:Kx q->p:=by
 intro kQ
 have Ng:=eP Cq.out
 have Nr:=Bd rfl
 have q5:=x0.k 5
 have HC:=S5 w0 w4 a5 c5 g (m-(aD ks:Int)-(aK bs:Int)) (d+1) Og.out hb hg Nr A0 A0 Cv Cn Na
 rw[Ar.out,show ne=0 by omega]at HC
 revert HC;revert q5;revert Nr;revert Ng
 exact kQ.o):p:=h ⟨k⟩
theorem M923{p q:Prop}(k:q)(h:Kx q->p:=by
 intro kQ
 refine HC.mono ?_
 rintro e w4 ⟨rfl,Ah,Bd⟩
 replace x0:=x0.grown Ah Au
 replace hb:=bY hb Ah hg
 replace Bm:=aC Bm Ah
 revert Bm;revert hb;revert x0;revert Bd;revert Ah;revert w4
 exact kQ.o):p:=h ⟨k⟩
theorem M924{p q:Prop}(k:q)(h:Kx q->p:=by
 intro kQ
 refine HC.mono ?_
 rintro e w4 ⟨rfl,Ah,Bd⟩
 revert Bd;revert Ah;revert w4
 exact kQ.o):p:=h ⟨k⟩
theorem M932{p q:Prop}(k:q)(h:Kx q->p:=by
 intro kQ
 have x0:=Blk.grown Ga.out Am.out Au
 have q3:=x0.k 3
 have hb:=bY Bv.out Am.out hg
 revert hb;revert q3;revert x0
 exact kQ.o):p:=h ⟨k⟩
theorem M940{p q:Prop}(k:q)(h:Kx q->p:=by
 intro kQ
 have Ez:¬(0:Int)<(nn:Int):=A0
 have Mi:=hid (Ha.out.trans e0)
 have Jr:Hid _:=Bz
 revert Jr;revert Mi;revert Ez
 exact kQ.o):p:=h ⟨k⟩
theorem M942{p q:Prop}(k:q)(h:Kx q->p:=by
 intro kQ
 have Mb:((1:Int) != (nk:Int))=false:=by simp;omega
 have Fq:=hid c1
 have Bz:nk=1:=A0
 revert Bz;revert Fq;revert Mb
 exact kQ.o):p:=h ⟨k⟩
theorem M949{p q:Prop}(k:q)(h:Kx q->p:=by
 intro kQ
 have Di:=hid (aC Am.out Ah)
 have Dv:=hid Bd
 revert Dv;revert Di
 exact kQ.o):p:=h ⟨k⟩
def aRx (x:St):Prop:=∀(w0 w:World) (vs:List Value) (g:Nat) (left d:Int),aL w0 x.fl vs->Below w0.heap.size w0 w->w0.heap.size<=g->Lft w g left->0<=left->left<=250->0<=d->d<=17->aP x.fl<=1048576 →
 Calls Tryz.prog 120 #[agg vs,.int .i64 d,.pointer (some ⟨g,0,none⟩)] w fun e w'=>e=.returned (.bool (aZ x d left))/\w.grownBy w' (some g)/\(aZ x d left=true->Lft w' g (left-(gG x:Int)))
def aJa (l:List St):Prop:=∀(w0 w:World) (a:Option Addr) (c g:Nat) (left d:Int),aX w0 a c 6 (sts l)->Below w0.heap.size w0 w->w0.heap.size<=g->Lft w g left->0<=left->left<=250->0<=d->d<=17->aG (sts l)<=1048576 →
 Calls Tryz.prog 110 #[.slice a l.length c,.int .i64 d,.pointer (some ⟨g,0,none⟩)] w fun e w'=>e=.returned (.bool (cJ l d left))/\w.grownBy w' (some g)/\(cJ l d left=true->Lft w' g (left-(aK l:Int)))
theorem aO6 {α:Type}{l:List α}(h:l.length=1):∃x,l=[x]:=by
 match l,h with
 | [x],_=>exact⟨x,rfl⟩
theorem aW {k n:Int}{name:List Int}{ks:List Ex}{bs es:List St}{d left:Int}{nk nb ne:Nat}(h1:ks.length=nk)(h2:bs.length=nb)(h3:es.length=ne)(h:gE k n name nk nb ne=false):aZ (.mk k n name ks bs es) d left=false:=by
 refine aCf ?_;rw[h1,h2,h3];exact h
set_option maxHeartbeats 40000000 in
theorem aSj (k n:Int)(name:List Int)(ks:List Ex)(bs es:List St)(S3:∀x ∈ ks,aJb x)(S4:aJa bs)(S5:aJa es):aRx (.mk k n name ks bs es):=by
 intro w0 w vs g left d hr hb hg hL Gl Xl Zc hd1 hs;unfold St.fl at hr;have Qi:aP (St.mk k n name ks bs es).fl=name.length+((exs ks).length+aG (exs ks))+((sts bs).length+aG (sts bs))+((sts es).length+aG (sts es)):=by simp[St.fl,aP,Fl.len] <;> omega
 rw[Qi]at hs;have Jw:name.length<=1048576:=A0;have Df:aG (exs ks)<=1048576:=A0;have Nb:aG (sts bs)<=1048576:=A0;have Na:aG (sts es)<=1048576:=A0;clear hs Qi;obtain⟨y0,_,rfl,rfl,y1,_,rfl,rfl,y2,_,rfl,⟨a2,c2,rfl,h2,Do,_⟩,y3,_,rfl,h3',y4,_,rfl,Qh,y5,_,rfl,h5',rfl⟩:=hr;obtain⟨a3,c3,rfl,h3⟩:=h3'.list;obtain⟨a4,c4,rfl,h4⟩:=Qh.list;obtain⟨a5,c5,rfl,h5⟩:=h5'.list;clear h3' Qh h5';have Ds:(exs ks).length=ks.length:=by simp[aY]
 have Ck:(sts bs).length=bs.length:=by simp[bE]
 have Nk:(sts es).length=es.length:=by simp[bE]
 have Kq:ks.length<=9223372036854775807:=by have h7:=h3.cap;have h6:=h3.most;unfold maxLen at h6;omega
 have Ls:bs.length<=9223372036854775807:=by have h7:=h4.cap;have h6:=h4.most;unfold maxLen at h6;omega
 have he9:es.length<=9223372036854775807:=by have h7:=h5.cap;have h6:=h5.most;unfold maxLen at h6;omega
 rw[Ds,Ck,Nk];clear Ck Nk;simp only[agg];obtain⟨nn,Jb⟩:=zx (name.length);rw[<-Jb]at h2 Jw Do ⊢;have Ha:=hid Jb.symm;clear Jb;obtain⟨nk,hnk⟩:=zx (ks.length);obtain⟨nb,Ba⟩:=zx (bs.length);obtain⟨ne,Ae⟩:=zx (es.length);rw[<-hnk]at Ds Kq ⊢;rw[<-Ba]at Ls ⊢;rw[<-Ae]at he9 ⊢;have Ap:=hid hnk.symm;have As:=hid Ba.symm;have Ar:=hid Ae.symm;clear hnk Ba Ae;have Ey:=Blk.lt hL;have Au:w.heap.size ≠ g:=A0;have yy:=aE w (.cells #[.int .i64 k,.int .i64 n,.slice a2 nn c2,.slice a3 nk c3,.slice a4 nb c4,.slice a5 ne c5] 150 (0,0)) (some g);have x0:=Blk.new w 150 [.int .i64 k,.int .i64 n,.slice a2 nn c2,.slice a3 nk c3,.slice a4 nb c4,.slice a5 ne c5];have Tw:=Blk.old hL (o:=.cells #[.int .i64 k,.int .i64 n,.slice a2 nn c2,.slice a3 nk c3,.slice a4 nb c4,.slice a5 ne c5] 150 (0,0));replace hb:Below w0.heap.size w0 (w.alloc (.cells #[.int .i64 k,.int .i64 n,.slice a2 nn c2,.slice a3 nk c3,.slice a4 nb c4,.slice a5 ne c5] 150 (0,0))):=hb.alloc hb.size _;clear hL;go_enter Tryz.func120,Tryz.ntmps120;go_upto_region 1 with fail;generalize w.alloc (.cells #[.int .i64 k,.int .i64 n,.slice a2 nn c2,.slice a3 nk c3,.slice a4 nb c4,.slice a5 ne c5] 150 (0,0))=w1 at *;have z0:=Tw.k 0;have z1:=Tw.free 0;go_upto_region 2 with fail;refine M964 ?_;intro Av hq;replace x0:=x0.grown hq Au;replace yy:=aC yy hq;replace hb:=bY hb hq hg;generalize w1.setCell ⟨g,0,none⟩ (.int .i64 (left-1))=w2 at *;generalize w.heap.size=gx at *;clear z0 z1 Tw hq Ey;obtain⟨m,hm⟩:=zx (left-1);rw[<-hm]at Av;have Bt:Hid (m=left-1):=hm;have z0:=Av.k 0;obtain⟨q0,q1,q2,q3,q4,q5⟩:=x0.c6;by_cases r1:m<0
 .
  have he:Hid (aZ (.mk k n name ks bs es) d left=false):=rC (.inl A0);clear hm;exact QA4
 by_cases r2:16<d
 .
  have he:Hid (aZ (.mk k n name ks bs es) d left=false):=rC (.inr r2);clear hm;exact QA4
 clear hm;by_cases i1:inB k 0 7=true;rotate_left
 .
  have Aj:inB k 0 7=false:=by simpa using i1
  have he:Hid (aZ (.mk k n name ks bs es) d left=false):=aW Ap.out As.out Ar.out (bK (.inl Aj));have g0:(k == 0)=false:=by simp only[inB,zH3,zH0]at Aj;simp only[beq_eq_false_iff_ne,ne_eq];omega
  have g1:(k == 1)=false:=by simp only[inB,zH3,zH0]at Aj;simp only[beq_eq_false_iff_ne,ne_eq];omega
  have g2:(k == 2)=false:=by simp only[inB,zH3,zH0]at Aj;simp only[beq_eq_false_iff_ne,ne_eq];omega
  have g3:(k == 3)=false:=by simp only[inB,zH3,zH0]at Aj;simp only[beq_eq_false_iff_ne,ne_eq];omega
  have g4:(k == 4)=false:=by simp only[inB,zH3,zH0]at Aj;simp only[beq_eq_false_iff_ne,ne_eq];omega
  have g5:(k == 5)=false:=by simp only[inB,zH3,zH0]at Aj;simp only[beq_eq_false_iff_ne,ne_eq];omega
  have g6:(k == 6)=false:=by simp only[inB,zH3,zH0]at Aj;simp only[beq_eq_false_iff_ne,ne_eq];omega
  have g7:(k == 7)=false:=by simp only[inB,zH3,zH0]at Aj;simp only[beq_eq_false_iff_ne,ne_eq];omega
  have g8:((-1:Int) != (nk:Int))=true:=by simp only[bne_iff_ne,ne_eq];omega
  clear Aj i1;exact QA4
 have h8:=aUa i1;have HI1:=hid i1;clear i1;rcases h8 with rfl|rfl|rfl|rfl|rfl|rfl|rfl|rfl
 .
  by_cases c1:(nk:Int)=1;rotate_left
  .
   have Mb:((1:Int) != (nk:Int))=true:=by simp;omega
   have he:Hid (aZ (.mk 0 n name ks bs es) d left=false):=aW Ap.out As.out Ar.out (bK (.inr (.inl c1)));exact QA4
  refine M942 ?_;intro Mb Fq Bz;clear c1;by_cases b1:nb=0;rotate_left
  .
   have Jq:(0:Int)<(nb:Int):=A0;clear Bz;have he:Hid (aZ (.mk 0 n name ks bs es) d left=false):=aW Ap.out As.out Ar.out (bK (.inr (.inr (.inr (.inr (.inr (.inl ⟨b1,by decide⟩)))))));exact QA4
  have Jq:¬(0:Int)<(nb:Int):=A0;have Gf:Hid ((decide (nb=0) || iH 0)=true):=by show _=_;rw[zB3 b1];rfl
  clear b1;by_cases b2:ne=0;rotate_left
  .
   have Jp:(0:Int)<(ne:Int):=A0;clear Bz;have he:Hid (aZ (.mk 0 n name ks bs es) d left=false):=aW Ap.out As.out Ar.out (bK (.inr (.inr (.inr (.inr (.inr (.inr ⟨b2,by decide⟩)))))));exact QA4
  have Jp:¬(0:Int)<(ne:Int):=A0;have Gc:Hid ((decide (ne=0) || decide ((0:Int)=2))=true):=by show _=_;rw[zB3 b2];rfl
  clear b2;have Dk:=aR a2 nn c2 name false w2 (h2.below hb) A0;by_cases e0:nn=0
  .
   have Aj:aO name false=false:=dB A52;rw[e0]at q2 ⊢;clear Bz;have he:Hid (aZ (.mk 0 n name ks bs es) d left=false):=aW Ap.out As.out Ar.out (bK (.inr (.inr (.inr (.inl ⟨by decide,Aj⟩)))));exact QA4
  have Ez:(0:Int)<(nn:Int):=A0;generalize Uo:aO name false=ok at *;have Ea:=hid Uo;clear Uo;have Jr:Hid _:=Bz;clear Bz;go_wp2_with fail;refine Dk.mono ?_;rintro e w2 ⟨rfl,rfl⟩;clear Dk;cases ok
  .
   have he:Hid (aZ (.mk 0 n name ks bs es) d left=false):=aW Ap.out As.out Ar.out (bK (.inr (.inr (.inr (.inl ⟨by decide,Ea.out⟩)))));exact QA4
  by_cases n0:n=0;rotate_left
  .
   have n0':(n != 0)=true:=by simpa using n0
   have he:Hid (aZ (.mk 0 n name ks bs es) d left=false):=aW Ap.out As.out Ar.out (bK (.inr (.inr (.inl A40))));exact QA4
  have n0':(n != 0)=false:=by simpa using n0
  have Du:Hid (inB n 0 (cX 0)=true):=by show _=_;rw[n0];decide
  clear n0;have Ok:Hid (gE 0 n name ks.length bs.length es.length=true):=by show _=_;rw[Ap.out,As.out,Ar.out];exact iN HI1.out Fq.out Du.out (by rw[show eK 0=true from by decide];exact Ea.out) Gf.out Gc.out
  have Oq:Hid ((!decide ((0:Int)=7) || ks.any jE)=true):=by show _=_;simp
  have HE:Hid (aZ (.mk 0 n name ks bs es) d left=kQ ks bs es (d+1) m):=by
   exact QA38
  have HD:Hid (gG (.mk 0 n name ks bs es)=1+(aD ks+aK bs+aK es)):=by show _=_;simp[gG]
  refine M94 ?_;intro Ga HY Bv Eb Ep Oh Og Cu Ew Cn Cv;go_wp2_with fail;clear q0 q1 q2 q3 q4 q5 x0 yy hb Av h3 h4 h5 z0 Ez Jq Jp;go_loopw [11] (fun i wr=>∃j:Nat,j<=nk/\i=.int .i64 j/\Hid (w2.grownBy wr (some g))/\Hid (Lft wr g (m-(aD (ks.take j):Int)))/\Hid ((aD (ks.take j):Int)<=m)/\Hid (∀i x,i<j->ks[i]?=some x->cY x (d+1) false (m-(aD (ks.take i):Int))=true)) (fun i _=>nk-(intOf i).toNat)
  case atStart=>exact⟨0,zD1 _,rfl,aQ _ _,Eb,by show(_:Int)<=_;simp[aD];omega,by show ∀_ _,_;omega⟩
  case round=>
   obtain⟨j,hj,rfl,Am,Cw,Ei,Aq⟩:=hrel;clear Eb;refine M932 ?_;intro x0 q3 hb;by_cases Ad:j<nk
   .
    obtain⟨b3,o3,rfl⟩:=aX.addr Ep.out A48;refine M915 ?_;intro x hx Bc us Al Ab;obtain⟨u0,u1,u2,u3,u4,rfl⟩:=dV (Al.len.trans (eQ x));refine M967 ?_;clear Ab;intro Ab t0 t1 t2 t3 t4 Ch HC;simp only[agg]at HC;have HJ:=hid hx;have Dq:=hid (bU hx);clear Ab hx Bc Ch Al;generalize hsp:cY x (d+1) false (m-(aD (ks.take j):Int))=rr at *;have Co:=hid hsp;clear hsp;go_wp2_with fail;refine M924 ?_;intro w4 Ah Bd;refine M949 ?_;intro Di Dv;clear HC t0 t1 t2 t3 t4 q3 x0 hb Ah Bd;cases rr
    .
     have he:Hid (aZ (.mk 0 n name ks bs es) d left=false):=by show _=_;rw[HE.out];unfold kQ;rw[eE HJ.out Co.out];rfl
     have Bm:=aC HY.out Di.out;exact QA12
    .
     exact QA3
   .
    have:j=nk:=A0;subst this;refine M97 ?_;intro Ht Nh Dd Bm q4 q5 HC;rw[As.out,show nb=0 by omega]at HC;generalize hsp:cJ bs (d+1) (m-(aD ks:Int))=r4 at *;have Cq:=hid hsp;clear hsp Am Cw Ei Aq;go_wp2_with fail;refine M923 ?_;clear x0 hb Bm;intro w4 Ah Bd x0 hb Bm;clear HC q3 q4 q5 Dd Ah;cases r4
    .
     have he:Hid (aZ (.mk 0 n name ks bs es) d left=false):=by show _=_;rw[HE.out];unfold kQ;rw[Cq.out];simp
     clear Bd;exact QA12
    .
     refine M916 ?_;intro Ng Nr q5 HC;generalize hsp:cJ es (d+1) (m-(aD ks:Int)-(aK bs:Int))=r5 at *;have Fb:=hid hsp;clear hsp Bd;go_wp2_with fail;refine HC.mono ?_;rintro e w5 ⟨rfl,Az,Nq⟩;have he:Hid (aZ (.mk 0 n name ks bs es) d left=r5):=by show _=_;rw[HE.out];unfold kQ;rw[Ht.out,Cq.out,Fb.out];rfl
     exact QA8
 .
  by_cases c1:(nk:Int)=2;rotate_left
  .
   have Mb:((2:Int) != (nk:Int))=true:=by simp;omega
   have he:Hid (aZ (.mk 1 n name ks bs es) d left=false):=aW Ap.out As.out Ar.out (bK (.inr (.inl c1)));exact QA4
  have Mb:((2:Int) != (nk:Int))=false:=by simp;omega
  have Fq:=hid c1;have Bz:nk=2:=A0;clear c1;by_cases b1:nb=0;rotate_left
  .
   have Jq:(0:Int)<(nb:Int):=A0;clear Bz;have he:Hid (aZ (.mk 1 n name ks bs es) d left=false):=aW Ap.out As.out Ar.out (bK (.inr (.inr (.inr (.inr (.inr (.inl ⟨b1,by decide⟩)))))));exact QA4
  have Jq:¬(0:Int)<(nb:Int):=A0;have Gf:Hid ((decide (nb=0) || iH 1)=true):=by show _=_;rw[zB3 b1];rfl
  clear b1;by_cases b2:ne=0;rotate_left
  .
   have Jp:(0:Int)<(ne:Int):=A0;clear Bz;have he:Hid (aZ (.mk 1 n name ks bs es) d left=false):=aW Ap.out As.out Ar.out (bK (.inr (.inr (.inr (.inr (.inr (.inr ⟨b2,by decide⟩)))))));exact QA4
  have Jp:¬(0:Int)<(ne:Int):=A0;have Gc:Hid ((decide (ne=0) || decide ((1:Int)=2))=true):=by show _=_;rw[zB3 b2];rfl
  clear b2;have Dk:=aR a2 nn c2 name false w2 (h2.below hb) A0;by_cases e0:nn=0
  .
   have Aj:aO name false=false:=dB A52;rw[e0]at q2 ⊢;clear Bz;have he:Hid (aZ (.mk 1 n name ks bs es) d left=false):=aW Ap.out As.out Ar.out (bK (.inr (.inr (.inr (.inl ⟨by decide,Aj⟩)))));exact QA4
  have Ez:(0:Int)<(nn:Int):=A0;generalize Uo:aO name false=ok at *;have Ea:=hid Uo;clear Uo;have Jr:Hid _:=Bz;clear Bz;go_wp2_with fail;refine Dk.mono ?_;rintro e w2 ⟨rfl,rfl⟩;clear Dk;cases ok
  .
   have he:Hid (aZ (.mk 1 n name ks bs es) d left=false):=aW Ap.out As.out Ar.out (bK (.inr (.inr (.inr (.inl ⟨by decide,Ea.out⟩)))));exact QA4
  by_cases n0:n=0;rotate_left
  .
   have n0':(n != 0)=true:=by simpa using n0
   have he:Hid (aZ (.mk 1 n name ks bs es) d left=false):=aW Ap.out As.out Ar.out (bK (.inr (.inr (.inl A40))));exact QA4
  have n0':(n != 0)=false:=by simpa using n0
  have Du:Hid (inB n 0 (cX 1)=true):=by show _=_;rw[n0];decide
  clear n0;have Ok:Hid (gE 1 n name ks.length bs.length es.length=true):=by show _=_;rw[Ap.out,As.out,Ar.out];exact iN HI1.out Fq.out Du.out (by rw[show eK 1=true from by decide];exact Ea.out) Gf.out Gc.out
  have Oq:Hid ((!decide ((1:Int)=7) || ks.any jE)=true):=by show _=_;simp
  have HE:Hid (aZ (.mk 1 n name ks bs es) d left=kQ ks bs es (d+1) m):=by
   exact QA38
  have HD:Hid (gG (.mk 1 n name ks bs es)=1+(aD ks+aK bs+aK es)):=by show _=_;simp[gG]
  refine M94 ?_;intro Ga HY Bv Eb Ep Oh Og Cu Ew Cn Cv;go_wp2_with fail;clear q0 q1 q2 q3 q4 q5 x0 yy hb Av h3 h4 h5 z0 Ez Jq Jp;go_loopw [11] (fun i wr=>∃j:Nat,j<=nk/\i=.int .i64 j/\Hid (w2.grownBy wr (some g))/\Hid (Lft wr g (m-(aD (ks.take j):Int)))/\Hid ((aD (ks.take j):Int)<=m)/\Hid (∀i x,i<j->ks[i]?=some x->cY x (d+1) false (m-(aD (ks.take i):Int))=true)) (fun i _=>nk-(intOf i).toNat)
  case atStart=>exact⟨0,zD1 _,rfl,aQ _ _,Eb,by show(_:Int)<=_;simp[aD];omega,by show ∀_ _,_;omega⟩
  case round=>
   obtain⟨j,hj,rfl,Am,Cw,Ei,Aq⟩:=hrel;clear Eb;refine M932 ?_;intro x0 q3 hb;by_cases Ad:j<nk
   .
    obtain⟨b3,o3,rfl⟩:=aX.addr Ep.out A48;refine M915 ?_;intro x hx Bc us Al Ab;obtain⟨u0,u1,u2,u3,u4,rfl⟩:=dV (Al.len.trans (eQ x));refine M967 ?_;clear Ab;intro Ab t0 t1 t2 t3 t4 Ch HC;simp only[agg]at HC;have HJ:=hid hx;have Dq:=hid (bU hx);clear Ab hx Bc Ch Al;generalize hsp:cY x (d+1) false (m-(aD (ks.take j):Int))=rr at *;have Co:=hid hsp;clear hsp;go_wp2_with fail;refine M924 ?_;intro w4 Ah Bd;refine M949 ?_;intro Di Dv;clear HC t0 t1 t2 t3 t4 q3 x0 hb Ah Bd;cases rr
    .
     have he:Hid (aZ (.mk 1 n name ks bs es) d left=false):=by show _=_;rw[HE.out];unfold kQ;rw[eE HJ.out Co.out];rfl
     have Bm:=aC HY.out Di.out;exact QA12
    .
     exact QA3
   .
    have:j=nk:=A0;subst this;refine M97 ?_;intro Ht Nh Dd Bm q4 q5 HC;rw[As.out,show nb=0 by omega]at HC;generalize hsp:cJ bs (d+1) (m-(aD ks:Int))=r4 at *;have Cq:=hid hsp;clear hsp Am Cw Ei Aq;go_wp2_with fail;refine M923 ?_;clear x0 hb Bm;intro w4 Ah Bd x0 hb Bm;clear HC q3 q4 q5 Dd Ah;cases r4
    .
     have he:Hid (aZ (.mk 1 n name ks bs es) d left=false):=by show _=_;rw[HE.out];unfold kQ;rw[Cq.out];simp
     clear Bd;exact QA12
    .
     refine M916 ?_;intro Ng Nr q5 HC;generalize hsp:cJ es (d+1) (m-(aD ks:Int)-(aK bs:Int))=r5 at *;have Fb:=hid hsp;clear hsp Bd;go_wp2_with fail;refine HC.mono ?_;rintro e w5 ⟨rfl,Az,Nq⟩;have he:Hid (aZ (.mk 1 n name ks bs es) d left=r5):=by show _=_;rw[HE.out];unfold kQ;rw[Ht.out,Cq.out,Fb.out];rfl
     exact QA8
 .
  by_cases c1:(nk:Int)=1;rotate_left
  .
   have Mb:((1:Int) != (nk:Int))=true:=by simp;omega
   have he:Hid (aZ (.mk 2 n name ks bs es) d left=false):=aW Ap.out As.out Ar.out (bK (.inr (.inl c1)));exact QA4
  refine M942 ?_;intro Mb Fq Bz;clear c1;have Gf:Hid ((decide (nb=0) || iH 2)=true):=by show _=_;rw[show iH 2=true from by decide];simp
  have Gc:Hid ((decide (ne=0) || decide ((2:Int)=2))=true):=by show _=_;simp
  have Dk:=aR a2 nn c2 name false w2 (h2.below hb) A0;by_cases e0:nn=0;rotate_left
  .
   have Ez:(0:Int)<(nn:Int):=A0;clear Bz;have he:Hid (aZ (.mk 2 n name ks bs es) d left=false):=aW Ap.out As.out Ar.out (bK (.inr (.inr (.inr (.inr (.inl ⟨by decide,by rw[Ha.out];exact e0⟩))))));exact QA4
  refine M940 ?_;clear e0;intro Ez Mi Jr;clear Bz;by_cases n0:n=0;rotate_left
  .
   have n0':(n != 0)=true:=by simpa using n0
   have he:Hid (aZ (.mk 2 n name ks bs es) d left=false):=aW Ap.out As.out Ar.out (bK (.inr (.inr (.inl A40))));exact QA4
  have n0':(n != 0)=false:=by simpa using n0
  have Du:Hid (inB n 0 (cX 2)=true):=by show _=_;rw[n0];decide
  clear n0;have Ok:Hid (gE 2 n name ks.length bs.length es.length=true):=by show _=_;rw[Ap.out,As.out,Ar.out];exact iN HI1.out Fq.out Du.out (by rw[show eK 2=false from by decide];exact zB3 Mi.out) Gf.out Gc.out
  have Oq:Hid ((!decide ((2:Int)=7) || ks.any jE)=true):=by show _=_;simp
  have HE:Hid (aZ (.mk 2 n name ks bs es) d left=kQ ks bs es (d+1) m):=by
   exact QA38
  have HD:Hid (gG (.mk 2 n name ks bs es)=1+(aD ks+aK bs+aK es)):=by show _=_;simp[gG]
  refine M94 ?_;intro Ga HY Bv Eb Ep Oh Og Cu Ew Cn Cv;go_wp2_with fail;clear q0 q1 q2 q3 q4 q5 x0 yy hb Av h3 h4 h5 z0 Ez;go_loopw [11] (fun i wr=>∃j:Nat,j<=nk/\i=.int .i64 j/\Hid (w2.grownBy wr (some g))/\Hid (Lft wr g (m-(aD (ks.take j):Int)))/\Hid ((aD (ks.take j):Int)<=m)/\Hid (∀i x,i<j->ks[i]?=some x->cY x (d+1) false (m-(aD (ks.take i):Int))=true)) (fun i _=>nk-(intOf i).toNat)
  case atStart=>exact⟨0,zD1 _,rfl,aQ _ _,Eb,by show(_:Int)<=_;simp[aD];omega,by show ∀_ _,_;omega⟩
  case round=>
   obtain⟨j,hj,rfl,Am,Cw,Ei,Aq⟩:=hrel;clear Eb;refine M932 ?_;intro x0 q3 hb;by_cases Ad:j<nk
   .
    obtain⟨b3,o3,rfl⟩:=aX.addr Ep.out A48;refine M915 ?_;intro x hx Bc us Al Ab;obtain⟨u0,u1,u2,u3,u4,rfl⟩:=dV (Al.len.trans (eQ x));refine M967 ?_;clear Ab;intro Ab t0 t1 t2 t3 t4 Ch HC;simp only[agg]at HC;have HJ:=hid hx;have Dq:=hid (bU hx);clear Ab hx Bc Ch Al;generalize hsp:cY x (d+1) false (m-(aD (ks.take j):Int))=rr at *;have Co:=hid hsp;clear hsp;go_wp2_with fail;refine M924 ?_;intro w4 Ah Bd;refine M949 ?_;intro Di Dv;clear HC t0 t1 t2 t3 t4 q3 x0 hb Ah Bd;cases rr
    .
     have he:Hid (aZ (.mk 2 n name ks bs es) d left=false):=by show _=_;rw[HE.out];unfold kQ;rw[eE HJ.out Co.out];rfl
     have Bm:=aC HY.out Di.out;exact QA12
    .
     exact QA3
   .
    have:j=nk:=A0;subst this;refine M97 ?_;intro Ht Nh Dd Bm q4 q5 HC;rw[As.out]at HC;generalize hsp:cJ bs (d+1) (m-(aD ks:Int))=r4 at *;have Cq:=hid hsp;clear hsp Am Cw Ei Aq;go_wp2_with fail;refine M923 ?_;clear x0 hb Bm;intro w4 Ah Bd x0 hb Bm;clear HC q3 q4 q5 Dd Ah;cases r4
    .
     have he:Hid (aZ (.mk 2 n name ks bs es) d left=false):=by show _=_;rw[HE.out];unfold kQ;rw[Cq.out];simp
     clear Bd;exact QA12
    .
     have Ng:=eP Cq.out;have Nr:=Bd rfl;have q5:=x0.k 5;have HC:=S5 w0 w4 a5 c5 g (m-(aD ks:Int)-(aK bs:Int)) (d+1) Og.out hb hg Nr A0 A0 Cv Cn Na;rw[Ar.out]at HC;generalize hsp:cJ es (d+1) (m-(aD ks:Int)-(aK bs:Int))=r5 at *;have Fb:=hid hsp;clear hsp Bd;go_wp2_with fail;refine HC.mono ?_;rintro e w5 ⟨rfl,Az,Nq⟩;have he:Hid (aZ (.mk 2 n name ks bs es) d left=r5):=by show _=_;rw[HE.out];unfold kQ;rw[Ht.out,Cq.out,Fb.out];rfl
     exact QA8
 .
  by_cases c1:(nk:Int)=1;rotate_left
  .
   have Mb:((1:Int) != (nk:Int))=true:=by simp;omega
   have he:Hid (aZ (.mk 3 n name ks bs es) d left=false):=aW Ap.out As.out Ar.out (bK (.inr (.inl c1)));exact QA4
  refine M942 ?_;intro Mb Fq Bz;clear c1;have Gf:Hid ((decide (nb=0) || iH 3)=true):=by show _=_;rw[show iH 3=true from by decide];simp
  by_cases b2:ne=0;rotate_left
  .
   have Jp:(0:Int)<(ne:Int):=A0;clear Bz;have he:Hid (aZ (.mk 3 n name ks bs es) d left=false):=aW Ap.out As.out Ar.out (bK (.inr (.inr (.inr (.inr (.inr (.inr ⟨b2,by decide⟩)))))));exact QA4
  have Jp:¬(0:Int)<(ne:Int):=A0;have Gc:Hid ((decide (ne=0) || decide ((3:Int)=2))=true):=by show _=_;rw[zB3 b2];rfl
  clear b2;have Dk:=aR a2 nn c2 name false w2 (h2.below hb) A0;by_cases e0:nn=0;rotate_left
  .
   have Ez:(0:Int)<(nn:Int):=A0;clear Bz;have he:Hid (aZ (.mk 3 n name ks bs es) d left=false):=aW Ap.out As.out Ar.out (bK (.inr (.inr (.inr (.inr (.inl ⟨by decide,by rw[Ha.out];exact e0⟩))))));exact QA4
  refine M940 ?_;clear e0;intro Ez Mi Jr;clear Bz;by_cases n0:n=0;rotate_left
  .
   have n0':(n != 0)=true:=by simpa using n0
   have he:Hid (aZ (.mk 3 n name ks bs es) d left=false):=aW Ap.out As.out Ar.out (bK (.inr (.inr (.inl A40))));exact QA4
  have n0':(n != 0)=false:=by simpa using n0
  have Du:Hid (inB n 0 (cX 3)=true):=by show _=_;rw[n0];decide
  clear n0;have Ok:Hid (gE 3 n name ks.length bs.length es.length=true):=by show _=_;rw[Ap.out,As.out,Ar.out];exact iN HI1.out Fq.out Du.out (by rw[show eK 3=false from by decide];exact zB3 Mi.out) Gf.out Gc.out
  have Oq:Hid ((!decide ((3:Int)=7) || ks.any jE)=true):=by show _=_;simp
  have HE:Hid (aZ (.mk 3 n name ks bs es) d left=kQ ks bs es (d+1) m):=by
   exact QA38
  have HD:Hid (gG (.mk 3 n name ks bs es)=1+(aD ks+aK bs+aK es)):=by show _=_;simp[gG]
  refine M94 ?_;intro Ga HY Bv Eb Ep Oh Og Cu Ew Cn Cv;go_wp2_with fail;clear q0 q1 q2 q3 q4 q5 x0 yy hb Av h3 h4 h5 z0 Ez Jp;go_loopw [11] (fun i wr=>∃j:Nat,j<=nk/\i=.int .i64 j/\Hid (w2.grownBy wr (some g))/\Hid (Lft wr g (m-(aD (ks.take j):Int)))/\Hid ((aD (ks.take j):Int)<=m)/\Hid (∀i x,i<j->ks[i]?=some x->cY x (d+1) false (m-(aD (ks.take i):Int))=true)) (fun i _=>nk-(intOf i).toNat)
  case atStart=>exact⟨0,zD1 _,rfl,aQ _ _,Eb,by show(_:Int)<=_;simp[aD];omega,by show ∀_ _,_;omega⟩
  case round=>
   obtain⟨j,hj,rfl,Am,Cw,Ei,Aq⟩:=hrel;clear Eb;refine M932 ?_;intro x0 q3 hb;by_cases Ad:j<nk
   .
    obtain⟨b3,o3,rfl⟩:=aX.addr Ep.out A48;refine M915 ?_;intro x hx Bc us Al Ab;obtain⟨u0,u1,u2,u3,u4,rfl⟩:=dV (Al.len.trans (eQ x));refine M967 ?_;clear Ab;intro Ab t0 t1 t2 t3 t4 Ch HC;simp only[agg]at HC;have HJ:=hid hx;have Dq:=hid (bU hx);clear Ab hx Bc Ch Al;generalize hsp:cY x (d+1) false (m-(aD (ks.take j):Int))=rr at *;have Co:=hid hsp;clear hsp;go_wp2_with fail;refine M924 ?_;intro w4 Ah Bd;refine M949 ?_;intro Di Dv;clear HC t0 t1 t2 t3 t4 q3 x0 hb Ah Bd;cases rr
    .
     have he:Hid (aZ (.mk 3 n name ks bs es) d left=false):=by show _=_;rw[HE.out];unfold kQ;rw[eE HJ.out Co.out];rfl
     have Bm:=aC HY.out Di.out;exact QA12
    .
     exact QA3
   .
    have:j=nk:=A0;subst this;refine M97 ?_;intro Ht Nh Dd Bm q4 q5 HC;rw[As.out]at HC;generalize hsp:cJ bs (d+1) (m-(aD ks:Int))=r4 at *;have Cq:=hid hsp;clear hsp Am Cw Ei Aq;go_wp2_with fail;refine M923 ?_;clear x0 hb Bm;intro w4 Ah Bd x0 hb Bm;clear HC q3 q4 q5 Dd Ah;cases r4
    .
     have he:Hid (aZ (.mk 3 n name ks bs es) d left=false):=by show _=_;rw[HE.out];unfold kQ;rw[Cq.out];simp
     clear Bd;exact QA12
    .
     refine M916 ?_;intro Ng Nr q5 HC;generalize hsp:cJ es (d+1) (m-(aD ks:Int)-(aK bs:Int))=r5 at *;have Fb:=hid hsp;clear hsp Bd;go_wp2_with fail;refine HC.mono ?_;rintro e w5 ⟨rfl,Az,Nq⟩;have he:Hid (aZ (.mk 3 n name ks bs es) d left=r5):=by show _=_;rw[HE.out];unfold kQ;rw[Ht.out,Cq.out,Fb.out];rfl
     exact QA8
 .
  by_cases c1:(nk:Int)=1;rotate_left
  .
   have Mb:((1:Int) != (nk:Int))=true:=by simp;omega
   have he:Hid (aZ (.mk 4 n name ks bs es) d left=false):=aW Ap.out As.out Ar.out (bK (.inr (.inl c1)));exact QA4
  refine M942 ?_;intro Mb Fq Bz;clear c1;by_cases b1:nb=0;rotate_left
  .
   have Jq:(0:Int)<(nb:Int):=A0;clear Bz;have he:Hid (aZ (.mk 4 n name ks bs es) d left=false):=aW Ap.out As.out Ar.out (bK (.inr (.inr (.inr (.inr (.inr (.inl ⟨b1,by decide⟩)))))));exact QA4
  have Jq:¬(0:Int)<(nb:Int):=A0;have Gf:Hid ((decide (nb=0) || iH 4)=true):=by show _=_;rw[zB3 b1];rfl
  clear b1;by_cases b2:ne=0;rotate_left
  .
   have Jp:(0:Int)<(ne:Int):=A0;clear Bz;have he:Hid (aZ (.mk 4 n name ks bs es) d left=false):=aW Ap.out As.out Ar.out (bK (.inr (.inr (.inr (.inr (.inr (.inr ⟨b2,by decide⟩)))))));exact QA4
  have Jp:¬(0:Int)<(ne:Int):=A0;have Gc:Hid ((decide (ne=0) || decide ((4:Int)=2))=true):=by show _=_;rw[zB3 b2];rfl
  clear b2;have Dk:=aR a2 nn c2 name false w2 (h2.below hb) A0;by_cases e0:nn=0;rotate_left
  .
   have Ez:(0:Int)<(nn:Int):=A0;clear Bz;have he:Hid (aZ (.mk 4 n name ks bs es) d left=false):=aW Ap.out As.out Ar.out (bK (.inr (.inr (.inr (.inr (.inl ⟨by decide,by rw[Ha.out];exact e0⟩))))));exact QA4
  refine M940 ?_;clear e0;intro Ez Mi Jr;clear Bz;by_cases n0:n=0;rotate_left
  .
   have n0':(n != 0)=true:=by simpa using n0
   have he:Hid (aZ (.mk 4 n name ks bs es) d left=false):=aW Ap.out As.out Ar.out (bK (.inr (.inr (.inl A40))));exact QA4
  have n0':(n != 0)=false:=by simpa using n0
  have Du:Hid (inB n 0 (cX 4)=true):=by show _=_;rw[n0];decide
  clear n0;have Ok:Hid (gE 4 n name ks.length bs.length es.length=true):=by show _=_;rw[Ap.out,As.out,Ar.out];exact iN HI1.out Fq.out Du.out (by rw[show eK 4=false from by decide];exact zB3 Mi.out) Gf.out Gc.out
  have Oq:Hid ((!decide ((4:Int)=7) || ks.any jE)=true):=by show _=_;simp
  have HE:Hid (aZ (.mk 4 n name ks bs es) d left=kQ ks bs es (d+1) m):=by
   exact QA38
  have HD:Hid (gG (.mk 4 n name ks bs es)=1+(aD ks+aK bs+aK es)):=by show _=_;simp[gG]
  refine M94 ?_;intro Ga HY Bv Eb Ep Oh Og Cu Ew Cn Cv;go_wp2_with fail;clear q0 q1 q2 q3 q4 q5 x0 yy hb Av h3 h4 h5 z0 Ez Jq Jp;go_loopw [11] (fun i wr=>∃j:Nat,j<=nk/\i=.int .i64 j/\Hid (w2.grownBy wr (some g))/\Hid (Lft wr g (m-(aD (ks.take j):Int)))/\Hid ((aD (ks.take j):Int)<=m)/\Hid (∀i x,i<j->ks[i]?=some x->cY x (d+1) false (m-(aD (ks.take i):Int))=true)) (fun i _=>nk-(intOf i).toNat)
  case atStart=>exact⟨0,zD1 _,rfl,aQ _ _,Eb,by show(_:Int)<=_;simp[aD];omega,by show ∀_ _,_;omega⟩
  case round=>
   obtain⟨j,hj,rfl,Am,Cw,Ei,Aq⟩:=hrel;clear Eb;refine M932 ?_;intro x0 q3 hb;by_cases Ad:j<nk
   .
    obtain⟨b3,o3,rfl⟩:=aX.addr Ep.out A48;refine M915 ?_;intro x hx Bc us Al Ab;obtain⟨u0,u1,u2,u3,u4,rfl⟩:=dV (Al.len.trans (eQ x));refine M967 ?_;clear Ab;intro Ab t0 t1 t2 t3 t4 Ch HC;simp only[agg]at HC;have HJ:=hid hx;have Dq:=hid (bU hx);clear Ab hx Bc Ch Al;generalize hsp:cY x (d+1) false (m-(aD (ks.take j):Int))=rr at *;have Co:=hid hsp;clear hsp;go_wp2_with fail;refine M924 ?_;intro w4 Ah Bd;refine M949 ?_;intro Di Dv;clear HC t0 t1 t2 t3 t4 q3 x0 hb Ah Bd;cases rr
    .
     have he:Hid (aZ (.mk 4 n name ks bs es) d left=false):=by show _=_;rw[HE.out];unfold kQ;rw[eE HJ.out Co.out];rfl
     have Bm:=aC HY.out Di.out;exact QA12
    .
     exact QA3
   .
    have:j=nk:=A0;subst this;refine M97 ?_;intro Ht Nh Dd Bm q4 q5 HC;rw[As.out,show nb=0 by omega]at HC;generalize hsp:cJ bs (d+1) (m-(aD ks:Int))=r4 at *;have Cq:=hid hsp;clear hsp Am Cw Ei Aq;go_wp2_with fail;refine M923 ?_;clear x0 hb Bm;intro w4 Ah Bd x0 hb Bm;clear HC q3 q4 q5 Dd Ah;cases r4
    .
     have he:Hid (aZ (.mk 4 n name ks bs es) d left=false):=by show _=_;rw[HE.out];unfold kQ;rw[Cq.out];simp
     clear Bd;exact QA12
    .
     refine M916 ?_;intro Ng Nr q5 HC;generalize hsp:cJ es (d+1) (m-(aD ks:Int)-(aK bs:Int))=r5 at *;have Fb:=hid hsp;clear hsp Bd;go_wp2_with fail;refine HC.mono ?_;rintro e w5 ⟨rfl,Az,Nq⟩;have he:Hid (aZ (.mk 4 n name ks bs es) d left=r5):=by show _=_;rw[HE.out];unfold kQ;rw[Ht.out,Cq.out,Fb.out];rfl
     exact QA8
 .
  by_cases c1:(nk:Int)=1;rotate_left
  .
   have Mb:((1:Int) != (nk:Int))=true:=by simp;omega
   have he:Hid (aZ (.mk 5 n name ks bs es) d left=false):=aW Ap.out As.out Ar.out (bK (.inr (.inl c1)));exact QA4
  refine M942 ?_;intro Mb Fq Bz;clear c1;by_cases b1:nb=0;rotate_left
  .
   have Jq:(0:Int)<(nb:Int):=A0;clear Bz;have he:Hid (aZ (.mk 5 n name ks bs es) d left=false):=aW Ap.out As.out Ar.out (bK (.inr (.inr (.inr (.inr (.inr (.inl ⟨b1,by decide⟩)))))));exact QA4
  have Jq:¬(0:Int)<(nb:Int):=A0;have Gf:Hid ((decide (nb=0) || iH 5)=true):=by show _=_;rw[zB3 b1];rfl
  clear b1;by_cases b2:ne=0;rotate_left
  .
   have Jp:(0:Int)<(ne:Int):=A0;clear Bz;have he:Hid (aZ (.mk 5 n name ks bs es) d left=false):=aW Ap.out As.out Ar.out (bK (.inr (.inr (.inr (.inr (.inr (.inr ⟨b2,by decide⟩)))))));exact QA4
  have Jp:¬(0:Int)<(ne:Int):=A0;have Gc:Hid ((decide (ne=0) || decide ((5:Int)=2))=true):=by show _=_;rw[zB3 b2];rfl
  clear b2;have Dk:=aR a2 nn c2 name false w2 (h2.below hb) A0;by_cases e0:nn=0;rotate_left
  .
   have Ez:(0:Int)<(nn:Int):=A0;clear Bz;have he:Hid (aZ (.mk 5 n name ks bs es) d left=false):=aW Ap.out As.out Ar.out (bK (.inr (.inr (.inr (.inr (.inl ⟨by decide,by rw[Ha.out];exact e0⟩))))));exact QA4
  refine M940 ?_;clear e0;intro Ez Mi Jr;clear Bz;by_cases n0:n=0;rotate_left
  .
   have n0':(n != 0)=true:=by simpa using n0
   have he:Hid (aZ (.mk 5 n name ks bs es) d left=false):=aW Ap.out As.out Ar.out (bK (.inr (.inr (.inl A40))));exact QA4
  have n0':(n != 0)=false:=by simpa using n0
  have Du:Hid (inB n 0 (cX 5)=true):=by show _=_;rw[n0];decide
  clear n0;have Ok:Hid (gE 5 n name ks.length bs.length es.length=true):=by show _=_;rw[Ap.out,As.out,Ar.out];exact iN HI1.out Fq.out Du.out (by rw[show eK 5=false from by decide];exact zB3 Mi.out) Gf.out Gc.out
  have Oq:Hid ((!decide ((5:Int)=7) || ks.any jE)=true):=by show _=_;simp
  have HE:Hid (aZ (.mk 5 n name ks bs es) d left=kQ ks bs es (d+1) m):=by
   exact QA38
  have HD:Hid (gG (.mk 5 n name ks bs es)=1+(aD ks+aK bs+aK es)):=by show _=_;simp[gG]
  refine M94 ?_;intro Ga HY Bv Eb Ep Oh Og Cu Ew Cn Cv;go_wp2_with fail;clear q0 q1 q2 q3 q4 q5 x0 yy hb Av h3 h4 h5 z0 Ez Jq Jp;go_loopw [11] (fun i wr=>∃j:Nat,j<=nk/\i=.int .i64 j/\Hid (w2.grownBy wr (some g))/\Hid (Lft wr g (m-(aD (ks.take j):Int)))/\Hid ((aD (ks.take j):Int)<=m)/\Hid (∀i x,i<j->ks[i]?=some x->cY x (d+1) false (m-(aD (ks.take i):Int))=true)) (fun i _=>nk-(intOf i).toNat)
  case atStart=>exact⟨0,zD1 _,rfl,aQ _ _,Eb,by show(_:Int)<=_;simp[aD];omega,by show ∀_ _,_;omega⟩
  case round=>
   obtain⟨j,hj,rfl,Am,Cw,Ei,Aq⟩:=hrel;clear Eb;refine M932 ?_;intro x0 q3 hb;by_cases Ad:j<nk
   .
    obtain⟨b3,o3,rfl⟩:=aX.addr Ep.out A48;refine M915 ?_;intro x hx Bc us Al Ab;obtain⟨u0,u1,u2,u3,u4,rfl⟩:=dV (Al.len.trans (eQ x));refine M967 ?_;clear Ab;intro Ab t0 t1 t2 t3 t4 Ch HC;simp only[agg]at HC;have HJ:=hid hx;have Dq:=hid (bU hx);clear Ab hx Bc Ch Al;generalize hsp:cY x (d+1) false (m-(aD (ks.take j):Int))=rr at *;have Co:=hid hsp;clear hsp;go_wp2_with fail;refine M924 ?_;intro w4 Ah Bd;refine M949 ?_;intro Di Dv;clear HC t0 t1 t2 t3 t4 q3 x0 hb Ah Bd;cases rr
    .
     have he:Hid (aZ (.mk 5 n name ks bs es) d left=false):=by show _=_;rw[HE.out];unfold kQ;rw[eE HJ.out Co.out];rfl
     have Bm:=aC HY.out Di.out;exact QA12
    .
     exact QA3
   .
    have:j=nk:=A0;subst this;refine M97 ?_;intro Ht Nh Dd Bm q4 q5 HC;rw[As.out,show nb=0 by omega]at HC;generalize hsp:cJ bs (d+1) (m-(aD ks:Int))=r4 at *;have Cq:=hid hsp;clear hsp Am Cw Ei Aq;go_wp2_with fail;refine M923 ?_;clear x0 hb Bm;intro w4 Ah Bd x0 hb Bm;clear HC q3 q4 q5 Dd Ah;cases r4
    .
     have he:Hid (aZ (.mk 5 n name ks bs es) d left=false):=by show _=_;rw[HE.out];unfold kQ;rw[Cq.out];simp
     clear Bd;exact QA12
    .
     refine M916 ?_;intro Ng Nr q5 HC;generalize hsp:cJ es (d+1) (m-(aD ks:Int)-(aK bs:Int))=r5 at *;have Fb:=hid hsp;clear hsp Bd;go_wp2_with fail;refine HC.mono ?_;rintro e w5 ⟨rfl,Az,Nq⟩;have he:Hid (aZ (.mk 5 n name ks bs es) d left=r5):=by show _=_;rw[HE.out];unfold kQ;rw[Ht.out,Cq.out,Fb.out];rfl
     exact QA8
 .
  by_cases c1:(nk:Int)=0;rotate_left
  .
   have Mb:((0:Int) != (nk:Int))=true:=by simp;omega
   have he:Hid (aZ (.mk 6 n name ks bs es) d left=false):=aW Ap.out As.out Ar.out (bK (.inr (.inl c1)));exact QA4
  have Mb:((0:Int) != (nk:Int))=false:=by simp;omega
  have Fq:=hid c1;have Bz:nk=0:=A0;clear c1;by_cases b1:nb=0;rotate_left
  .
   have Jq:(0:Int)<(nb:Int):=A0;clear Bz;have he:Hid (aZ (.mk 6 n name ks bs es) d left=false):=aW Ap.out As.out Ar.out (bK (.inr (.inr (.inr (.inr (.inr (.inl ⟨b1,by decide⟩)))))));exact QA4
  have Jq:¬(0:Int)<(nb:Int):=A0;have Gf:Hid ((decide (nb=0) || iH 6)=true):=by show _=_;rw[zB3 b1];rfl
  clear b1;by_cases b2:ne=0;rotate_left
  .
   have Jp:(0:Int)<(ne:Int):=A0;clear Bz;have he:Hid (aZ (.mk 6 n name ks bs es) d left=false):=aW Ap.out As.out Ar.out (bK (.inr (.inr (.inr (.inr (.inr (.inr ⟨b2,by decide⟩)))))));exact QA4
  have Jp:¬(0:Int)<(ne:Int):=A0;have Gc:Hid ((decide (ne=0) || decide ((6:Int)=2))=true):=by show _=_;rw[zB3 b2];rfl
  clear b2;have Dk:=aR a2 nn c2 name false w2 (h2.below hb) A0;by_cases e0:nn=0;rotate_left
  .
   have Ez:(0:Int)<(nn:Int):=A0;clear Bz;have he:Hid (aZ (.mk 6 n name ks bs es) d left=false):=aW Ap.out As.out Ar.out (bK (.inr (.inr (.inr (.inr (.inl ⟨by decide,by rw[Ha.out];exact e0⟩))))));exact QA4
  refine M940 ?_;clear e0;intro Ez Mi Jr;clear Bz;by_cases n0:n<0
  .
   have he:Hid (aZ (.mk 6 n name ks bs es) d left=false):=aW Ap.out As.out Ar.out (bK (.inr (.inr (.inl A40))));exact QA4
  by_cases n5:99<n
  .
   have he:Hid (aZ (.mk 6 n name ks bs es) d left=false):=aW Ap.out As.out Ar.out (bK (.inr (.inr (.inl A40))));exact QA4
  have Du:Hid (inB n 0 (cX 6)=true):=by show _=_;simp[inB,cX];omega
  have Ok:Hid (gE 6 n name ks.length bs.length es.length=true):=by show _=_;rw[Ap.out,As.out,Ar.out];exact iN HI1.out Fq.out Du.out (by rw[show eK 6=false from by decide];exact zB3 Mi.out) Gf.out Gc.out
  have Oq:Hid ((!decide ((6:Int)=7) || ks.any jE)=true):=by show _=_;simp
  have HE:Hid (aZ (.mk 6 n name ks bs es) d left=kQ ks bs es (d+1) m):=by
   exact QA38
  have HD:Hid (gG (.mk 6 n name ks bs es)=1+(aD ks+aK bs+aK es)):=by show _=_;simp[gG]
  refine M94 ?_;intro Ga HY Bv Eb Ep Oh Og Cu Ew Cn Cv;go_wp2_with fail;clear q0 q1 q2 q3 q4 q5 x0 yy hb Av h3 h4 h5 z0 Ez Jq Jp;go_loopw [11] (fun i wr=>∃j:Nat,j<=nk/\i=.int .i64 j/\Hid (w2.grownBy wr (some g))/\Hid (Lft wr g (m-(aD (ks.take j):Int)))/\Hid ((aD (ks.take j):Int)<=m)/\Hid (∀i x,i<j->ks[i]?=some x->cY x (d+1) false (m-(aD (ks.take i):Int))=true)) (fun i _=>nk-(intOf i).toNat)
  case atStart=>exact⟨0,zD1 _,rfl,aQ _ _,Eb,by show(_:Int)<=_;simp[aD];omega,by show ∀_ _,_;omega⟩
  case round=>
   obtain⟨j,hj,rfl,Am,Cw,Ei,Aq⟩:=hrel;clear Eb;refine M932 ?_;intro x0 q3 hb;by_cases Ad:j<nk
   .
    obtain⟨b3,o3,rfl⟩:=aX.addr Ep.out A48;refine M915 ?_;intro x hx Bc us Al Ab;obtain⟨u0,u1,u2,u3,u4,rfl⟩:=dV (Al.len.trans (eQ x));refine M967 ?_;clear Ab;intro Ab t0 t1 t2 t3 t4 Ch HC;simp only[agg]at HC;have HJ:=hid hx;have Dq:=hid (bU hx);clear Ab hx Bc Ch Al;generalize hsp:cY x (d+1) false (m-(aD (ks.take j):Int))=rr at *;have Co:=hid hsp;clear hsp;go_wp2_with fail;refine M924 ?_;intro w4 Ah Bd;refine M949 ?_;intro Di Dv;clear HC t0 t1 t2 t3 t4 q3 x0 hb Ah Bd;cases rr
    .
     have he:Hid (aZ (.mk 6 n name ks bs es) d left=false):=by show _=_;rw[HE.out];unfold kQ;rw[eE HJ.out Co.out];rfl
     have Bm:=aC HY.out Di.out;exact QA12
    .
     exact QA3
   .
    have:j=nk:=A0;subst this;refine M97 ?_;intro Ht Nh Dd Bm q4 q5 HC;rw[As.out,show nb=0 by omega]at HC;generalize hsp:cJ bs (d+1) (m-(aD ks:Int))=r4 at *;have Cq:=hid hsp;clear hsp Am Cw Ei Aq;go_wp2_with fail;refine M923 ?_;clear x0 hb Bm;intro w4 Ah Bd x0 hb Bm;clear HC q3 q4 q5 Dd Ah;cases r4
    .
     have he:Hid (aZ (.mk 6 n name ks bs es) d left=false):=by show _=_;rw[HE.out];unfold kQ;rw[Cq.out];simp
     clear Bd;exact QA12
    .
     refine M916 ?_;intro Ng Nr q5 HC;generalize hsp:cJ es (d+1) (m-(aD ks:Int)-(aK bs:Int))=r5 at *;have Fb:=hid hsp;clear hsp Bd;go_wp2_with fail;refine HC.mono ?_;rintro e w5 ⟨rfl,Az,Nq⟩;have he:Hid (aZ (.mk 6 n name ks bs es) d left=r5):=by show _=_;rw[HE.out];unfold kQ;rw[Ht.out,Cq.out,Fb.out];rfl
     exact QA8
 .
  by_cases c1:(nk:Int)=1;rotate_left
  .
   have Mb:((1:Int) != (nk:Int))=true:=by simp;omega
   have he:Hid (aZ (.mk 7 n name ks bs es) d left=false):=aW Ap.out As.out Ar.out (bK (.inr (.inl c1)));exact QA4
  refine M942 ?_;intro Mb Fq Bz;clear c1;by_cases b1:nb=0;rotate_left
  .
   have Jq:(0:Int)<(nb:Int):=A0;clear Bz;have he:Hid (aZ (.mk 7 n name ks bs es) d left=false):=aW Ap.out As.out Ar.out (bK (.inr (.inr (.inr (.inr (.inr (.inl ⟨b1,by decide⟩)))))));exact QA4
  have Jq:¬(0:Int)<(nb:Int):=A0;have Gf:Hid ((decide (nb=0) || iH 7)=true):=by show _=_;rw[zB3 b1];rfl
  clear b1;by_cases b2:ne=0;rotate_left
  .
   have Jp:(0:Int)<(ne:Int):=A0;clear Bz;have he:Hid (aZ (.mk 7 n name ks bs es) d left=false):=aW Ap.out As.out Ar.out (bK (.inr (.inr (.inr (.inr (.inr (.inr ⟨b2,by decide⟩)))))));exact QA4
  have Jp:¬(0:Int)<(ne:Int):=A0;have Gc:Hid ((decide (ne=0) || decide ((7:Int)=2))=true):=by show _=_;rw[zB3 b2];rfl
  clear b2;have Dk:=aR a2 nn c2 name false w2 (h2.below hb) A0;by_cases e0:nn=0;rotate_left
  .
   have Ez:(0:Int)<(nn:Int):=A0;clear Bz;have he:Hid (aZ (.mk 7 n name ks bs es) d left=false):=aW Ap.out As.out Ar.out (bK (.inr (.inr (.inr (.inr (.inl ⟨by decide,by rw[Ha.out];exact e0⟩))))));exact QA4
  refine M940 ?_;clear e0;intro Ez Mi Jr;clear Bz;by_cases n0:n=0;rotate_left
  .
   have n0':(n != 0)=true:=by simpa using n0
   have he:Hid (aZ (.mk 7 n name ks bs es) d left=false):=aW Ap.out As.out Ar.out (bK (.inr (.inr (.inl A40))));exact QA4
  have n0':(n != 0)=false:=by simpa using n0
  have Du:Hid (inB n 0 (cX 7)=true):=by show _=_;rw[n0];decide
  clear n0;have Ok:Hid (gE 7 n name ks.length bs.length es.length=true):=by show _=_;rw[Ap.out,As.out,Ar.out];exact iN HI1.out Fq.out Du.out (by rw[show eK 7=false from by decide];exact zB3 Mi.out) Gf.out Gc.out
  obtain⟨b3,o3,rfl⟩:=h3.addr (by rw[Ds,Jr.out];omega);obtain⟨xk,hxk⟩:∃x,ks=[x]:=aO6 (Ap.out.trans Jr.out);have Gg:(exs ks)[0]?=some xk.fl:=by rw[hxk];simp[exs]
  obtain⟨uk,hvk,hck⟩:=(h3.el Gg).vals;obtain⟨v0,v1,v2,v3,v4,rfl⟩:=dV (hvk.len.trans (eQ xk));have hv0:v0=.int .i64 xk.kind:=by
   obtain⟨e0,e1,e2,e3,e4⟩:=xk;unfold Ex.fl at hvk;obtain⟨y0,_,ey,ry,_⟩:=hvk;simp only[zJ3]at ey;rw[ey.1];exact ry
  have tk:w2.cell? ⟨b3,o3,none⟩=some (.int .i64 xk.kind):=by
   have:=aB (hck 0 _ rfl) hb;rw[hv0]at this;simpa using this
  have hkp:(0:Int)<(nk:Int):=by rw[Jr.out];omega
  have HXK:Hid (ks=[xk]):=hxk;clear hck hvk Gg hv0 hxk;by_cases k6:xk.kind=6;rotate_left
  .
   have k6':(xk.kind != 6)=true:=by simpa using k6
   have he:Hid (aZ (.mk 7 n name ks bs es) d left=false):=by show _=_;rw[HXK.out];exact aCg k6
   clear k6;generalize xk.kind=kk at *;exact QA4
  have k6':(xk.kind != 6)=false:=by simpa using k6
  have Oq:Hid ((!decide ((7:Int)=7) || ks.any jE)=true):=by show _=_;rw[HXK.out];simp[jE,k6]
  clear k6;generalize xk.kind=kk at *;have HE:Hid (aZ (.mk 7 n name ks bs es) d left=kQ ks bs es (d+1) m):=by
   exact QA38
  have HD:Hid (gG (.mk 7 n name ks bs es)=1+(aD ks+aK bs+aK es)):=by show _=_;simp[gG]
  refine M94 ?_;intro Ga HY Bv Eb Ep Oh Og Cu Ew Cn Cv;go_wp2_with fail;clear q0 q1 q2 q3 q4 q5 x0 yy hb Av h3 h4 h5 z0 Ez tk Jq Jp;go_loopw [11] (fun i wr=>∃j:Nat,j<=nk/\i=.int .i64 j/\Hid (w2.grownBy wr (some g))/\Hid (Lft wr g (m-(aD (ks.take j):Int)))/\Hid ((aD (ks.take j):Int)<=m)/\Hid (∀i x,i<j->ks[i]?=some x->cY x (d+1) false (m-(aD (ks.take i):Int))=true)) (fun i _=>nk-(intOf i).toNat)
  case atStart=>exact⟨0,zD1 _,rfl,aQ _ _,Eb,by show(_:Int)<=_;simp[aD];omega,by show ∀_ _,_;omega⟩
  case round=>
   obtain⟨j,hj,rfl,Am,Cw,Ei,Aq⟩:=hrel;clear Eb;refine M932 ?_;intro x0 q3 hb;by_cases Ad:j<nk
   .
    have HRX:=Ep;refine M915 ?_;intro x hx Bc us Al Ab;obtain⟨u0,u1,u2,u3,u4,rfl⟩:=dV (Al.len.trans (eQ x));refine M967 ?_;clear Ab;intro Ab t0 t1 t2 t3 t4 Ch HC;simp only[agg]at HC;have HJ:=hid hx;have Dq:=hid (bU hx);clear Ab hx Bc Ch Al;generalize hsp:cY x (d+1) false (m-(aD (ks.take j):Int))=rr at *;have Co:=hid hsp;clear hsp;go_wp2_with fail;refine M924 ?_;intro w4 Ah Bd;refine M949 ?_;intro Di Dv;clear HC t0 t1 t2 t3 t4 q3 x0 hb Ah Bd;cases rr
    .
     have he:Hid (aZ (.mk 7 n name ks bs es) d left=false):=by show _=_;rw[HE.out];unfold kQ;rw[eE HJ.out Co.out];rfl
     have Bm:=aC HY.out Di.out;exact QA12
    .
     exact QA3
   .
    have:j=nk:=A0;subst this;refine M97 ?_;intro Ht Nh Dd Bm q4 q5 HC;rw[As.out,show nb=0 by omega]at HC;generalize hsp:cJ bs (d+1) (m-(aD ks:Int))=r4 at *;have Cq:=hid hsp;clear hsp Am Cw Ei Aq;go_wp2_with fail;refine M923 ?_;clear x0 hb Bm;intro w4 Ah Bd x0 hb Bm;clear HC q3 q4 q5 Dd Ah;cases r4
    .
     have he:Hid (aZ (.mk 7 n name ks bs es) d left=false):=by show _=_;rw[HE.out];unfold kQ;rw[Cq.out];simp
     clear Bd;exact QA12
    .
     refine M916 ?_;intro Ng Nr q5 HC;generalize hsp:cJ es (d+1) (m-(aD ks:Int)-(aK bs:Int))=r5 at *;have Fb:=hid hsp;clear hsp Bd;go_wp2_with fail;refine HC.mono ?_;rintro e w5 ⟨rfl,Az,Nq⟩;have he:Hid (aZ (.mk 7 n name ks bs es) d left=r5):=by show _=_;rw[HE.out];unfold kQ;rw[Ht.out,Cq.out,Fb.out];rfl
     exact QA8
end Go.Proofs.YtcbhdhmhidpdgaaGreat

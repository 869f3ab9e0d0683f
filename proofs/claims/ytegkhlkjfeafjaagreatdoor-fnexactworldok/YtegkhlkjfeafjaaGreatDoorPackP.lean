import Derived.Test.YtegkhlkjfeafjaaGreatDoorPrEx
namespace Go.Proofs.YtegkhlkjfeafjaaGreatDoor
open Go.RowKit
set_option maxHeartbeats 8000000
set_option linter.unusedVariables false
set_option linter.unusedSimpArgs false
set_option maxRecDepth 100000
theorem V110{p:Prop}(h:p:=by have:=hpj.out;rwa [zD3 (by rw[zB2,Hn.out];exact zB0 _)]at this):p:=h
theorem V112{p:Prop}(h:p:=by simp only[zA1,zB1,zC3];rw[if_pos rfl]at hs2;omega):p:=h
theorem U296{p:Prop}(h:p:=by
 rintro wr ⟨v2,hp⟩ hw
 refine(eW [⟨#[41]⟩] wr.heap.size 1 1 (wr.alloc (.cells #[.string ⟨#[41]⟩] 9)) base g _ _ (hp.grown (aC wr _ none)) rfl (Blk.new wr 9 [.string ⟨#[41]⟩]) (by have:=hp.blk.lt;omega) (by rw[pP];simp only[zA1,zB1,zC3];omega) hg).mono ?_
 rintro e w' ⟨rfl,⟨v3,hp3⟩,hq⟩
 rw[pP]at hp3
 exact⟨rfl,⟨v3,by simpa [brI,zD0] using hp3⟩,hw.trans ((aL.of (aC wr (.cells #[.string ⟨#[41]⟩] 9) none)).trans hq)⟩):p:=h
theorem U52{p:Prop}(h:p:=by
 go_wp2_with fail
 refine HF.mono ?_
 rintro e w2 ⟨rfl,h1,h2⟩
 go_wp2_with fail
 exact bodyPost_end (results_none rfl _ _ _) rfl ⟨rfl,h1,h2⟩):p:=h
theorem U298{p:Prop}(h:p:=by
 rw[HJ.out]at hlen
 split at hlen
 .
  rename_i h9;subst h9;simp[aV];omega
 .
  rename_i h9;rw[if_neg h9];simp only[zA1,zB1,zC3]at hlen;omega):p:=h
theorem U310{p:Prop}(h:p:=by
 have HP4:Hid (∃v',Pg w4 base g (L++[40,32]++aV [44,32] ((l.map tx).take (j+1))) v'):=⟨v4,by rw[HJ.out,if_neg hj0];simpa [zD0] using hp4⟩
 have HW4:=hid (hw3.trans hq)
 clear hp4 hq hw3 hp3 xb
 go_wp2
 go_roundw
 case rel=>exact⟨j+1,by omega,by go_num,HP4,HW4⟩
 case measure=>simp[intOf];omega):p:=h
theorem U316{p:Prop}(h:p:=by
 have HP3:Hid (∃v',Pg w3 base g (L++[40,32]++aV [44,32] ((l.map tx).take (0+1))) v'):=⟨v3,by rw[HJ.out];simpa [aV] using hp3⟩
 have HW3:=hid (hwa.trans hq)
 clear hp3 hq hwa hpa xb
 go_wp2
 go_roundw
 case rel=>exact⟨1,by omega,rfl,HP3,HW3⟩
 case measure=>simp[intOf];omega):p:=h
theorem M9197{p q:Prop}(k:q)(h:Kx q->p:=by
 intro kQ
 obtain⟨vs,Ad,Ab⟩:=(aS.el HR.out Ak).vals
 have HX:=HH.out x (zA3 hx)
 have hbr:=hw.below HB.out h0 Bd
 have htx:((l.map tx)[j]?)=some (tx x):=by rw[zA2,hx];rfl
 have HJ:Hid (aV [44,32] ((l.map tx).take (j+1))=if j=0 then tx x else aV [44,32] ((l.map tx).take j)++[44,32]++tx x):=fU htx
 have hlen:(aV [44,32] ((l.map tx).take (j+1))).length<=(aV [44,32] (l.map tx)).length:=gO _ _ _ (by rw[zB2,Hn.out];omega)
 have HC:∀wz Lz vz,Below w0.heap.size w0 wz->Pg wz base g Lz vz->Lz.length+(tx x).length<=1000000000->Calls Tryz.prog F #[.pointer (some ⟨g,0,none⟩),agg vs] wz fun e w'=>e=.returned (.tuple #[])/\(∃v',Pg w' base g (Lz++tx x) v')/\aL base (some g) wz w':=fun wz Lz vz h1 h2 h3=>HX w0 wz vs base g Lz vz HTt.out Ad h1 h0 hg h2 h3
 revert HC;revert hlen;revert HJ;revert htx;revert hbr;revert HX;revert Ab;revert Ad;revert vs
 exact kQ.o):p:=h ⟨k⟩
theorem M9229{p q:Prop}(k:q)(h:Kx q->p:=by
 intro kQ
 simp only[brI,zA1,zB1,zC3]at Bb
 have HQ:=eW [⟨#[40]⟩] w.heap.size 1 1 (w.alloc (.cells #[.string ⟨#[40]⟩] 9)) base g _ _ (hp.grown (aC w _ none)) rfl (Blk.new w 9 [.string ⟨#[40]⟩]) V6 (by rw[pQ];simp only[zB1,zC3];omega) hg
 rw[pQ]at HQ
 have HH:=hid H
 have HR:=hid hr
 have HTt:=hid hT
 have HB:=hid hb
 revert HB;revert HTt;revert HR;revert HH;revert HQ;revert Bb
 exact kQ.o):p:=h ⟨k⟩
theorem M9230{p q:Prop}(k:q)(h:Kx q->p:=by
 intro kQ
 refine HQ.mono ?_
 rintro e w3 ⟨rfl,⟨v3,hp3⟩,hq⟩
 have hq3:aL base (some g) w2 w3:=(aL.of (aC w2 (.cells #[.string ⟨#[44]⟩] 9) none)).trans hq
 replace xb:=hq3.blk xb V7 An
 have hw3:=hwa.trans hq3
 clear hq hq3
 have HQ:=HC w3 _ _ (hw3.below HB.out h0 Bd) hp3 (by simp only[zA1,zB1,zC3];omega)
 revert HQ;revert hw3;revert xb;revert hp3;revert v3;revert w3
 exact kQ.o):p:=h ⟨k⟩
theorem M9233{p q:Prop}(k:q)(h:Kx q->p:=by
 intro kQ
 have hpos':(0:Int)<(j:Int):=V6
 rw[if_neg hj0]at hs2
 have HQ:=eW [⟨#[44]⟩] w2.heap.size 1 1 (w2.alloc (.cells #[.string ⟨#[44]⟩] 9)) base g _ _ (hpa.grown (aC w2 _ none)) rfl (Blk.new w2 9 [.string ⟨#[44]⟩]) (by have:=hpa.blk.lt;omega) (by rw[vS];simp only[zA1,zB1,zC3];omega) hg
 rw[vS]at HQ
 revert HQ;revert hs2;revert hpos'
 exact kQ.o):p:=h ⟨k⟩
theorem M9242{p q:Prop}(k:q)(h:Kx q->p:=by
 intro kQ
 obtain⟨v1,hp⟩:=hpj.out
 have hw:=hwj.out
 obtain⟨x,hx⟩:∃x,l[j]?=some x:=⟨l[j]'(by rw[Hn.out];exact Ai),zA0 _⟩
 revert hx;revert x;revert hw;revert hp;revert v1
 exact kQ.o):p:=h ⟨k⟩
theorem M9168{p q:Prop}(k:q)(h:Kx q->p:=by
 intro kQ
 have hgl:=hp.blk.lt
 have Bd:∀k,some g=some k->w0.heap.size<=k:=by intro k e;cases e;omega
 have hn9:l.length<=9223372036854775807:=by have h1:=hr.cap;have h2:=hr.most;unfold maxLen at h2;simp[aJ]at h1;omega
 revert hn9;revert Bd;revert hgl
 exact kQ.o):p:=h ⟨k⟩
def aAk (F:Nat)(r:List Fl)(t:List Int):Prop:=∀(w0 w:World) (vs:List Value) (base g:Nat) (l:List Int) (v:Value),kQ w0->aO w0 r vs->Below w0.heap.size w0 w->w0.heap.size<=base->base<=g->Pg w base g l v->l.length+t.length<=1000000000 →
 Calls Tryz.prog F #[.pointer (some ⟨g,0,none⟩),agg vs] w fun e w'=>e=.returned (.tuple #[])/\(∃v',Pg w' base g (l++t) v')/\aL base (some g) w w'
theorem zI (s x:List Int):∀(l:List (List Int)),aV s (l++[x])=if l.length=0 then x else aV s l++s++x:=by
 intro l
 induction l with
 | nil=>rfl
 | cons a l ih=>
  cases l with
  | nil=>simp[aV]
  | cons b l=>
   rw[List.cons_append,List.cons_append,aV,<-List.cons_append,ih]
   simp[aV,zD0]
theorem fU {s:List Int}{l:List (List Int)}{j:Nat}{x:List Int}(h:l[j]?=some x):aV s (l.take (j+1))=if j=0 then x else aV s (l.take j)++s++x:=by
 obtain⟨hk,rfl⟩:=zC1.1 h;rw[zF1 hk,zI]
 have:(l.take j).length=j:=by simp;omega
 rw[this]
theorem zJ (s:List Int)(l:List (List Int)):∀(d j:Nat),j+d=l.length->(aV s (l.take j)).length<=(aV s l).length:=by
 intro d
 induction d with
 | zero=>intro j h;rw[zD3 V6];exact zB0 _
 | succ d ih=>
  intro j h;have h1:=ih (j+1) V6
  rw[fU (zA0 (by omega:j<l.length))]at h1
  split at h1
  .
   rename_i h0
   subst h0
   simp[aV]
  .
   simp only[zA1]at h1;omega
theorem gO (s:List Int)(l:List (List Int))(j:Nat)(h:j<=l.length):(aV s (l.take j)).length<=(aV s l).length:=zJ s l (l.length-j) j V6
def brI (ts:List (List Int)):List Int:=[40,32]++aV [44,32] ts++[41,32]
theorem vG (F:Nat)(hE:Ent F)(tx:Ex->List Int)(l:List Ex)(H:∀x ∈ l,aAk F x.fl (tx x))(w0 w:World)(a:Option Addr)(c base g:Nat)(L:List Int)(v:Value)(hT:kQ w0)(hr:aS w0 a c 5 (exs l))(hb:Below w0.heap.size w0 w)(h0:w0.heap.size<=base)(hg:base<=g)(hp:Pg w base g L v)(Bb:L.length+(brI (l.map tx)).length<=1000000000):
  Calls Tryz.prog 263 #[.pointer (some ⟨g,0,none⟩),.slice a l.length c,.func (.func F) #[.pointer (some ⟨g,0,none⟩)] #[]] w fun e w'=>e=.returned (.tuple #[])/\(∃v',Pg w' base g (L++brI (l.map tx)) v')/\aL base (some g) w w':=by
 refine M9168 ?_;intro hgl Bd hn9
 have hml:(exs l).length=l.length:=by simp[aJ]
 refine M9229 ?_;clear Bb;intro Bb HQ HH HR HTt HB;clear H hT hb;go_enter Tryz.func263,Tryz.ntmps263;go_wp2_with fail;refine HQ.mono ?_;rintro e w1 ⟨rfl,⟨v1,hp1⟩,hq⟩
 have hw1:aL base (some g) w w1:=(aL.of (aC w (.cells #[.string ⟨#[40]⟩] 9) none)).trans hq
 clear HQ hq hp;generalize hnn:l.length=n at *;have Hn:=hid hnn;clear hnn
 have HP1:Hid (∃v',Pg w1 base g (L++[40,32]++aV [44,32] ((l.map tx).take 0)) v'):=⟨v1,by simpa [aV] using hp1⟩
 have HW1:=hid hw1;clear hp1 hw1
 have FIN:∀wr,(∃v',Pg wr base g (L++[40,32]++aV [44,32] (l.map tx)) v')->aL base (some g) w wr->Calls Tryz.prog 199 #[.pointer (some ⟨g,0,none⟩),.slice (some ⟨wr.heap.size,0,none⟩) 1 1] (wr.alloc (.cells #[.string ⟨#[41]⟩] 9)) fun e w'=>e=.returned (.tuple #[])/\(∃v',Pg w' base g (L++brI (l.map tx)) v')/\aL base (some g) w w':=by
  exact U296
 rcases zG0 n with hz|Am
 .
  subst hz;have e0:=zE0 Hn.out;subst e0;clear hr hml;go_wp2_with fail;refine zH2 1 ?_;rw[zE2]
  have HF:=FIN w1 (by simpa [aV] using HP1.out) HW1.out
  clear FIN;exact U52
 .
  obtain⟨b,off,rfl⟩:=hr.addr (by rw[hml];exact Am)
  clear hr hml;have HFN:=hid FIN;clear FIN;go_wp2_with fail
  go_loopw [6,7,13] (fun _ _ i wr=>∃j:Nat,j<=n/\i=.int .i64 j/\Hid (∃v',Pg wr base g (L++[40,32]++aV [44,32] ((l.map tx).take j)) v')/\Hid (aL base (some g) w wr)) (fun _ _ i _=>n-(intOf i).toNat)
  case atStart=>exact⟨0,zD1 _,rfl,HP1,HW1⟩
  case round=>
   obtain⟨j,hj,rfl,hpj,hwj⟩:=hrel;clear HP1 HW1
   by_cases Ai:j<n
   .
    refine M9242 ?_;intro v1 hp hw x hx
    have Ak:(exs l)[j]?=some x.fl:=by rw[aJ,zA2,hx];rfl
    refine M9197 ?_;intro vs Ad Ab HX hbr htx HJ hlen HC;clear HX hx Ak htx;generalize tx x=txx at *;obtain⟨x0,x1,x2,x3,x4⟩:=x;unfold Ex.fl at Ad;obtain⟨y0,_,rfl,rfl,y1,_,rfl,rfl,y2,_,rfl,⟨b2,d2,rfl,_⟩,y3,_,rfl,⟨b3,d3,rfl,_⟩,y4,_,rfl,⟨b4,d4,rfl,_⟩,rfl⟩:=Ad;generalize (exs x4).length=m4 at *
    replace Ab:∀i v,_->_:=fun i v hv=>aB (Ab i v hv) hbr
    have q0:wr.cell? ⟨b,off+j*5,none⟩=some (.int .i64 x0):=Ab 0 _ rfl
    have q1:wr.cell? ⟨b,off+j*5+1,none⟩=some (.int .i64 x1):=Ab 1 _ rfl
    have q2:wr.cell? ⟨b,off+j*5+2,none⟩=some (.slice b2 x2.length d2):=Ab 2 _ rfl
    have q3:wr.cell? ⟨b,off+j*5+3,none⟩=some (.slice b3 x3.length d3):=Ab 3 _ rfl
    have q4:wr.cell? ⟨b,off+j*5+4,none⟩=some (.slice b4 m4 d4):=Ab 4 _ rfl
    clear Ab;have xb:=Blk.new wr 133 [.int .i64 x0,.int .i64 x1,.slice b2 x2.length d2,.slice b3 x3.length d3,.slice b4 m4 d4]
    have hwa:aL base (some g) w (wr.alloc (.cells #[.int .i64 x0,.int .i64 x1,.slice b2 x2.length d2,.slice b3 x3.length d3,.slice b4 m4 d4] 133 (0,0))):=hw.trans (aL.of (aC wr _ none))
    have hpa:=hp.grown (aC wr (.cells #[.int .i64 x0,.int .i64 x1,.slice b2 x2.length d2,.slice b3 x3.length d3,.slice b4 m4 d4] 133 (0,0)) none)
    have An:some wr.heap.size ≠ some g:=by have:=hp.blk.lt;simp;omega
    simp only[agg]at HC;go_upto_region 4 with fail;generalize wr.alloc (.cells #[.int .i64 x0,.int .i64 x1,.slice b2 x2.length d2,.slice b3 x3.length d3,.slice b4 m4 d4] 133 (0,0))=w2 at *;generalize wr.heap.size=gx at *;clear q0 q1 q2 q3 q4 hp hw hbr hpj hwj
    have hs2:(aV [44,32] ((l.map tx).take j)).length+(if j=0 then 0 else 2)+txx.length<=(aV [44,32] (l.map tx)).length:=by
     exact U298
    clear hlen
    by_cases hj0:j=0
    .
     subst hj0;have hq1:((0:Nat):Int)=0:=rfl;have HQ:=HC w2 _ _ (hwa.below HB.out h0 Bd) hpa V112;clear HC;obtain⟨r0,r1,r2,r3,r4⟩:=xb.c5;go_wp2_with fail;rw[hE,Oper.upon_enter];refine HQ.mono ?_;rintro e w3 ⟨rfl,⟨v3,hp3⟩,hq⟩;clear HQ r0 r1 r2 r3 r4;exact U316
    .
     refine M9233 ?_;clear hs2;intro hpos' hs2 HQ;go_wp2_with fail;refine M9230 ?_;clear xb HQ hwa hpa;intro w3 v3 hp3 xb hw3 HQ;clear HC;obtain⟨r0,r1,r2,r3,r4⟩:=xb.c5;go_wp2_with fail;rw[hE,Oper.upon_enter];refine HQ.mono ?_;rintro e w4 ⟨rfl,⟨v4,hp4⟩,hq⟩;clear HQ r0 r1 r2 r3 r4;exact U310
   .
    have:j=n:=V6
    subst this;have HF:=HFN.out wr V110 hwj.out;exact U52
theorem nB (F:Nat)(hE:Ent F)(tx:Pa->List Int)(l:List Pa)(H:∀x ∈ l,aAk F x.fl (tx x))(w0 w:World)(a:Option Addr)(c base g:Nat)(L:List Int)(v:Value)(hT:kQ w0)(hr:aS w0 a c 2 (l.map Pa.fl))(hb:Below w0.heap.size w0 w)(h0:w0.heap.size<=base)(hg:base<=g)(hp:Pg w base g L v)(Bb:L.length+(brI (l.map tx)).length<=1000000000):
  Calls Tryz.prog 221 #[.pointer (some ⟨g,0,none⟩),.slice a l.length c,.func (.func F) #[.pointer (some ⟨g,0,none⟩)] #[]] w fun e w'=>e=.returned (.tuple #[])/\(∃v',Pg w' base g (L++brI (l.map tx)) v')/\aL base (some g) w w':=by
 refine M9168 ?_;intro hgl Bd hn9
 have hml:(l.map Pa.fl).length=l.length:=by simp[aJ]
 refine M9229 ?_;clear Bb;intro Bb HQ HH HR HTt HB;clear H hT hb;go_enter Tryz.func221,Tryz.ntmps221;go_wp2_with fail;refine HQ.mono ?_;rintro e w1 ⟨rfl,⟨v1,hp1⟩,hq⟩
 have hw1:aL base (some g) w w1:=(aL.of (aC w (.cells #[.string ⟨#[40]⟩] 9) none)).trans hq
 clear HQ hq hp;generalize hnn:l.length=n at *;have Hn:=hid hnn;clear hnn
 have HP1:Hid (∃v',Pg w1 base g (L++[40,32]++aV [44,32] ((l.map tx).take 0)) v'):=⟨v1,by simpa [aV] using hp1⟩
 have HW1:=hid hw1;clear hp1 hw1
 have FIN:∀wr,(∃v',Pg wr base g (L++[40,32]++aV [44,32] (l.map tx)) v')->aL base (some g) w wr->Calls Tryz.prog 199 #[.pointer (some ⟨g,0,none⟩),.slice (some ⟨wr.heap.size,0,none⟩) 1 1] (wr.alloc (.cells #[.string ⟨#[41]⟩] 9)) fun e w'=>e=.returned (.tuple #[])/\(∃v',Pg w' base g (L++brI (l.map tx)) v')/\aL base (some g) w w':=by
  exact U296
 rcases zG0 n with hz|Am
 .
  subst hz;have e0:=zE0 Hn.out;subst e0;clear hr hml;go_wp2_with fail;refine zH2 1 ?_;rw[zE2]
  have HF:=FIN w1 (by simpa [aV] using HP1.out) HW1.out
  clear FIN;exact U52
 .
  obtain⟨b,off,rfl⟩:=hr.addr (by rw[hml];exact Am)
  clear hr hml;have HFN:=hid FIN;clear FIN;go_wp2_with fail
  go_loopw [6,7,13] (fun _ _ i wr=>∃j:Nat,j<=n/\i=.int .i64 j/\Hid (∃v',Pg wr base g (L++[40,32]++aV [44,32] ((l.map tx).take j)) v')/\Hid (aL base (some g) w wr)) (fun _ _ i _=>n-(intOf i).toNat)
  case atStart=>exact⟨0,zD1 _,rfl,HP1,HW1⟩
  case round=>
   obtain⟨j,hj,rfl,hpj,hwj⟩:=hrel;clear HP1 HW1
   by_cases Ai:j<n
   .
    refine M9242 ?_;intro v1 hp hw x hx
    have Ak:(l.map Pa.fl)[j]?=some x.fl:=by rw[zA2,hx];rfl
    refine M9197 ?_;intro vs Ad Ab HX hbr htx HJ hlen HC;clear HX hx Ak htx;generalize tx x=txx at *;obtain⟨x0,x1⟩:=x;obtain⟨y0,_,rfl,⟨b0,d0,rfl,_⟩,y1,_,rfl,rfl,rfl⟩:=Ad
    replace Ab:∀i v,_->_:=fun i v hv=>aB (Ab i v hv) hbr
    have q0:wr.cell? ⟨b,off+j*2,none⟩=some (.slice b0 x0.length d0):=Ab 0 _ rfl
    have q1:wr.cell? ⟨b,off+j*2+1,none⟩=some (.bool x1):=Ab 1 _ rfl
    clear Ab;have xb:=Blk.new wr 126 [.slice b0 x0.length d0,.bool x1]
    have hwa:aL base (some g) w (wr.alloc (.cells #[.slice b0 x0.length d0,.bool x1] 126 (0,0))):=hw.trans (aL.of (aC wr _ none))
    have hpa:=hp.grown (aC wr (.cells #[.slice b0 x0.length d0,.bool x1] 126 (0,0)) none)
    have An:some wr.heap.size ≠ some g:=by have:=hp.blk.lt;simp;omega
    simp only[agg]at HC;go_upto_region 4 with fail;generalize wr.alloc (.cells #[.slice b0 x0.length d0,.bool x1] 126 (0,0))=w2 at *;generalize wr.heap.size=gx at *;clear q0 q1 hp hw hbr hpj hwj
    have hs2:(aV [44,32] ((l.map tx).take j)).length+(if j=0 then 0 else 2)+txx.length<=(aV [44,32] (l.map tx)).length:=by
     exact U298
    clear hlen
    by_cases hj0:j=0
    .
     subst hj0;have hq1:((0:Nat):Int)=0:=rfl;have HQ:=HC w2 _ _ (hwa.below HB.out h0 Bd) hpa V112;clear HC;obtain⟨r0,r1⟩:=xb.c2;go_wp2_with fail;rw[hE,Oper.upon_enter];refine HQ.mono ?_;rintro e w3 ⟨rfl,⟨v3,hp3⟩,hq⟩;clear HQ r0 r1;exact U316
    .
     refine M9233 ?_;clear hs2;intro hpos' hs2 HQ;go_wp2_with fail;refine M9230 ?_;clear xb HQ hwa hpa;intro w3 v3 hp3 xb hw3 HQ;clear HC;obtain⟨r0,r1⟩:=xb.c2;go_wp2_with fail;rw[hE,Oper.upon_enter];refine HQ.mono ?_;rintro e w4 ⟨rfl,⟨v4,hp4⟩,hq⟩;clear HQ r0 r1;exact U310
   .
    have:j=n:=V6
    subst this;have HF:=HFN.out wr V110 hwj.out;exact U52
theorem U139{p:Prop}(h:p:=by
 intro w0 w vs base g l v a1 a2 a3 a4 a5 a6 a7 a8
 exact h a7 w0 w vs base g l v a1 a2 a3 a4 a5 a6 a7 a8):p:=h
set_option maxHeartbeats 4000000 in
theorem aL1 (n:Int)(mod name:List Int)(ks:List Ex)(S:∀x ∈ ks,nX x):nX (.mk 6 n mod name ks):=by
 intro w0 w vs base g l v hT hr hb h0 hg hp hok Bb;unfold Ex.fl at hr;obtain⟨y0,_,rfl,rfl,y1,_,rfl,rfl,y2,_,rfl,⟨a2,c2,rfl,h2,hc2,_⟩,y3,_,rfl,⟨a3,c3,rfl,h3,hc3,_⟩,y4,_,rfl,Bl,rfl⟩:=hr;obtain⟨a4,c4,rfl,h4⟩:=Bl.list;clear Bl;refine M962 ?_;intro As
 have he:prE (.mk 6 n mod name ks)=(aGb mod)++(name++[32])++(brI (ks.map prE)):=by simp only[prE,iO,aGb,brI,kB];simp
 rw[he]at Bb;simp only[zA1,zB1,zC3]at Bb
 have HE:Hid (prE (.mk 6 n mod name ks)=(aGb mod)++(name++[32])++(brI (ks.map prE))):=he
 clear he;have hloc:=(cM hok).1
 have hokk:∀x ∈ ks,nQ x=true:=by have:=(cM hok).2;rw[lR,zF3]at this;exact this
 simp only[brI,zA1,zB1,zC3]at Bb
 have hmok:mod.length=0\/aK mod true=true:=by unfold gE at hloc;simp only[zC0,Bool.or_eq_true,zE3]at hloc;exact hloc.2.imp id (fun h=>h.2)
 have hnm:=fW hloc V7;have hpn:=cD (g:=false) h3.2.1 hnm;clear hok;refine M915 ?_;intro hgl An Bd;have x0:=Blk.new w 133 [.int .i64 6,.int .i64 n,.slice a2 mod.length c2,.slice a3 name.length c3,.slice a4 ks.length c4]
 have hw:aL base (some g) w (w.alloc (.cells #[.int .i64 6,.int .i64 n,.slice a2 mod.length c2,.slice a3 name.length c3,.slice a4 ks.length c4] 133 (0,0))):=aL.of (aC w _ none)
 replace hb:Below w0.heap.size w0 (w.alloc (.cells #[.int .i64 6,.int .i64 n,.slice a2 mod.length c2,.slice a3 name.length c3,.slice a4 ks.length c4] 133 (0,0))):=hb.alloc hb.size _
 replace hp:=hp.grown (aC w (.cells #[.int .i64 6,.int .i64 n,.slice a2 mod.length c2,.slice a3 name.length c3,.slice a4 ks.length c4] 133 (0,0)) none);go_enter Tryz.func249,Tryz.ntmps249;have q4:=x0.k 4;go_upto_region 2 with fail;clear q4;generalize w.alloc (.cells #[.int .i64 6,.int .i64 n,.slice a2 mod.length c2,.slice a3 name.length c3,.slice a4 ks.length c4] 133 (0,0))=w1 at *;generalize w.heap.size=gx at *;have q0:=x0.k 0;have hF:=(hT.below hb).ex 6 V6;refine M931 ?_;intro z0 z1 z2 z3 z4;have HQ:=fZ (exF 6) (iW 6) w1 (hT.below hb);rw[aNn]at HQ;unfold Fm.val at HQ;clear hF;simp only[Nat.reduceMul,Nat.reduceAdd,Nat.zero_mul,zK0]at z0 z1 z2 z3 z4;go_wp2_with fail;refine HQ.mono ?_;rintro e w2 ⟨gw,rfl,wb,hgw',hq⟩;clear HQ q0 z0 z1 z2 z3 z4;refine M916 ?_;clear x0 hb hw hp;intro Aq x0 hb hw hp;clear hq hgw' hgl;simp only[rP,zI0,List.map_nil,zB1,zC3]at wb ⊢;obtain⟨q0,q1,q2,q3,q4⟩:=x0.c5;obtain⟨d0,d1,d2⟩:=wb.c3;go_wp2_with fail;refine zH2 4 ?_;rw[zE2];have HQ:=aNj mod a2 c2 w2 base g _ _ (h2.below hb) hp hg hmok V6;go_wp2_with fail;refine HQ.mono ?_;rintro e w3 ⟨rfl,⟨v',Bs⟩,hq⟩;clear q0 q1 q2 q3 q4 d0 d1 d2;clear HQ hp;refine M9180 ?_;clear Bs x0 wb hb hw;intro hp x0 wb hb hw;clear hq;obtain⟨q0,q1,q2,q3,q4⟩:=x0.c5;obtain⟨d0,d1,d2⟩:=wb.c3;go_wp2_with fail;refine M9214 ?_;intro kc HQ;go_wp2_with fail;refine HQ.mono ?_;rintro e w4 ⟨rfl,⟨v',Bs⟩,hq⟩;clear q0 q1 q2 q3 q4 d0 d1 d2;replace hq:=(aL.of (aC w3 (.cells #[.string (strOfNums name)] 9) none)).trans hq;clear HQ hp;refine M9180 ?_;clear Bs x0 wb hb hw;intro hp x0 wb hb hw;clear hq;obtain⟨q0,q1,q2,q3,q4⟩:=x0.c5;obtain⟨d0,d1,d2⟩:=wb.c3;rw[hpn]at hp;clear kc;go_wp2_with fail;rw[zE2]
 have HQ:=vG 249 (cK Tryz.func249 rfl rfl) prE ks (fun x hx w0 w vs base g l v a1 a2 a3 a4 a5 a6 a7=>S x hx w0 w vs base g l v a1 a2 a3 a4 a5 a6 (hokk x hx) a7) w0 w4 a4 c4 base g _ _ hT h4 hb h0 hg hp (by simp only[zA1,zB1,zC3,brI];omega)
 go_wp2_with fail;refine HQ.mono ?_;rintro e w5 ⟨rfl,⟨v',Bs⟩,hq⟩;clear q0 q1 q2 q3 q4 d0 d1 d2;clear HQ hp;refine M9180 ?_;clear Bs x0 wb hb hw;intro hp x0 wb hb hw;clear hq;obtain⟨q0,q1,q2,q3,q4⟩:=x0.c5;obtain⟨d0,d1,d2⟩:=wb.c3;go_wp2_with fail;rw[zE2];go_wp2_with fail
 have Bq:∃v',Pg w5 base g (l++prE (.mk 6 n mod name ks)) v':=⟨_,by rw[HE.out];simpa [zD0] using hp⟩
 exact U10
theorem aKr {n:Int}{mod name:List Int}{nk:Nat}(h:gE 3 n mod name nk=true):n=0\/n=1\/n=2\/n=3\/n=4\/n=5:=by
 unfold gE at h;simp only[zC0]at h
 have:=h.1.2.1.1
 simp[inB,eT,dB]at this
 omega
theorem aIj {k n:Int}{mod name:List Int}{nk:Nat}(h:gE k n mod name nk=true):dL k<=nk/\(nk:Int)<=eX k/\0<=k/\k<=7:=by
 unfold gE at h;simp only[zC0]at h;have h1:=h.1.2.1.2;have h2:=h.1.1
 simp[inB]at h1 h2
 omega
theorem aH2 {x:Ex}(h:nQ x=true->nX x):nX x:=by
 exact U139
mutual
theorem aNi:∀x:Ex,nX x
 | .mk k n m a ks=>aH2 fun hok=>by
  have hS:=aH1 ks;obtain⟨hloc,_⟩:=cM hok;obtain⟨h1,h2,h3,h4⟩:=aIj hloc;have h8:k=0\/k=1\/k=2\/k=3\/k=4\/k=5\/k=6\/k=7:=V6
  rcases h8 with rfl|rfl|rfl|rfl|rfl|rfl|rfl|rfl
  .
   exact aL7 n m a ks
  .
   exact aL6 n m a ks
  .
   simp[dL,eX]at h1 h2
   match ks,h1,h2,hS with
   | [e0],_,_,hS=>exact aL5 n m a e0 (hS e0 V15)
  .
   simp[dL,eX]at h1 h2
   have h6:Six n:=aKr hloc
   match ks,h1,h2,hS with
   | [e0,e1],_,_,hS=>exact aL4 n h6 m a e0 (hS e0 V15) e1 (hS e1 V15)
  .
   exact aL3 n m a ks
  .
   exact aL2 n m a ks
  .
   exact aL1 n m a ks hS
  .
   exact aL0 n m a ks
theorem aH1:∀(l:List Ex),∀x ∈ l,nX x
 | [],x,h=>by simp at h
 | y :: l,x,h=>by
  rcases zH0.1 h with h|h
  .
   rw[h];exact aNi y
  .
   exact aH1 l x h
end
end Go.Proofs.YtegkhlkjfeafjaaGreatDoor

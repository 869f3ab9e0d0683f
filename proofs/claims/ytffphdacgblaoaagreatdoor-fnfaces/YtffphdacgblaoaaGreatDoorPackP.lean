import Derived.Test.YtffphdacgblaoaaGreatDoorPrEx
namespace Go.Proofs.YtffphdacgblaoaaGreatDoor
open Go.RowKit
set_option maxHeartbeats 8000000
set_option linter.unusedVariables false
set_option linter.unusedSimpArgs false
set_option maxRecDepth 100000
theorem Q52{p:Prop}(h:p:=by have:=hpj.out;rwa [zD3 (by rw[zB2,Hn.out];exact zB0 _)]at this):p:=h
theorem Q63{p:Prop}(h:p:=by simp only[zA1,zB1,zC3];rw[if_pos rfl]at hs2;omega):p:=h
theorem U19{p:Prop}(h:p:=by
 rintro wr ⟨v2,hp⟩ hw
 refine(fH [⟨#[41]⟩] wr.heap.size 1 1 (wr.alloc (.cells #[.string ⟨#[41]⟩] 9)) base g _ _ (hp.grown (aB wr _ none)) rfl (Blk.new wr 9 [.string ⟨#[41]⟩]) (by have:=hp.blk.lt;omega) (by rw[rF];simp only[zA1,zB1,zC3];omega) hg).mono ?_
 rintro e w' ⟨rfl,⟨v3,hp3⟩,hq⟩
 rw[rF]at hp3
 exact⟨rfl,⟨v3,by simpa [brI,zD0] using hp3⟩,hw.trans ((aG.of (aB wr (.cells #[.string ⟨#[41]⟩] 9) none)).trans hq)⟩):p:=h
theorem U20{p:Prop}(h:p:=by
 go_wp2_with fail
 refine HF.mono ?_
 rintro e w2 ⟨rfl,h1,h2⟩
 go_wp2_with fail
 exact bodyPost_end (results_none rfl _ _ _) rfl ⟨rfl,h1,h2⟩):p:=h
theorem U25{p:Prop}(h:p:=by
 rw[HJ.out]at Ak
 split at Ak
 .
  rename_i h9;subst h9;simp[aO];omega
 .
  rename_i h9;rw[if_neg h9];simp only[zA1,zB1,zC3]at Ak;omega):p:=h
theorem U32{p:Prop}(h:p:=by
 have HP4:Hid (∃v',Pg w4 base g (L++[40,32]++aO [44,32] ((l.map tx).take (j+1))) v'):=⟨v4,by rw[HJ.out,if_neg hj0];simpa [zD0] using hp4⟩
 have HW4:=hid (hw3.trans hq)
 clear hp4 hq hw3 hp3 xb
 go_wp2
 go_roundw
 case rel=>exact⟨j+1,by omega,by go_num,HP4,HW4⟩
 case measure=>simp[intOf];omega):p:=h
theorem U35{p:Prop}(h:p:=by
 have HP3:Hid (∃v',Pg w3 base g (L++[40,32]++aO [44,32] ((l.map tx).take (0+1))) v'):=⟨v3,by rw[HJ.out];simpa [aO] using hp3⟩
 have HW3:=hid (hwa.trans hq)
 clear hp3 hq hwa hpa xb
 go_wp2
 go_roundw
 case rel=>exact⟨1,by omega,rfl,HP3,HW3⟩
 case measure=>simp[intOf];omega):p:=h
theorem M935{p q:Prop}(k:q)(h:Kx q->p:=by
 intro kQ
 obtain⟨vs,Ai,Ab⟩:=(bQ.el HR.out Bc).vals
 have HX:=HH.out x (zA3 hx)
 have hbr:=hw.below HB.out h0 Ao
 have htx:((l.map tx)[j]?)=some (tx x):=by rw[zA2,hx];rfl
 have HJ:Hid (aO [44,32] ((l.map tx).take (j+1))=if j=0 then tx x else aO [44,32] ((l.map tx).take j)++[44,32]++tx x):=gO htx
 have Ak:(aO [44,32] ((l.map tx).take (j+1))).length<=(aO [44,32] (l.map tx)).length:=iN _ _ _ (by rw[zB2,Hn.out];omega)
 have HC:∀wz Lz vz,Below w0.heap.size w0 wz->Pg wz base g Lz vz->Lz.length+(tx x).length<=1000000000->Calls Tryz.prog F #[.pointer (some ⟨g,0,none⟩),agg vs] wz fun e w'=>e=.returned (.tuple #[])/\(∃v',Pg w' base g (Lz++tx x) v')/\aG base (some g) wz w':=fun wz Lz vz h1 h2 h3=>HX w0 wz vs base g Lz vz HTt.out Ai h1 h0 hg h2 h3
 revert HC;revert Ak;revert HJ;revert htx;revert hbr;revert HX;revert Ab;revert Ai;revert vs
 exact kQ.o):p:=h ⟨k⟩
theorem M972{p q:Prop}(k:q)(h:Kx q->p:=by
 intro kQ
 simp only[brI,zA1,zB1,zC3]at Am
 have HQ:=fH [⟨#[40]⟩] w.heap.size 1 1 (w.alloc (.cells #[.string ⟨#[40]⟩] 9)) base g _ _ (hp.grown (aB w _ none)) rfl (Blk.new w 9 [.string ⟨#[40]⟩]) Q0 (by rw[rG];simp only[zB1,zC3];omega) hg
 rw[rG]at HQ
 have HH:=hid H
 have HR:=hid hr
 have HTt:=hid hT
 have HB:=hid hb
 revert HB;revert HTt;revert HR;revert HH;revert HQ;revert Am
 exact kQ.o):p:=h ⟨k⟩
theorem M973{p q:Prop}(k:q)(h:Kx q->p:=by
 intro kQ
 refine HQ.mono ?_
 rintro e w3 ⟨rfl,⟨v3,hp3⟩,hq⟩
 have hq3:aG base (some g) w2 w3:=(aG.of (aB w2 (.cells #[.string ⟨#[44]⟩] 9) none)).trans hq
 replace xb:=hq3.blk xb Q5 Al
 have hw3:=hwa.trans hq3
 clear hq hq3
 have HQ:=HC w3 _ _ (hw3.below HB.out h0 Ao) hp3 (by simp only[zA1,zB1,zC3];omega)
 revert HQ;revert hw3;revert xb;revert hp3;revert v3;revert w3
 exact kQ.o):p:=h ⟨k⟩
theorem M975{p q:Prop}(k:q)(h:Kx q->p:=by
 intro kQ
 have hpos':(0:Int)<(j:Int):=Q0
 rw[if_neg hj0]at hs2
 have HQ:=fH [⟨#[44]⟩] w2.heap.size 1 1 (w2.alloc (.cells #[.string ⟨#[44]⟩] 9)) base g _ _ (hpa.grown (aB w2 _ none)) rfl (Blk.new w2 9 [.string ⟨#[44]⟩]) (by have:=hpa.blk.lt;omega) (by rw[yZ];simp only[zA1,zB1,zC3];omega) hg
 rw[yZ]at HQ
 revert HQ;revert hs2;revert hpos'
 exact kQ.o):p:=h ⟨k⟩
theorem M981{p q:Prop}(k:q)(h:Kx q->p:=by
 intro kQ
 obtain⟨v1,hp⟩:=hpj.out
 have hw:=hwj.out
 obtain⟨x,hx⟩:∃x,l[j]?=some x:=⟨l[j]'(by rw[Hn.out];exact Aj),zA0 _⟩
 revert hx;revert x;revert hw;revert hp;revert v1
 exact kQ.o):p:=h ⟨k⟩
theorem M988{p q:Prop}(k:q)(h:Kx q->p:=by
 intro kQ
 have hgl:=hp.blk.lt
 have Ao:∀k,some g=some k->w0.heap.size<=k:=by intro k e;cases e;omega
 have hn9:l.length<=9223372036854775807:=by have h1:=hr.cap;have h2:=hr.most;unfold maxLen at h2;simp[aQ]at h1;omega
 revert hn9;revert Ao;revert hgl
 exact kQ.o):p:=h ⟨k⟩
def aGz (F:Nat)(r:List Fl)(t:List Int):Prop:=∀(w0 w:World) (vs:List Value) (base g:Nat) (l:List Int) (v:Value),nF w0->cC w0 r vs->Below w0.heap.size w0 w->w0.heap.size<=base->base<=g->Pg w base g l v->l.length+t.length<=1000000000 →
 Calls Tryz.prog F #[.pointer (some ⟨g,0,none⟩),agg vs] w fun e w'=>e=.returned (.tuple #[])/\(∃v',Pg w' base g (l++t) v')/\aG base (some g) w w'
theorem aCt (s x:List Int):∀(l:List (List Int)),aO s (l++[x])=if l.length=0 then x else aO s l++s++x:=by
 intro l
 induction l with
 | nil=>rfl
 | cons a l ih=>
  cases l with
  | nil=>simp[aO]
  | cons b l=>
   rw[List.cons_append,List.cons_append,aO,<-List.cons_append,ih]
   simp[aO,zD0]
theorem gO {s:List Int}{l:List (List Int)}{j:Nat}{x:List Int}(h:l[j]?=some x):aO s (l.take (j+1))=if j=0 then x else aO s (l.take j)++s++x:=by
 obtain⟨hk,rfl⟩:=zC1.1 h;rw[zF1 hk,aCt]
 have:(l.take j).length=j:=by simp;omega
 rw[this]
theorem aCu (s:List Int)(l:List (List Int)):∀(d j:Nat),j+d=l.length->(aO s (l.take j)).length<=(aO s l).length:=by
 intro d
 induction d with
 | zero=>intro j h;rw[zD3 Q0];exact zB0 _
 | succ d ih=>
  intro j h;have h1:=ih (j+1) Q0
  rw[gO (zA0 (by omega:j<l.length))]at h1
  split at h1
  .
   rename_i h0
   subst h0
   simp[aO]
  .
   simp only[zA1]at h1;omega
theorem iN (s:List Int)(l:List (List Int))(j:Nat)(h:j<=l.length):(aO s (l.take j)).length<=(aO s l).length:=aCu s l (l.length-j) j Q0
def brI (ts:List (List Int)):List Int:=[40,32]++aO [44,32] ts++[41,32]
theorem yE (F:Nat)(hE:Ent F)(tx:Ex->List Int)(l:List Ex)(H:∀x ∈ l,aGz F x.fl (tx x))(w0 w:World)(a:Option Addr)(c base g:Nat)(L:List Int)(v:Value)(hT:nF w0)(hr:bQ w0 a c 5 (exs l))(hb:Below w0.heap.size w0 w)(h0:w0.heap.size<=base)(hg:base<=g)(hp:Pg w base g L v)(Am:L.length+(brI (l.map tx)).length<=1000000000):
  Calls Tryz.prog 172 #[.pointer (some ⟨g,0,none⟩),.slice a l.length c,.func (.func F) #[.pointer (some ⟨g,0,none⟩)] #[]] w fun e w'=>e=.returned (.tuple #[])/\(∃v',Pg w' base g (L++brI (l.map tx)) v')/\aG base (some g) w w':=by
 refine M988 ?_;intro hgl Ao hn9
 have hml:(exs l).length=l.length:=by simp[aQ]
 refine M972 ?_;clear Am;intro Am HQ HH HR HTt HB;clear H hT hb;go_enter Tryz.func172,Tryz.ntmps172;go_wp2_with fail;refine HQ.mono ?_;rintro e w1 ⟨rfl,⟨v1,hp1⟩,hq⟩
 have hw1:aG base (some g) w w1:=(aG.of (aB w (.cells #[.string ⟨#[40]⟩] 9) none)).trans hq
 clear HQ hq hp;generalize hnn:l.length=n at *;have Hn:=hid hnn;clear hnn
 have HP1:Hid (∃v',Pg w1 base g (L++[40,32]++aO [44,32] ((l.map tx).take 0)) v'):=⟨v1,by simpa [aO] using hp1⟩
 have HW1:=hid hw1;clear hp1 hw1
 have FIN:∀wr,(∃v',Pg wr base g (L++[40,32]++aO [44,32] (l.map tx)) v')->aG base (some g) w wr->Calls Tryz.prog 104 #[.pointer (some ⟨g,0,none⟩),.slice (some ⟨wr.heap.size,0,none⟩) 1 1] (wr.alloc (.cells #[.string ⟨#[41]⟩] 9)) fun e w'=>e=.returned (.tuple #[])/\(∃v',Pg w' base g (L++brI (l.map tx)) v')/\aG base (some g) w w':=by
  exact U19
 rcases zG0 n with hz|hpos
 .
  subst hz;have e0:=zE0 Hn.out;subst e0;clear hr hml;go_wp2_with fail;refine zH1 1 ?_;rw[zE2]
  have HF:=FIN w1 (by simpa [aO] using HP1.out) HW1.out
  clear FIN;exact U20
 .
  obtain⟨b,off,rfl⟩:=hr.addr (by rw[hml];exact hpos)
  clear hr hml;have HFN:=hid FIN;clear FIN;go_wp2_with fail
  go_loopw [6,7,13] (fun _ _ i wr=>∃j:Nat,j<=n/\i=.int .i64 j/\Hid (∃v',Pg wr base g (L++[40,32]++aO [44,32] ((l.map tx).take j)) v')/\Hid (aG base (some g) w wr)) (fun _ _ i _=>n-(intOf i).toNat)
  case atStart=>exact⟨0,zD1 _,rfl,HP1,HW1⟩
  case round=>
   obtain⟨j,hj,rfl,hpj,hwj⟩:=hrel;clear HP1 HW1
   by_cases Aj:j<n
   .
    refine M981 ?_;intro v1 hp hw x hx
    have Bc:(exs l)[j]?=some x.fl:=by rw[aQ,zA2,hx];rfl
    refine M935 ?_;intro vs Ai Ab HX hbr htx HJ Ak HC;clear HX hx Bc htx;generalize tx x=txx at *;obtain⟨x0,x1,x2,x3,x4⟩:=x;unfold Ex.fl at Ai;obtain⟨y0,_,rfl,rfl,y1,_,rfl,rfl,y2,_,rfl,⟨b2,d2,rfl,_⟩,y3,_,rfl,⟨b3,d3,rfl,_⟩,y4,_,rfl,⟨b4,d4,rfl,_⟩,rfl⟩:=Ai;generalize (exs x4).length=m4 at *
    replace Ab:∀i v,_->_:=fun i v hv=>aC (Ab i v hv) hbr
    have q0:wr.cell? ⟨b,off+j*5,none⟩=some (.int .i64 x0):=Ab 0 _ rfl
    have q1:wr.cell? ⟨b,off+j*5+1,none⟩=some (.int .i64 x1):=Ab 1 _ rfl
    have q2:wr.cell? ⟨b,off+j*5+2,none⟩=some (.slice b2 x2.length d2):=Ab 2 _ rfl
    have q3:wr.cell? ⟨b,off+j*5+3,none⟩=some (.slice b3 x3.length d3):=Ab 3 _ rfl
    have q4:wr.cell? ⟨b,off+j*5+4,none⟩=some (.slice b4 m4 d4):=Ab 4 _ rfl
    clear Ab;have xb:=Blk.new wr 119 [.int .i64 x0,.int .i64 x1,.slice b2 x2.length d2,.slice b3 x3.length d3,.slice b4 m4 d4]
    have hwa:aG base (some g) w (wr.alloc (.cells #[.int .i64 x0,.int .i64 x1,.slice b2 x2.length d2,.slice b3 x3.length d3,.slice b4 m4 d4] 119 (0,0))):=hw.trans (aG.of (aB wr _ none))
    have hpa:=hp.grown (aB wr (.cells #[.int .i64 x0,.int .i64 x1,.slice b2 x2.length d2,.slice b3 x3.length d3,.slice b4 m4 d4] 119 (0,0)) none)
    have Al:some wr.heap.size ≠ some g:=by have:=hp.blk.lt;simp;omega
    simp only[agg]at HC;go_upto_region 4 with fail;generalize wr.alloc (.cells #[.int .i64 x0,.int .i64 x1,.slice b2 x2.length d2,.slice b3 x3.length d3,.slice b4 m4 d4] 119 (0,0))=w2 at *;generalize wr.heap.size=gx at *;clear q0 q1 q2 q3 q4 hp hw hbr hpj hwj
    have hs2:(aO [44,32] ((l.map tx).take j)).length+(if j=0 then 0 else 2)+txx.length<=(aO [44,32] (l.map tx)).length:=by
     exact U25
    clear Ak
    by_cases hj0:j=0
    .
     subst hj0;have hq1:((0:Nat):Int)=0:=rfl;have HQ:=HC w2 _ _ (hwa.below HB.out h0 Ao) hpa Q63;clear HC;obtain⟨r0,r1,r2,r3,r4⟩:=xb.c5;go_wp2_with fail;rw[hE,Oper.upon_enter];refine HQ.mono ?_;rintro e w3 ⟨rfl,⟨v3,hp3⟩,hq⟩;clear HQ r0 r1 r2 r3 r4;exact U35
    .
     refine M975 ?_;clear hs2;intro hpos' hs2 HQ;go_wp2_with fail;refine M973 ?_;clear xb HQ hwa hpa;intro w3 v3 hp3 xb hw3 HQ;clear HC;obtain⟨r0,r1,r2,r3,r4⟩:=xb.c5;go_wp2_with fail;rw[hE,Oper.upon_enter];refine HQ.mono ?_;rintro e w4 ⟨rfl,⟨v4,hp4⟩,hq⟩;clear HQ r0 r1 r2 r3 r4;exact U32
   .
    have:j=n:=Q0
    subst this;have HF:=HFN.out wr Q52 hwj.out;exact U20
theorem oL (F:Nat)(hE:Ent F)(tx:Pa->List Int)(l:List Pa)(H:∀x ∈ l,aGz F x.fl (tx x))(w0 w:World)(a:Option Addr)(c base g:Nat)(L:List Int)(v:Value)(hT:nF w0)(hr:bQ w0 a c 2 (l.map Pa.fl))(hb:Below w0.heap.size w0 w)(h0:w0.heap.size<=base)(hg:base<=g)(hp:Pg w base g L v)(Am:L.length+(brI (l.map tx)).length<=1000000000):
  Calls Tryz.prog 131 #[.pointer (some ⟨g,0,none⟩),.slice a l.length c,.func (.func F) #[.pointer (some ⟨g,0,none⟩)] #[]] w fun e w'=>e=.returned (.tuple #[])/\(∃v',Pg w' base g (L++brI (l.map tx)) v')/\aG base (some g) w w':=by
 refine M988 ?_;intro hgl Ao hn9
 have hml:(l.map Pa.fl).length=l.length:=by simp[aQ]
 refine M972 ?_;clear Am;intro Am HQ HH HR HTt HB;clear H hT hb;go_enter Tryz.func131,Tryz.ntmps131;go_wp2_with fail;refine HQ.mono ?_;rintro e w1 ⟨rfl,⟨v1,hp1⟩,hq⟩
 have hw1:aG base (some g) w w1:=(aG.of (aB w (.cells #[.string ⟨#[40]⟩] 9) none)).trans hq
 clear HQ hq hp;generalize hnn:l.length=n at *;have Hn:=hid hnn;clear hnn
 have HP1:Hid (∃v',Pg w1 base g (L++[40,32]++aO [44,32] ((l.map tx).take 0)) v'):=⟨v1,by simpa [aO] using hp1⟩
 have HW1:=hid hw1;clear hp1 hw1
 have FIN:∀wr,(∃v',Pg wr base g (L++[40,32]++aO [44,32] (l.map tx)) v')->aG base (some g) w wr->Calls Tryz.prog 104 #[.pointer (some ⟨g,0,none⟩),.slice (some ⟨wr.heap.size,0,none⟩) 1 1] (wr.alloc (.cells #[.string ⟨#[41]⟩] 9)) fun e w'=>e=.returned (.tuple #[])/\(∃v',Pg w' base g (L++brI (l.map tx)) v')/\aG base (some g) w w':=by
  exact U19
 rcases zG0 n with hz|hpos
 .
  subst hz;have e0:=zE0 Hn.out;subst e0;clear hr hml;go_wp2_with fail;refine zH1 1 ?_;rw[zE2]
  have HF:=FIN w1 (by simpa [aO] using HP1.out) HW1.out
  clear FIN;exact U20
 .
  obtain⟨b,off,rfl⟩:=hr.addr (by rw[hml];exact hpos)
  clear hr hml;have HFN:=hid FIN;clear FIN;go_wp2_with fail
  go_loopw [6,7,13] (fun _ _ i wr=>∃j:Nat,j<=n/\i=.int .i64 j/\Hid (∃v',Pg wr base g (L++[40,32]++aO [44,32] ((l.map tx).take j)) v')/\Hid (aG base (some g) w wr)) (fun _ _ i _=>n-(intOf i).toNat)
  case atStart=>exact⟨0,zD1 _,rfl,HP1,HW1⟩
  case round=>
   obtain⟨j,hj,rfl,hpj,hwj⟩:=hrel;clear HP1 HW1
   by_cases Aj:j<n
   .
    refine M981 ?_;intro v1 hp hw x hx
    have Bc:(l.map Pa.fl)[j]?=some x.fl:=by rw[zA2,hx];rfl
    refine M935 ?_;intro vs Ai Ab HX hbr htx HJ Ak HC;clear HX hx Bc htx;generalize tx x=txx at *;obtain⟨x0,x1⟩:=x;obtain⟨y0,_,rfl,⟨b0,d0,rfl,_⟩,y1,_,rfl,rfl,rfl⟩:=Ai
    replace Ab:∀i v,_->_:=fun i v hv=>aC (Ab i v hv) hbr
    have q0:wr.cell? ⟨b,off+j*2,none⟩=some (.slice b0 x0.length d0):=Ab 0 _ rfl
    have q1:wr.cell? ⟨b,off+j*2+1,none⟩=some (.bool x1):=Ab 1 _ rfl
    clear Ab;have xb:=Blk.new wr 98 [.slice b0 x0.length d0,.bool x1]
    have hwa:aG base (some g) w (wr.alloc (.cells #[.slice b0 x0.length d0,.bool x1] 98 (0,0))):=hw.trans (aG.of (aB wr _ none))
    have hpa:=hp.grown (aB wr (.cells #[.slice b0 x0.length d0,.bool x1] 98 (0,0)) none)
    have Al:some wr.heap.size ≠ some g:=by have:=hp.blk.lt;simp;omega
    simp only[agg]at HC;go_upto_region 4 with fail;generalize wr.alloc (.cells #[.slice b0 x0.length d0,.bool x1] 98 (0,0))=w2 at *;generalize wr.heap.size=gx at *;clear q0 q1 hp hw hbr hpj hwj
    have hs2:(aO [44,32] ((l.map tx).take j)).length+(if j=0 then 0 else 2)+txx.length<=(aO [44,32] (l.map tx)).length:=by
     exact U25
    clear Ak
    by_cases hj0:j=0
    .
     subst hj0;have hq1:((0:Nat):Int)=0:=rfl;have HQ:=HC w2 _ _ (hwa.below HB.out h0 Ao) hpa Q63;clear HC;obtain⟨r0,r1⟩:=xb.c2;go_wp2_with fail;rw[hE,Oper.upon_enter];refine HQ.mono ?_;rintro e w3 ⟨rfl,⟨v3,hp3⟩,hq⟩;clear HQ r0 r1;exact U35
    .
     refine M975 ?_;clear hs2;intro hpos' hs2 HQ;go_wp2_with fail;refine M973 ?_;clear xb HQ hwa hpa;intro w3 v3 hp3 xb hw3 HQ;clear HC;obtain⟨r0,r1⟩:=xb.c2;go_wp2_with fail;rw[hE,Oper.upon_enter];refine HQ.mono ?_;rintro e w4 ⟨rfl,⟨v4,hp4⟩,hq⟩;clear HQ r0 r1;exact U32
   .
    have:j=n:=Q0
    subst this;have HF:=HFN.out wr Q52 hwj.out;exact U20
theorem U79{p:Prop}(h:p:=by
 intro w0 w vs base g l v a1 a2 a3 a4 a5 a6 a7 a8
 exact h a7 w0 w vs base g l v a1 a2 a3 a4 a5 a6 a7 a8):p:=h
set_option maxHeartbeats 4000000 in
theorem aQw (n:Int)(mod name:List Int)(ks:List Ex)(S:∀x ∈ ks,pE x):pE (.mk 6 n mod name ks):=by
 intro w0 w vs base g l v hT hr hb h0 hg hp hok Am;unfold Ex.fl at hr;obtain⟨y0,_,rfl,rfl,y1,_,rfl,rfl,y2,_,rfl,⟨a2,c2,rfl,h2,hc2,_⟩,y3,_,rfl,⟨a3,c3,rfl,h3,hc3,_⟩,y4,_,rfl,Be,rfl⟩:=hr;obtain⟨a4,c4,rfl,h4⟩:=Be.list;clear Be;refine M933 ?_;intro An
 have he:prE (.mk 6 n mod name ks)=(aKa mod)++(name++[32])++(brI (ks.map prE)):=by simp only[prE,jP,aKa,brI,lD];simp
 rw[he]at Am;simp only[zA1,zB1,zC3]at Am
 have HE:Hid (prE (.mk 6 n mod name ks)=(aKa mod)++(name++[32])++(brI (ks.map prE))):=he
 clear he;have hloc:=(cW hok).1
 have hokk:∀x ∈ ks,qN x=true:=by have:=(cW hok).2;rw[mS,zF3]at this;exact this
 simp only[brI,zA1,zB1,zC3]at Am
 have hmok:mod.length=0\/aK mod true=true:=by unfold iW at hloc;simp only[zC0,Bool.or_eq_true,zE3]at hloc;exact hloc.2.imp id (fun h=>h.2)
 have hnm:=gV hloc Q5;have hpn:=cE (g:=false) h3.2.1 hnm;clear hok;refine M97 ?_;intro hgl Al Ao;have x0:=Blk.new w 119 [.int .i64 6,.int .i64 n,.slice a2 mod.length c2,.slice a3 name.length c3,.slice a4 ks.length c4]
 have hw:aG base (some g) w (w.alloc (.cells #[.int .i64 6,.int .i64 n,.slice a2 mod.length c2,.slice a3 name.length c3,.slice a4 ks.length c4] 119 (0,0))):=aG.of (aB w _ none)
 replace hb:Below w0.heap.size w0 (w.alloc (.cells #[.int .i64 6,.int .i64 n,.slice a2 mod.length c2,.slice a3 name.length c3,.slice a4 ks.length c4] 119 (0,0))):=hb.alloc hb.size _
 replace hp:=hp.grown (aB w (.cells #[.int .i64 6,.int .i64 n,.slice a2 mod.length c2,.slice a3 name.length c3,.slice a4 ks.length c4] 119 (0,0)) none);go_enter Tryz.func158,Tryz.ntmps158;have q4:=x0.k 4;go_upto_region 2 with fail;clear q4;generalize w.alloc (.cells #[.int .i64 6,.int .i64 n,.slice a2 mod.length c2,.slice a3 name.length c3,.slice a4 ks.length c4] 119 (0,0))=w1 at *;generalize w.heap.size=gx at *;have q0:=x0.k 0;have hF:=(hT.below hb).ex 6 Q0;refine M919 ?_;intro z0 z1 z2 z3 z4;have HQ:=hH (exF 6) (kA 6) w1 (hT.below hb);rw[aS4]at HQ;unfold Fm.val at HQ;clear hF;simp only[Nat.reduceMul,Nat.reduceAdd,Nat.zero_mul,zJ2]at z0 z1 z2 z3 z4;go_wp2_with fail;refine HQ.mono ?_;rintro e w2 ⟨gw,rfl,wb,hgw',hq⟩;clear HQ q0 z0 z1 z2 z3 z4;refine M96 ?_;clear x0 hb hw hp;intro Bf x0 hb hw hp;clear hq hgw' hgl;simp only[tV,zH2,List.map_nil,zB1,zC3]at wb ⊢;obtain⟨q0,q1,q2,q3,q4⟩:=x0.c5;obtain⟨d0,d1,d2⟩:=wb.c3;go_wp2_with fail;refine zH1 4 ?_;rw[zE2];have HQ:=aSx mod a2 c2 w2 base g _ _ (h2.below hb) hp hg hmok Q0;go_wp2_with fail;refine HQ.mono ?_;rintro e w3 ⟨rfl,⟨v',Ae⟩,hq⟩;clear q0 q1 q2 q3 q4 d0 d1 d2;clear HQ hp;refine M90 ?_;clear Ae x0 wb hb hw;intro hp x0 wb hb hw;clear hq;obtain⟨q0,q1,q2,q3,q4⟩:=x0.c5;obtain⟨d0,d1,d2⟩:=wb.c3;go_wp2_with fail;refine M953 ?_;intro kc HQ;go_wp2_with fail;refine HQ.mono ?_;rintro e w4 ⟨rfl,⟨v',Ae⟩,hq⟩;clear q0 q1 q2 q3 q4 d0 d1 d2;replace hq:=(aG.of (aB w3 (.cells #[.string (strOfNums name)] 9) none)).trans hq;clear HQ hp;refine M90 ?_;clear Ae x0 wb hb hw;intro hp x0 wb hb hw;clear hq;obtain⟨q0,q1,q2,q3,q4⟩:=x0.c5;obtain⟨d0,d1,d2⟩:=wb.c3;rw[hpn]at hp;clear kc;go_wp2_with fail;rw[zE2]
 have HQ:=yE 158 (cQ Tryz.func158 rfl rfl) prE ks (fun x hx w0 w vs base g l v a1 a2 a3 a4 a5 a6 a7=>S x hx w0 w vs base g l v a1 a2 a3 a4 a5 a6 (hokk x hx) a7) w0 w4 a4 c4 base g _ _ hT h4 hb h0 hg hp (by simp only[zA1,zB1,zC3,brI];omega)
 go_wp2_with fail;refine HQ.mono ?_;rintro e w5 ⟨rfl,⟨v',Ae⟩,hq⟩;clear q0 q1 q2 q3 q4 d0 d1 d2;clear HQ hp;refine M90 ?_;clear Ae x0 wb hb hw;intro hp x0 wb hb hw;clear hq;obtain⟨q0,q1,q2,q3,q4⟩:=x0.c5;obtain⟨d0,d1,d2⟩:=wb.c3;go_wp2_with fail;rw[zE2];go_wp2_with fail
 have Bh:∃v',Pg w5 base g (l++prE (.mk 6 n mod name ks)) v':=⟨_,by rw[HE.out];simpa [zD0] using hp⟩
 exact U7
theorem aOm {n:Int}{mod name:List Int}{nk:Nat}(h:iW 3 n mod name nk=true):n=0\/n=1\/n=2\/n=3\/n=4\/n=5:=by
 unfold iW at h;simp only[zC0]at h
 have:=h.1.2.1.1
 simp[inB,fD,dF]at this
 omega
theorem aL2 {k n:Int}{mod name:List Int}{nk:Nat}(h:iW k n mod name nk=true):dM k<=nk/\(nk:Int)<=fJ k/\0<=k/\k<=7:=by
 unfold iW at h;simp only[zC0]at h;have h1:=h.1.2.1.2;have h2:=h.1.1
 simp[inB]at h1 h2
 omega
theorem aLi {x:Ex}(h:qN x=true->pE x):pE x:=by
 exact U79
mutual
theorem aSv:∀x:Ex,pE x
 | .mk k n m a ks=>aLi fun hok=>by
  have hS:=aLh ks;obtain⟨hloc,_⟩:=cW hok;obtain⟨h1,h2,h3,h4⟩:=aL2 hloc;have h8:k=0\/k=1\/k=2\/k=3\/k=4\/k=5\/k=6\/k=7:=Q0
  rcases h8 with rfl|rfl|rfl|rfl|rfl|rfl|rfl|rfl
  .
   exact aQ2 n m a ks
  .
   exact aQ1 n m a ks
  .
   simp[dM,fJ]at h1 h2
   match ks,h1,h2,hS with
   | [e0],_,_,hS=>exact aQ0 n m a e0 (hS e0 Q9)
  .
   simp[dM,fJ]at h1 h2
   have h6:Six n:=aOm hloc
   match ks,h1,h2,hS with
   | [e0,e1],_,_,hS=>exact aQz n h6 m a e0 (hS e0 Q9) e1 (hS e1 Q9)
  .
   exact aQy n m a ks
  .
   exact aQx n m a ks
  .
   exact aQw n m a ks hS
  .
   exact aQv n m a ks
theorem aLh:∀(l:List Ex),∀x ∈ l,pE x
 | [],x,h=>by simp at h
 | y :: l,x,h=>by
  rcases zG3.1 h with h|h
  .
   rw[h];exact aSv y
  .
   exact aLh l x h
end
end Go.Proofs.YtffphdacgblaoaaGreatDoor

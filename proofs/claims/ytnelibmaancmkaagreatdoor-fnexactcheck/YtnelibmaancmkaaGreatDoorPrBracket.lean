import Derived.Test.YtnelibmaancmkaaGreatDoorPackD
namespace Go.Proofs.YtnelibmaancmkaaGreatDoor
set_option maxHeartbeats 8000000
open Go.RowKit
set_option linter.unusedVariables false
set_option linter.unusedSimpArgs false
set_option maxRecDepth 100000
theorem V11{p:Prop}(h:p:=by simp only[List.length_append,List.length_cons,List.length_nil];omega):p:=h
theorem V38{p:Prop}(h:p:=by rw[pP];simp only[List.length_append,List.length_cons,List.length_nil];omega):p:=h
theorem V44{p:Prop}(h:p:=by have:=hpj.out;rwa [List.take_of_length_le (by rw[List.length_map,Hn.out];exact Nat.le_refl _)]at this):p:=h
theorem V49{p:Prop}(h:p:=by simp only[List.length_append,List.length_cons,List.length_nil];rw[if_pos rfl]at hs2;omega):p:=h
theorem V61{p:Prop}(h:p:=by rw[vS];simp only[List.length_append,List.length_cons,List.length_nil];omega):p:=h
theorem V70{p:Prop}(h:p:=by rw[pQ];simp only[List.length_cons,List.length_nil];omega):p:=h
theorem V79{p:Prop}(h:p:=by rw[List.length_map,Hn.out];exact Nat.le_refl _):p:=h
theorem U40{p:Prop}(h:p:=by
 rw[HJ.out]at hlen
 split at hlen
 .
  rename_i h9;subst h9;simp[aV];omega
 .
  rename_i h9;rw[if_neg h9];simp only[List.length_append,List.length_cons,List.length_nil]at hlen;omega):p:=h
theorem U52{p:Prop}(h:p:=by
 go_wp2_with fail
 refine HF.mono ?_
 rintro e w2 ⟨rfl,h1,h2⟩
 go_wp2_with fail
 exact bodyPost_end (results_none rfl _ _ _) rfl ⟨rfl,h1,h2⟩):p:=h
theorem U53{p:Prop}(h:p:=by
 rintro wr ⟨v2,hp⟩ hw
 refine(eW [⟨#[41]⟩] wr.heap.size 1 1 (wr.alloc (.cells #[.string ⟨#[41]⟩] 9)) base g _ _ (hp.grown (aC wr _ none)) rfl (Blk.new wr 9 [.string ⟨#[41]⟩]) (by have:=hp.blk.lt;omega) V38 hg).mono ?_
 rintro e w' ⟨rfl,⟨v3,hp3⟩,hq⟩
 rw[pP]at hp3
 exact⟨rfl,⟨v3,by simpa [brI,List.append_assoc] using hp3⟩,hw.trans ((aL.of (aC wr (.cells #[.string ⟨#[41]⟩] 9) none)).trans hq)⟩):p:=h
theorem U60{p:Prop}(h:p:=by
 have HP4:Hid (∃v',Pg w4 base g (L++[40,32]++aV [44,32] ((l.map tx).take (j+1))) v'):=⟨v4,by rw[HJ.out,if_neg hj0];simpa [List.append_assoc] using hp4⟩
 have HW4:Hid (aL base (some g) w w4):=hw3.trans hq
 clear hp4 hq hw3 hp3 xb
 go_wp2_with fail
 go_roundw
 case rel=>exact⟨j+1,by omega,by go_num,HP4,HW4⟩
 case measure=>simp[intOf];omega):p:=h
theorem U64{p:Prop}(h:p:=by
 have HP3:Hid (∃v',Pg w3 base g (L++[40,32]++aV [44,32] ((l.map tx).take (0+1))) v'):=⟨v3,by rw[HJ.out];simpa [aV] using hp3⟩
 have HW3:Hid (aL base (some g) w w3):=hwa.trans hq
 clear hp3 hq hwa hpa xb
 go_wp2_with fail
 go_roundw
 case rel=>exact⟨1,by omega,rfl,HP3,HW3⟩
 case measure=>simp[intOf];omega):p:=h
def aAk (F:Nat)(r:List Fl)(t:List Int):Prop:=∀(w0 w:World) (vs:List Value) (base g:Nat) (l:List Int) (v:Value),kQ w0->aO w0 r vs->Below w0.heap.size w0 w->w0.heap.size<=base->base<=g->Pg w base g l v->l.length+t.length<=1000000000 →
 Calls Tryz.prog F #[.pointer (some ⟨g,0,none⟩),agg vs] w fun e w'=>e=.returned (.tuple #[])/\(∃v',Pg w' base g (l++t) v')/\aL base (some g) w w'
theorem zI (s x:List Int):∀(l:List (List Int)),aV s (l++[x])=if l.length=0 then x else aV s l++s++x:=by
 intro l
 induction l with
 | nil=>rfl
 | cons a l ih=>
  cases l with
  | nil=>simp[aV]
  | cons b l=>
   rw[List.cons_append,List.cons_append,aV,<-List.cons_append,ih]
   simp[aV,List.append_assoc]
theorem fU {s:List Int}{l:List (List Int)}{j:Nat}{x:List Int}(h:l[j]?=some x):aV s (l.take (j+1))=if j=0 then x else aV s (l.take j)++s++x:=by
 obtain⟨hk,rfl⟩:=List.getElem?_eq_some_iff.1 h;rw[List.take_succ_eq_append_getElem hk,zI]
 have:(l.take j).length=j:=by simp;omega
 rw[this]
theorem zJ (s:List Int)(l:List (List Int)):∀(d j:Nat),j+d=l.length->(aV s (l.take j)).length<=(aV s l).length:=by
 intro d
 induction d with
 | zero=>intro j h;rw[List.take_of_length_le V6];exact Nat.le_refl _
 | succ d ih=>
  intro j h;have h1:=ih (j+1) V6
  rw[fU (List.getElem?_eq_getElem (by omega:j<l.length))]at h1
  split at h1
  .
   rename_i h0
   subst h0
   simp[aV]
  .
   simp only[List.length_append]at h1;omega
theorem gO (s:List Int)(l:List (List Int))(j:Nat)(h:j<=l.length):(aV s (l.take j)).length<=(aV s l).length:=zJ s l (l.length-j) j V6
def brI (ts:List (List Int)):List Int:=[40,32]++aV [44,32] ts++[41,32]
theorem vG (F:Nat)(hE:Ent F)(tx:Ex->List Int)(l:List Ex)(H:∀x ∈ l,aAk F x.fl (tx x))(w0 w:World)(a:Option Addr)(c base g:Nat)(L:List Int)(v:Value)(hT:kQ w0)(hr:aS w0 a c 5 (exs l))(hb:Below w0.heap.size w0 w)(h0:w0.heap.size<=base)(hg:base<=g)(hp:Pg w base g L v)(Bb:L.length+(brI (l.map tx)).length<=1000000000):
  Calls Tryz.prog 264 #[.pointer (some ⟨g,0,none⟩),.slice a l.length c,.func (.func F) #[.pointer (some ⟨g,0,none⟩)] #[]] w fun e w'=>e=.returned (.tuple #[])/\(∃v',Pg w' base g (L++brI (l.map tx)) v')/\aL base (some g) w w':=by
 have hgl:=hp.blk.lt
 have Bd:∀k,some g=some k->w0.heap.size<=k:=by intro k e;cases e;omega
 have hn9:l.length<=9223372036854775807:=by have h1:=hr.cap;have h2:=hr.most;unfold maxLen at h2;simp[aJ]at h1;omega
 have hml:(exs l).length=l.length:=by simp[aJ]
 simp only[brI,List.length_append,List.length_cons,List.length_nil]at Bb;have HQ:=eW [⟨#[40]⟩] w.heap.size 1 1 (w.alloc (.cells #[.string ⟨#[40]⟩] 9)) base g _ _ (hp.grown (aC w _ none)) rfl (Blk.new w 9 [.string ⟨#[40]⟩]) V6 V70 hg;rw[pQ]at HQ
 have HH:Hid (∀x ∈ l,aAk F x.fl (tx x)):=H
 have HR:Hid (aS w0 a c 5 (exs l)):=hr
 have HTt:Hid (kQ w0):=hT
 have HB:Hid (Below w0.heap.size w0 w):=hb
 clear H hT hb;go_enter Tryz.func264,Tryz.ntmps264;go_wp2_with fail;refine HQ.mono ?_;rintro e w1 ⟨rfl,⟨v1,hp1⟩,hq⟩
 have hw1:aL base (some g) w w1:=(aL.of (aC w (.cells #[.string ⟨#[40]⟩] 9) none)).trans hq
 clear HQ hq hp;generalize hnn:l.length=n at *
 have Hn:Hid (l.length=n):=hnn
 clear hnn
 have HP1:Hid (∃v',Pg w1 base g (L++[40,32]++aV [44,32] ((l.map tx).take 0)) v'):=⟨v1,by simpa [aV] using hp1⟩
 have HW1:Hid (aL base (some g) w w1):=hw1
 clear hp1 hw1
 have FIN:∀wr,(∃v',Pg wr base g (L++[40,32]++aV [44,32] (l.map tx)) v')->aL base (some g) w wr->Calls Tryz.prog 178 #[.pointer (some ⟨g,0,none⟩),.slice (some ⟨wr.heap.size,0,none⟩) 1 1] (wr.alloc (.cells #[.string ⟨#[41]⟩] 9)) fun e w'=>e=.returned (.tuple #[])/\(∃v',Pg w' base g (L++brI (l.map tx)) v')/\aL base (some g) w w':=by
  exact U53
 rcases Nat.eq_zero_or_pos n with hz|Am
 .
  subst hz;have e0:l=[]:=List.eq_nil_of_length_eq_zero Hn.out;subst e0;clear hr hml;go_wp2_with fail;refine wp_loop_rounds 1 ?_;rw[rounds_succ]
  have HF:=FIN w1 (by simpa [aV] using HP1.out) HW1.out
  clear FIN;exact U52
 .
  obtain⟨b,off,rfl⟩:=hr.addr (by rw[hml];exact Am)
  clear hr hml
  have HFN:Hid _:=FIN
  clear FIN;go_wp2_with fail
  go_loopw [6,7,13] (fun _ _ i wr=>∃j:Nat,j<=n/\i=.int .i64 j/\Hid (∃v',Pg wr base g (L++[40,32]++aV [44,32] ((l.map tx).take j)) v')/\Hid (aL base (some g) w wr)) (fun _ _ i _=>n-(intOf i).toNat)
  case atStart=>exact⟨0,Nat.zero_le _,rfl,HP1,HW1⟩
  case round=>
   obtain⟨j,hj,rfl,hpj,hwj⟩:=hrel;clear HP1 HW1
   by_cases Ai:j<n
   .
    obtain⟨v1,hp⟩:=hpj.out;have hw:=hwj.out
    obtain⟨x,hx⟩:∃x,l[j]?=some x:=⟨l[j]'(by rw[Hn.out];exact Ai),List.getElem?_eq_getElem _⟩
    have Ak:(exs l)[j]?=some x.fl:=by rw[aJ,List.getElem?_map,hx];rfl
    obtain⟨vs,Ad,Ab⟩:=(aS.el HR.out Ak).vals;have HX:=HH.out x (List.mem_of_getElem? hx);have Au:=hw.below HB.out h0 Bd
    have htx:((l.map tx)[j]?)=some (tx x):=by rw[List.getElem?_map,hx];rfl
    have HJ:Hid (aV [44,32] ((l.map tx).take (j+1))=if j=0 then tx x else aV [44,32] ((l.map tx).take j)++[44,32]++tx x):=fU htx
    have hlen:(aV [44,32] ((l.map tx).take (j+1))).length<=(aV [44,32] (l.map tx)).length:=gO _ _ _ (by rw[List.length_map,Hn.out];omega)
    have HC:∀wz Lz vz,Below w0.heap.size w0 wz->Pg wz base g Lz vz->Lz.length+(tx x).length<=1000000000->Calls Tryz.prog F #[.pointer (some ⟨g,0,none⟩),agg vs] wz fun e w'=>e=.returned (.tuple #[])/\(∃v',Pg w' base g (Lz++tx x) v')/\aL base (some g) wz w':=fun wz Lz vz h1 h2 h3=>HX w0 wz vs base g Lz vz HTt.out Ad h1 h0 hg h2 h3
    clear HX hx Ak htx;generalize tx x=txx at *;obtain⟨x0,x1,x2,x3,x4⟩:=x;unfold Ex.fl at Ad;obtain⟨y0,_,rfl,rfl,y1,_,rfl,rfl,y2,_,rfl,⟨b2,d2,rfl,_⟩,y3,_,rfl,⟨b3,d3,rfl,_⟩,y4,_,rfl,⟨b4,d4,rfl,_⟩,rfl⟩:=Ad;generalize (exs x4).length=m4 at *
    replace Ab:∀i v,_->_:=fun i v hv=>aB (Ab i v hv) Au
    have q0:wr.cell? ⟨b,off+j*5,none⟩=some (.int .i64 x0):=Ab 0 _ rfl
    have q1:wr.cell? ⟨b,off+j*5+1,none⟩=some (.int .i64 x1):=Ab 1 _ rfl
    have q2:wr.cell? ⟨b,off+j*5+2,none⟩=some (.slice b2 x2.length d2):=Ab 2 _ rfl
    have q3:wr.cell? ⟨b,off+j*5+3,none⟩=some (.slice b3 x3.length d3):=Ab 3 _ rfl
    have q4:wr.cell? ⟨b,off+j*5+4,none⟩=some (.slice b4 m4 d4):=Ab 4 _ rfl
    clear Ab;have xb:=Blk.new wr 135 [.int .i64 x0,.int .i64 x1,.slice b2 x2.length d2,.slice b3 x3.length d3,.slice b4 m4 d4]
    have hwa:aL base (some g) w (wr.alloc (.cells #[.int .i64 x0,.int .i64 x1,.slice b2 x2.length d2,.slice b3 x3.length d3,.slice b4 m4 d4] 135 (0,0))):=hw.trans (aL.of (aC wr _ none))
    have hpa:=hp.grown (aC wr (.cells #[.int .i64 x0,.int .i64 x1,.slice b2 x2.length d2,.slice b3 x3.length d3,.slice b4 m4 d4] 135 (0,0)) none)
    have An:some wr.heap.size ≠ some g:=by have:=hp.blk.lt;simp;omega
    simp only[agg]at HC;go_upto_region 4 with fail;generalize wr.alloc (.cells #[.int .i64 x0,.int .i64 x1,.slice b2 x2.length d2,.slice b3 x3.length d3,.slice b4 m4 d4] 135 (0,0))=w2 at *;generalize wr.heap.size=gx at *;clear q0 q1 q2 q3 q4 hp hw Au hpj hwj
    have hs2:(aV [44,32] ((l.map tx).take j)).length+(if j=0 then 0 else 2)+txx.length<=(aV [44,32] (l.map tx)).length:=by
     exact U40
    clear hlen
    by_cases hj0:j=0
    .
     subst hj0;have hq1:((0:Nat):Int)=0:=rfl;have HQ:=HC w2 _ _ (hwa.below HB.out h0 Bd) hpa V49;clear HC;obtain⟨r0,r1,r2,r3,r4⟩:=xb.c5;go_wp2_with fail;rw[hE,Oper.upon_enter];refine HQ.mono ?_;rintro e w3 ⟨rfl,⟨v3,hp3⟩,hq⟩;clear HQ r0 r1 r2 r3 r4;exact U64
    .
     have hpos':(0:Int)<(j:Int):=V6;rw[if_neg hj0]at hs2
     have HQ:=eW [⟨#[44]⟩] w2.heap.size 1 1 (w2.alloc (.cells #[.string ⟨#[44]⟩] 9)) base g _ _ (hpa.grown (aC w2 _ none)) rfl (Blk.new w2 9 [.string ⟨#[44]⟩]) (by have:=hpa.blk.lt;omega) V61 hg
     rw[vS]at HQ;go_wp2_with fail;refine HQ.mono ?_;rintro e w3 ⟨rfl,⟨v3,hp3⟩,hq⟩
     have hq3:aL base (some g) w2 w3:=(aL.of (aC w2 (.cells #[.string ⟨#[44]⟩] 9) none)).trans hq
     replace xb:=hq3.blk xb V7 An;have hw3:=hwa.trans hq3;clear HQ hq hq3 hwa hpa;have HQ:=HC w3 _ _ (hw3.below HB.out h0 Bd) hp3 V11;clear HC;obtain⟨r0,r1,r2,r3,r4⟩:=xb.c5;go_wp2_with fail;rw[hE,Oper.upon_enter];refine HQ.mono ?_;rintro e w4 ⟨rfl,⟨v4,hp4⟩,hq⟩;clear HQ r0 r1 r2 r3 r4;exact U60
   .
    have:j=n:=V6
    subst this;have HF:=HFN.out wr V44 hwj.out;exact U52
theorem nB (F:Nat)(hE:Ent F)(tx:Pa->List Int)(l:List Pa)(H:∀x ∈ l,aAk F x.fl (tx x))(w0 w:World)(a:Option Addr)(c base g:Nat)(L:List Int)(v:Value)(hT:kQ w0)(hr:aS w0 a c 2 (l.map Pa.fl))(hb:Below w0.heap.size w0 w)(h0:w0.heap.size<=base)(hg:base<=g)(hp:Pg w base g L v)(Bb:L.length+(brI (l.map tx)).length<=1000000000):
  Calls Tryz.prog 218 #[.pointer (some ⟨g,0,none⟩),.slice a l.length c,.func (.func F) #[.pointer (some ⟨g,0,none⟩)] #[]] w fun e w'=>e=.returned (.tuple #[])/\(∃v',Pg w' base g (L++brI (l.map tx)) v')/\aL base (some g) w w':=by
 have hgl:=hp.blk.lt
 have Bd:∀k,some g=some k->w0.heap.size<=k:=by intro k e;cases e;omega
 have hn9:l.length<=9223372036854775807:=by have h1:=hr.cap;have h2:=hr.most;unfold maxLen at h2;simp[aJ]at h1;omega
 have hml:(l.map Pa.fl).length=l.length:=by simp[aJ]
 simp only[brI,List.length_append,List.length_cons,List.length_nil]at Bb;have HQ:=eW [⟨#[40]⟩] w.heap.size 1 1 (w.alloc (.cells #[.string ⟨#[40]⟩] 9)) base g _ _ (hp.grown (aC w _ none)) rfl (Blk.new w 9 [.string ⟨#[40]⟩]) V6 V70 hg;rw[pQ]at HQ
 have HH:Hid (∀x ∈ l,aAk F x.fl (tx x)):=H
 have HR:Hid (aS w0 a c 2 (l.map Pa.fl)):=hr
 have HTt:Hid (kQ w0):=hT
 have HB:Hid (Below w0.heap.size w0 w):=hb
 clear H hT hb;go_enter Tryz.func218,Tryz.ntmps218;go_wp2_with fail;refine HQ.mono ?_;rintro e w1 ⟨rfl,⟨v1,hp1⟩,hq⟩
 have hw1:aL base (some g) w w1:=(aL.of (aC w (.cells #[.string ⟨#[40]⟩] 9) none)).trans hq
 clear HQ hq hp;generalize hnn:l.length=n at *
 have Hn:Hid (l.length=n):=hnn
 clear hnn
 have HP1:Hid (∃v',Pg w1 base g (L++[40,32]++aV [44,32] ((l.map tx).take 0)) v'):=⟨v1,by simpa [aV] using hp1⟩
 have HW1:Hid (aL base (some g) w w1):=hw1
 clear hp1 hw1
 have FIN:∀wr,(∃v',Pg wr base g (L++[40,32]++aV [44,32] (l.map tx)) v')->aL base (some g) w wr->Calls Tryz.prog 178 #[.pointer (some ⟨g,0,none⟩),.slice (some ⟨wr.heap.size,0,none⟩) 1 1] (wr.alloc (.cells #[.string ⟨#[41]⟩] 9)) fun e w'=>e=.returned (.tuple #[])/\(∃v',Pg w' base g (L++brI (l.map tx)) v')/\aL base (some g) w w':=by
  exact U53
 rcases Nat.eq_zero_or_pos n with hz|Am
 .
  subst hz;have e0:l=[]:=List.eq_nil_of_length_eq_zero Hn.out;subst e0;clear hr hml;go_wp2_with fail;refine wp_loop_rounds 1 ?_;rw[rounds_succ]
  have HF:=FIN w1 (by simpa [aV] using HP1.out) HW1.out
  clear FIN;exact U52
 .
  obtain⟨b,off,rfl⟩:=hr.addr (by rw[hml];exact Am)
  clear hr hml
  have HFN:Hid _:=FIN
  clear FIN;go_wp2_with fail
  go_loopw [6,7,13] (fun _ _ i wr=>∃j:Nat,j<=n/\i=.int .i64 j/\Hid (∃v',Pg wr base g (L++[40,32]++aV [44,32] ((l.map tx).take j)) v')/\Hid (aL base (some g) w wr)) (fun _ _ i _=>n-(intOf i).toNat)
  case atStart=>exact⟨0,Nat.zero_le _,rfl,HP1,HW1⟩
  case round=>
   obtain⟨j,hj,rfl,hpj,hwj⟩:=hrel;clear HP1 HW1
   by_cases Ai:j<n
   .
    obtain⟨v1,hp⟩:=hpj.out;have hw:=hwj.out
    obtain⟨x,hx⟩:∃x,l[j]?=some x:=⟨l[j]'(by rw[Hn.out];exact Ai),List.getElem?_eq_getElem _⟩
    have Ak:(l.map Pa.fl)[j]?=some x.fl:=by rw[List.getElem?_map,hx];rfl
    obtain⟨vs,Ad,Ab⟩:=(aS.el HR.out Ak).vals;have HX:=HH.out x (List.mem_of_getElem? hx);have Au:=hw.below HB.out h0 Bd
    have htx:((l.map tx)[j]?)=some (tx x):=by rw[List.getElem?_map,hx];rfl
    have HJ:Hid (aV [44,32] ((l.map tx).take (j+1))=if j=0 then tx x else aV [44,32] ((l.map tx).take j)++[44,32]++tx x):=fU htx
    have hlen:(aV [44,32] ((l.map tx).take (j+1))).length<=(aV [44,32] (l.map tx)).length:=gO _ _ _ (by rw[List.length_map,Hn.out];omega)
    have HC:∀wz Lz vz,Below w0.heap.size w0 wz->Pg wz base g Lz vz->Lz.length+(tx x).length<=1000000000->Calls Tryz.prog F #[.pointer (some ⟨g,0,none⟩),agg vs] wz fun e w'=>e=.returned (.tuple #[])/\(∃v',Pg w' base g (Lz++tx x) v')/\aL base (some g) wz w':=fun wz Lz vz h1 h2 h3=>HX w0 wz vs base g Lz vz HTt.out Ad h1 h0 hg h2 h3
    clear HX hx Ak htx;generalize tx x=txx at *;obtain⟨x0,x1⟩:=x;obtain⟨y0,_,rfl,⟨b0,d0,rfl,_⟩,y1,_,rfl,rfl,rfl⟩:=Ad
    skip
    replace Ab:∀i v,_->_:=fun i v hv=>aB (Ab i v hv) Au
    have q0:wr.cell? ⟨b,off+j*2,none⟩=some (.slice b0 x0.length d0):=Ab 0 _ rfl
    have q1:wr.cell? ⟨b,off+j*2+1,none⟩=some (.bool x1):=Ab 1 _ rfl
    clear Ab;have xb:=Blk.new wr 128 [.slice b0 x0.length d0,.bool x1]
    have hwa:aL base (some g) w (wr.alloc (.cells #[.slice b0 x0.length d0,.bool x1] 128 (0,0))):=hw.trans (aL.of (aC wr _ none))
    have hpa:=hp.grown (aC wr (.cells #[.slice b0 x0.length d0,.bool x1] 128 (0,0)) none)
    have An:some wr.heap.size ≠ some g:=by have:=hp.blk.lt;simp;omega
    simp only[agg]at HC;go_upto_region 4 with fail;generalize wr.alloc (.cells #[.slice b0 x0.length d0,.bool x1] 128 (0,0))=w2 at *;generalize wr.heap.size=gx at *;clear q0 q1 hp hw Au hpj hwj
    have hs2:(aV [44,32] ((l.map tx).take j)).length+(if j=0 then 0 else 2)+txx.length<=(aV [44,32] (l.map tx)).length:=by
     exact U40
    clear hlen
    by_cases hj0:j=0
    .
     subst hj0;have hq1:((0:Nat):Int)=0:=rfl;have HQ:=HC w2 _ _ (hwa.below HB.out h0 Bd) hpa V49;clear HC;obtain⟨r0,r1⟩:=xb.c2;go_wp2_with fail;rw[hE,Oper.upon_enter];refine HQ.mono ?_;rintro e w3 ⟨rfl,⟨v3,hp3⟩,hq⟩;clear HQ r0 r1;exact U64
    .
     have hpos':(0:Int)<(j:Int):=V6;rw[if_neg hj0]at hs2
     have HQ:=eW [⟨#[44]⟩] w2.heap.size 1 1 (w2.alloc (.cells #[.string ⟨#[44]⟩] 9)) base g _ _ (hpa.grown (aC w2 _ none)) rfl (Blk.new w2 9 [.string ⟨#[44]⟩]) (by have:=hpa.blk.lt;omega) V61 hg
     rw[vS]at HQ;go_wp2_with fail;refine HQ.mono ?_;rintro e w3 ⟨rfl,⟨v3,hp3⟩,hq⟩
     have hq3:aL base (some g) w2 w3:=(aL.of (aC w2 (.cells #[.string ⟨#[44]⟩] 9) none)).trans hq
     replace xb:=hq3.blk xb V7 An;have hw3:=hwa.trans hq3;clear HQ hq hq3 hwa hpa;have HQ:=HC w3 _ _ (hw3.below HB.out h0 Bd) hp3 V11;clear HC;obtain⟨r0,r1⟩:=xb.c2;go_wp2_with fail;rw[hE,Oper.upon_enter];refine HQ.mono ?_;rintro e w4 ⟨rfl,⟨v4,hp4⟩,hq⟩;clear HQ r0 r1;exact U60
   .
    have:j=n:=V6
    subst this;have HF:=HFN.out wr V44 hwj.out;exact U52
end Go.Proofs.YtnelibmaancmkaaGreatDoor

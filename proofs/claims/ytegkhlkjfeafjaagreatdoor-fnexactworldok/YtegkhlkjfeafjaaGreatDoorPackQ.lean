import Derived.Test.YtegkhlkjfeafjaaGreatDoorPrSt
namespace Go.Proofs.YtegkhlkjfeafjaaGreatDoor
open Go.RowKit
set_option linter.unusedVariables false
set_option linter.unusedSimpArgs false
set_option maxRecDepth 100000
set_option maxHeartbeats 2000000
theorem aBt (l m:List St):prB (l++m)=prB l++prB m:=by
 induction l with
 | nil=>simp[prB]
 | cons x l ih=>simp[prB,ih]
theorem qQ {l:List St}{j:Nat}{x:St}(h:l[j]?=some x):prB (l.take (j+1))=prB (l.take j)++prS x:=by
 obtain⟨hk,rfl⟩:=zC1.1 h;rw[zF1 hk,aBt];simp[prB]
theorem gJ (l:List St)(j:Nat):(prB (l.take j)).length<=(prB l).length:=by
 have:=aBt (l.take j) (l.drop j)
 rw[List.take_append_drop]at this;rw[this,zA1];omega
set_option maxHeartbeats 4000000 in
theorem vV (l:List St)(H:∀x ∈ l,aPc x):jZ l:=by
 intro w0 w a c base g L v hT hr hb h0 hg hp hok Bb
 have Bd:∀k,some g=some k->w0.heap.size<=k:=by intro k e;cases e;omega
 have hml:(sts l).length=l.length:=by simp[aM]
 have hn9:l.length<=9223372036854775807:=by have h1:=hr.cap;have h2:=hr.most;unfold maxLen at h2;omega
 have hokk:∀x ∈ l,sM x=true:=by rw[lQ,zF3]at hok;exact hok
 have HH:Hid (∀x ∈ l,aPc x/\sM x=true):=fun x hx=>⟨H x hx,hokk x hx⟩
 have HR:=hid hr;have HTt:=hid hT;have HB:=hid hb
 have HP1:Hid (∃v',Pg w base g (L++prB (l.take 0)) v'):=⟨v,by simpa [prB] using hp⟩
 clear H hT hb hok hokk hp;generalize hnn:l.length=n at *;have Hn:=hid hnn;clear hnn
 rcases zG0 n with hz|Am
 .
  subst hz;have e0:=zE0 Hn.out;subst e0;clear hr hml;go_enter Tryz.func223,Tryz.ntmps223;go_wp2_with fail;refine zH2 1 ?_;rw[zE2];go_wp2_with fail
  have h1:∃v',Pg w base g (L++prB []) v':=by simpa using HP1.out
  exact bodyPost_end (results_none rfl _ _ _) rfl ⟨rfl,h1,aL.refl _ _ _⟩
 .
  obtain⟨b,off,rfl⟩:=hr.addr (by rw[hml];exact Am)
  clear hr hml;go_enter Tryz.func223,Tryz.ntmps223;go_wp2_with fail
  go_loopw [5,8] (fun _ i wr=>∃j:Nat,j<=n/\i=.int .i64 j/\Hid (∃v',Pg wr base g (L++prB (l.take j)) v')/\Hid (aL base (some g) w wr)) (fun _ i _=>n-(intOf i).toNat)
  case atStart=>exact⟨0,zD1 _,rfl,HP1,aL.refl _ _ _⟩
  case round=>
   obtain⟨j,hj,rfl,hpj,hwj⟩:=hrel;clear HP1
   by_cases Ai:j<n
   .
    refine M9242 ?_;intro v1 hp hw x hx
    have Ak:(sts l)[j]?=some x.fl:=by rw[aM,zA2,hx];rfl
    obtain⟨vs,Ad,Ab⟩:=(aS.el HR.out Ak).vals;obtain⟨HX,hxo⟩:=HH.out x (zA3 hx);have hbr:=hw.below HB.out h0 Bd;have HJ:=hid (qQ hx)
    have hlen:(prB (l.take j)).length+(prS x).length<=(prB l).length:=by have h1:=gJ l (j+1);rw[qQ hx,zA1]at h1;exact h1
    have HC:∀wz Lz vz,Below w0.heap.size w0 wz->Pg wz base g Lz vz->Lz.length+(prS x).length<=1000000000->Calls Tryz.prog 236 #[.pointer (some ⟨g,0,none⟩),agg vs] wz fun e w'=>e=.returned (.tuple #[])/\(∃v',Pg w' base g (Lz++prS x) v')/\aL base (some g) wz w':=fun wz Lz vz h1 h2 h3=>HX w0 wz vs base g Lz vz HTt.out Ad h1 h0 hg h2 hxo h3
    clear HX hxo hx Ak;generalize prS x=txx at *;obtain⟨x0,x1,x2,x3,x4,x5⟩:=x;unfold St.fl at Ad;obtain⟨y0,_,rfl,rfl,y1,_,rfl,rfl,y2,_,rfl,⟨b2,d2,rfl,_⟩,y3,_,rfl,⟨b3,d3,rfl,_⟩,y4,_,rfl,⟨b4,d4,rfl,_⟩,y5,_,rfl,⟨b5,d5,rfl,_⟩,rfl⟩:=Ad;generalize (exs x3).length=m3 at *;generalize (sts x4).length=m4 at *;generalize (sts x5).length=m5 at *
    replace Ab:∀i v,_->_:=fun i v hv=>aB (Ab i v hv) hbr
    have q0:wr.cell? ⟨b,off+j*6,none⟩=some (.int .i64 x0):=Ab 0 _ rfl
    have q1:wr.cell? ⟨b,off+j*6+1,none⟩=some (.int .i64 x1):=Ab 1 _ rfl
    have q2:wr.cell? ⟨b,off+j*6+2,none⟩=some (.slice b2 x2.length d2):=Ab 2 _ rfl
    have q3:wr.cell? ⟨b,off+j*6+3,none⟩=some (.slice b3 m3 d3):=Ab 3 _ rfl
    have q4:wr.cell? ⟨b,off+j*6+4,none⟩=some (.slice b4 m4 d4):=Ab 4 _ rfl
    have q5:wr.cell? ⟨b,off+j*6+5,none⟩=some (.slice b5 m5 d5):=Ab 5 _ rfl
    clear Ab;have xb:=Blk.new wr 129 [.int .i64 x0,.int .i64 x1,.slice b2 x2.length d2,.slice b3 m3 d3,.slice b4 m4 d4,.slice b5 m5 d5]
    have hwa:aL base (some g) w (wr.alloc (.cells #[.int .i64 x0,.int .i64 x1,.slice b2 x2.length d2,.slice b3 m3 d3,.slice b4 m4 d4,.slice b5 m5 d5] 129 (0,0))):=hw.trans (aL.of (aC wr _ none))
    have hpa:=hp.grown (aC wr (.cells #[.int .i64 x0,.int .i64 x1,.slice b2 x2.length d2,.slice b3 m3 d3,.slice b4 m4 d4,.slice b5 m5 d5] 129 (0,0)) none);simp only[agg]at HC;go_upto_region 3 with fail;generalize wr.alloc (.cells #[.int .i64 x0,.int .i64 x1,.slice b2 x2.length d2,.slice b3 m3 d3,.slice b4 m4 d4,.slice b5 m5 d5] 129 (0,0))=w2 at *;generalize wr.heap.size=gx at *;clear q0 q1 q2 q3 q4 q5 hp hw hbr hpj hwj
    have HQ:=HC w2 _ _ (hwa.below HB.out h0 Bd) hpa (by simp only[zA1];omega)
    clear HC;obtain⟨r0,r1,r2,r3,r4,r5⟩:=xb.c6;go_wp2_with fail;refine HQ.mono ?_;rintro e w3 ⟨rfl,⟨v3,hp3⟩,hq⟩;clear HQ r0 r1 r2 r3 r4 r5
    have HP3:Hid (∃v',Pg w3 base g (L++prB (l.take (j+1))) v'):=⟨v3,by rw[HJ.out];simpa [zD0] using hp3⟩
    have HW3:=hid (hwa.trans hq);clear hp3 hq hwa hpa xb;go_wp2;go_roundw
    case rel=>exact⟨j+1,by omega,by go_num,HP3,HW3⟩
    case measure=>simp[intOf];omega
   .
    have:j=n:=by omega
    subst this
    have h1:∃v',Pg wr base g (L++prB l) v':=by have:=hpj.out;rwa [zD3 (by rw[Hn.out];exact zB0 _)]at this
    have h2:=hwj.out;go_wp2_with fail;exact bodyPost_end (results_none rfl _ _ _) rfl ⟨rfl,h1,h2⟩
theorem aHy {x:St}(h:sM x=true->aPc x):aPc x:=by
 exact U139
mutual
theorem aNh:∀x:St,aPc x
 | .mk k n a ks bs es=>aHy fun hok=>by
  have hB:=vV bs (aBn bs);have hE:=vV es (aBn es);have hS:=aH1 ks;obtain⟨hloc,_⟩:=bG hok;obtain⟨h1,h3,h4,_⟩:=lK hloc
  have h8:k=0\/k=1\/k=2\/k=3\/k=4\/k=5\/k=6\/k=7:=by omega
  rcases h8 with rfl|rfl|rfl|rfl|rfl|rfl|rfl|rfl
  .
   simp[bS]at h1
   match ks,h1,hS with
   | [e0],_,hS=>exact aLy n a e0 (hS e0 V15) bs es hB hE
  .
   simp[bS]at h1
   match ks,h1,hS with
   | [e0,e1],_,hS=>exact aLx n a e0 (hS e0 V15) e1 (hS e1 V15) bs es hB hE
  .
   simp[bS]at h1
   match ks,h1,hS with
   | [e0],_,hS=>exact aLw n a e0 (hS e0 V15) bs es hB hE
  .
   simp[bS]at h1
   match ks,h1,hS with
   | [e0],_,hS=>exact aLv n a e0 (hS e0 V15) bs es hB hE
  .
   simp[bS]at h1
   match ks,h1,hS with
   | [e0],_,hS=>exact aLu n a e0 (hS e0 V15) bs es hB hE
  .
   simp[bS]at h1
   match ks,h1,hS with
   | [e0],_,hS=>exact aLt n a e0 (hS e0 V15) bs es hB hE
  .
   simp[bS]at h1
   subst h1;exact aLs n a bs es hB hE
  .
   simp[bS]at h1
   match ks,h1,hS with
   | [e0],_,hS=>exact aLr n a e0 (hS e0 V15) bs es hB hE
theorem aBn:∀(l:List St),∀x ∈ l,aPc x
 | [],x,h=>by simp at h
 | y :: l,x,h=>by
  rcases zH0.1 h with h|h
  .
   rw[h];exact aNh y
  .
   exact aBn l x h
end
theorem V102{p:Prop}(h:p:=by rw[Af];first|(simp only[zA1,zB1,zC3];omega)|omega):p:=h
theorem V17{p:Prop}(h:p:=by first|assumption|exact An):p:=h
theorem M9188{p q:Prop}(k:q)(h:Kx q->p:=by
 intro kQ
 have hp:=Bs
 replace x0:=hq.blk x0 V7 V17
 replace hb:=hq.below hb h0 Bd
 replace hw:=hw.trans hq
 revert hw;revert hb;revert x0;revert hp
 exact kQ.o):p:=h ⟨k⟩
theorem M9216{p q:Prop}(k:q)(h:Kx q->p:=by
 intro kQ
 obtain⟨q0,q1⟩:=x0.c2
 have kc:=aT c0 (h2.below hb)
 have Af:aR [⟨#[86,65,82]⟩,(strOfNums name)]=([86,65,82,32])++(name++[32]):=by rw[lP,iB,hpn]
 have HQ:=eW [⟨#[86,65,82]⟩,(strOfNums name)] w1.heap.size 2 2 (w1.alloc (.cells #[.string ⟨#[86,65,82]⟩,.string (strOfNums name)] 9)) base g _ _ (hp.grown (aC w1 _ none)) rfl (Blk.new w1 9 [.string ⟨#[86,65,82]⟩,.string (strOfNums name)]) V12 V102 hg
 rw[Af]at HQ
 revert HQ;revert Af;revert kc;revert q1;revert q0
 exact kQ.o):p:=h ⟨k⟩
theorem M9109{p q:Prop}(k:q)(h:Kx q->p:=by
 intro kQ
 have x0:=Blk.new w 123 [.slice a0 name.length c0,.int .i64 size]
 have hw:aL base (some g) w (w.alloc (.cells #[.slice a0 name.length c0,.int .i64 size] 123 (0,0))):=aL.of (aC w _ none)
 replace hb:Below w0.heap.size w0 (w.alloc (.cells #[.slice a0 name.length c0,.int .i64 size] 123 (0,0))):=hb.alloc hb.size _
 replace hp:=hp.grown (aC w (.cells #[.slice a0 name.length c0,.int .i64 size] 123 (0,0)) none)
 revert hp;revert hb;revert hw;revert x0
 exact kQ.o):p:=h ⟨k⟩
theorem M9234{p q:Prop}(k:q)(h:Kx q->p:=by
 intro kQ
 rw[he]at Bb
 simp only[zA1,zB1,zC3]at Bb
 have HE:=hid he
 have hpn:=cD (g:=false) h2.2.1 hnm
 revert hpn;revert HE;revert Bb
 exact kQ.o):p:=h ⟨k⟩
theorem M9244{p q:Prop}(k:q)(h:Kx q->p:=by
 intro kQ
 have Af:aR [⟨#[59]⟩]=([59,10]):=by rw[dP]
 have HQ:=eW [⟨#[59]⟩] w4.heap.size 1 1 (w4.alloc (.cells #[.string ⟨#[59]⟩] 9)) base g _ _ (hp.grown (aC w4 _ none)) rfl (Blk.new w4 9 [.string ⟨#[59]⟩]) V12 V102 hg
 rw[Af]at HQ
 revert HQ;revert Af
 exact kQ.o):p:=h ⟨k⟩
theorem lP (a b:ByteArray):aR [a,b]=aR [a]++aR [b]:=by simp[aR]
theorem lO (a b c:ByteArray):aR [a,b,c]=aR [a]++aR [b]++aR [c]:=by simp[aR]
theorem aBq (name:List Int)(hnm:aK name false=true):aAk 222 (Pa.fl ⟨name,true⟩) (nN ⟨name,true⟩):=by
 intro w0 w vs base g l v hT hr hb h0 hg hp Bb;obtain⟨y0,_,rfl,⟨a0,c0,rfl,h2,hc2,_⟩,y1,_,rfl,rfl,rfl⟩:=hr;simp only[agg];refine M915 ?_;intro hgl An Bd;have x0:=Blk.new w 126 [.slice a0 name.length c0,.bool true]
 have hw:aL base (some g) w (w.alloc (.cells #[.slice a0 name.length c0,.bool true] 126 (0,0))):=aL.of (aC w _ none)
 replace hb:Below w0.heap.size w0 (w.alloc (.cells #[.slice a0 name.length c0,.bool true] 126 (0,0))):=hb.alloc hb.size _
 replace hp:=hp.grown (aC w (.cells #[.slice a0 name.length c0,.bool true] 126 (0,0)) none);go_enter Tryz.func222,Tryz.ntmps222;go_upto_region 1 with fail;generalize w.alloc (.cells #[.slice a0 name.length c0,.bool true] 126 (0,0))=w1 at *;generalize w.heap.size=gx at *;clear hgl
 have he:nN ⟨name,true⟩=([64,32])++(name++[32]):=by simp[nN]
 refine M9234 ?_;clear Bb he;intro Bb HE hpn
 simp only at h2 hc2 x0 hw hp hpn ⊢
 obtain⟨q0,q1⟩:=x0.c2
 have Af:aR [⟨#[64]⟩]=([64,32]):=by rw[aBj]
 have HQ:=eW [⟨#[64]⟩] w1.heap.size 1 1 (w1.alloc (.cells #[.string ⟨#[64]⟩] 9)) base g _ _ (hp.grown (aC w1 _ none)) rfl (Blk.new w1 9 [.string ⟨#[64]⟩]) V12 V102 hg;rw[Af]at HQ;clear Af;go_wp2_with fail;refine HQ.mono ?_;rintro e w2 ⟨rfl,⟨v',Bs⟩,hq⟩;clear q0 q1;replace hq:=(aL.of (aC w1 (.cells #[.string ⟨#[64]⟩] 9) none)).trans hq;clear HQ hp;refine M9188 ?_;clear Bs x0 hb hw;intro hp x0 hb hw;clear hq;obtain⟨q0,q1⟩:=x0.c2;have kc:=aT c0 (h2.below hb)
 have Af:aR [(strOfNums name)]=(name++[32]):=by rw[hpn]
 have HQ:=eW [(strOfNums name)] w2.heap.size 1 1 (w2.alloc (.cells #[.string (strOfNums name)] 9)) base g _ _ (hp.grown (aC w2 _ none)) rfl (Blk.new w2 9 [.string (strOfNums name)]) V12 V102 hg;rw[Af]at HQ;clear Af;go_wp2_with fail;refine HQ.mono ?_;rintro e w3 ⟨rfl,⟨v',Bs⟩,hq⟩;clear q0 q1;replace hq:=(aL.of (aC w2 (.cells #[.string (strOfNums name)] 9) none)).trans hq;clear HQ hp;refine M9188 ?_;clear Bs x0 hb hw;intro hp x0 hb hw;clear hq;obtain⟨q0,q1⟩:=x0.c2;go_wp2_with fail
 have Bq:∃v',Pg w3 base g (l++nN ⟨name,true⟩) v':=⟨_,by rw[HE.out];simpa [zD0] using hp⟩
 exact U10
theorem yV (name:List Int)(hnm:aK name false=true):aAk 222 (Pa.fl ⟨name,false⟩) (nN ⟨name,false⟩):=by
 intro w0 w vs base g l v hT hr hb h0 hg hp Bb;obtain⟨y0,_,rfl,⟨a0,c0,rfl,h2,hc2,_⟩,y1,_,rfl,rfl,rfl⟩:=hr;simp only[agg];refine M915 ?_;intro hgl An Bd;have x0:=Blk.new w 126 [.slice a0 name.length c0,.bool false]
 have hw:aL base (some g) w (w.alloc (.cells #[.slice a0 name.length c0,.bool false] 126 (0,0))):=aL.of (aC w _ none)
 replace hb:Below w0.heap.size w0 (w.alloc (.cells #[.slice a0 name.length c0,.bool false] 126 (0,0))):=hb.alloc hb.size _
 replace hp:=hp.grown (aC w (.cells #[.slice a0 name.length c0,.bool false] 126 (0,0)) none);go_enter Tryz.func222,Tryz.ntmps222;go_upto_region 1 with fail;generalize w.alloc (.cells #[.slice a0 name.length c0,.bool false] 126 (0,0))=w1 at *;generalize w.heap.size=gx at *;clear hgl
 have he:nN ⟨name,false⟩=(name++[32]):=by simp[nN]
 refine M9234 ?_;clear Bb he;intro Bb HE hpn
 simp only at h2 hc2 x0 hw hp hpn ⊢
 obtain⟨q0,q1⟩:=x0.c2;have kc:=aT c0 (h2.below hb)
 have Af:aR [(strOfNums name)]=(name++[32]):=by rw[hpn]
 have HQ:=eW [(strOfNums name)] w1.heap.size 1 1 (w1.alloc (.cells #[.string (strOfNums name)] 9)) base g _ _ (hp.grown (aC w1 _ none)) rfl (Blk.new w1 9 [.string (strOfNums name)]) V12 V102 hg;rw[Af]at HQ;clear Af;go_wp2_with fail;refine HQ.mono ?_;rintro e w2 ⟨rfl,⟨v',Bs⟩,hq⟩;clear q0 q1;replace hq:=(aL.of (aC w1 (.cells #[.string (strOfNums name)] 9) none)).trans hq;clear HQ hp;refine M9188 ?_;clear Bs x0 hb hw;intro hp x0 hb hw;clear hq;obtain⟨q0,q1⟩:=x0.c2;go_wp2_with fail
 have Bq:∃v',Pg w2 base g (l++nN ⟨name,false⟩) v':=⟨_,by rw[HE.out];simpa [zD0] using hp⟩
 exact U10
theorem aBp (a:Pa)(h:aAl a=true):aAk 222 a.fl (nN a):=by
 obtain⟨name,arr⟩:=a;cases arr
 .
  exact yV name h
 .
  exact aBq name h
theorem aBm (name:List Int)(size:Int)(hnm:aK name false=true)(hs:0<size)(hs2:size<=20):aAk 200 (Va.fl ⟨name,size⟩) (dG ⟨name,size⟩):=by
 intro w0 w vs base g l v hT hr hb h0 hg hp Bb;obtain⟨y0,_,rfl,⟨a0,c0,rfl,h2,hc2,_⟩,y1,_,rfl,rfl,rfl⟩:=hr;simp only[agg];refine M915 ?_;intro hgl An Bd;refine M9109 ?_;clear hb hp;intro x0 hw hb hp;go_enter Tryz.func200,Tryz.ntmps200;go_upto_region 1 with fail;generalize w.alloc (.cells #[.slice a0 name.length c0,.int .i64 size] 123 (0,0))=w1 at *;generalize w.heap.size=gx at *;clear hgl
 have he:dG ⟨name,size⟩=([86,65,82,32])++(name++[32])++([91,32])++(fI size++[32])++([93,32])++([59,10]):=by simp[dG,hs]
 refine M9234 ?_;clear Bb he;intro Bb HE hpn
 simp only at h2 hc2 x0 hw hp hpn ⊢
 refine M9216 ?_;intro q0 q1 kc Af HQ;clear Af;go_wp2_with fail;refine HQ.mono ?_;rintro e w2 ⟨rfl,⟨v',Bs⟩,hq⟩;clear q0 q1;replace hq:=(aL.of (aC w1 (.cells #[.string ⟨#[86,65,82]⟩,.string (strOfNums name)] 9) none)).trans hq;clear HQ hp;refine M9188 ?_;clear Bs x0 hb hw;intro hp x0 hb hw;clear hq;obtain⟨q0,q1⟩:=x0.c2;clear kc;have HQ:=aIm size V6 V6 w2 (hT.below hb);go_wp2_with fail;refine HQ.mono ?_;rintro e w3 ⟨rfl,hq⟩;clear HQ;clear q0 q1;replace hp:=hp.grown hq
 replace hq:aL base (some g) w2 w3:=aL.of hq
 replace x0:=hq.blk x0 V7 V17;replace hb:=hq.below hb h0 Bd;replace hw:=hw.trans hq;clear hq;obtain⟨q0,q1⟩:=x0.c2
 have Af:aR [⟨#[91]⟩,⟨(Lib.itoa size).toArray⟩,⟨#[93]⟩]=([91,32])++(fI size++[32])++([93,32]):=by rw[lO,sG,gU,aOt]
 have HQ:=eW [⟨#[91]⟩,⟨(Lib.itoa size).toArray⟩,⟨#[93]⟩] w3.heap.size 3 3 (w3.alloc (.cells #[.string ⟨#[91]⟩,.string ⟨(Lib.itoa size).toArray⟩,.string ⟨#[93]⟩] 9)) base g _ _ (hp.grown (aC w3 _ none)) rfl (Blk.new w3 9 [.string ⟨#[91]⟩,.string ⟨(Lib.itoa size).toArray⟩,.string ⟨#[93]⟩]) V12 V102 hg;rw[Af]at HQ;clear Af;go_wp2_with fail;refine HQ.mono ?_;rintro e w4 ⟨rfl,⟨v',Bs⟩,hq⟩;clear q0 q1;replace hq:=(aL.of (aC w3 (.cells #[.string ⟨#[91]⟩,.string ⟨(Lib.itoa size).toArray⟩,.string ⟨#[93]⟩] 9) none)).trans hq;clear HQ hp;refine M9188 ?_;clear Bs x0 hb hw;intro hp x0 hb hw;clear hq;obtain⟨q0,q1⟩:=x0.c2;refine M9244 ?_;intro Af HQ;clear Af;go_wp2_with fail;refine HQ.mono ?_;rintro e w5 ⟨rfl,⟨v',Bs⟩,hq⟩;clear q0 q1;replace hq:=(aL.of (aC w4 (.cells #[.string ⟨#[59]⟩] 9) none)).trans hq;clear HQ hp;refine M9188 ?_;clear Bs x0 hb hw;intro hp x0 hb hw;clear hq;obtain⟨q0,q1⟩:=x0.c2;go_wp2_with fail
 have Bq:∃v',Pg w5 base g (l++dG ⟨name,size⟩) v':=⟨_,by rw[HE.out];simpa [zD0] using hp⟩
 exact U10
theorem aEi (name:List Int)(size:Int)(hnm:aK name false=true)(hs:¬0<size)(hs2:size<=20):aAk 200 (Va.fl ⟨name,size⟩) (dG ⟨name,size⟩):=by
 intro w0 w vs base g l v hT hr hb h0 hg hp Bb;obtain⟨y0,_,rfl,⟨a0,c0,rfl,h2,hc2,_⟩,y1,_,rfl,rfl,rfl⟩:=hr;simp only[agg];refine M915 ?_;intro hgl An Bd;refine M9109 ?_;clear hb hp;intro x0 hw hb hp;go_enter Tryz.func200,Tryz.ntmps200;go_upto_region 1 with fail;generalize w.alloc (.cells #[.slice a0 name.length c0,.int .i64 size] 123 (0,0))=w1 at *;generalize w.heap.size=gx at *;clear hgl
 have he:dG ⟨name,size⟩=([86,65,82,32])++(name++[32])++([59,10]):=by simp[dG,hs]
 refine M9234 ?_;clear Bb he;intro Bb HE hpn
 simp only at h2 hc2 x0 hw hp hpn ⊢
 refine M9216 ?_;intro q0 q1 kc Af HQ;clear Af;go_wp2_with fail;refine HQ.mono ?_;rintro e w2 ⟨rfl,⟨v',Bs⟩,hq⟩;clear q0 q1;replace hq:=(aL.of (aC w1 (.cells #[.string ⟨#[86,65,82]⟩,.string (strOfNums name)] 9) none)).trans hq;clear HQ hp;refine M9188 ?_;clear Bs x0 hb hw;intro hp x0 hb hw;clear hq;obtain⟨q0,q1⟩:=x0.c2;clear kc
 have Af:aR [⟨#[59]⟩]=([59,10]):=by rw[dP]
 have HQ:=eW [⟨#[59]⟩] w2.heap.size 1 1 (w2.alloc (.cells #[.string ⟨#[59]⟩] 9)) base g _ _ (hp.grown (aC w2 _ none)) rfl (Blk.new w2 9 [.string ⟨#[59]⟩]) V12 V102 hg;rw[Af]at HQ;clear Af;go_wp2_with fail;refine HQ.mono ?_;rintro e w3 ⟨rfl,⟨v',Bs⟩,hq⟩;clear q0 q1;replace hq:=(aL.of (aC w2 (.cells #[.string ⟨#[59]⟩] 9) none)).trans hq;clear HQ hp;refine M9188 ?_;clear Bs x0 hb hw;intro hp x0 hb hw;clear hq;obtain⟨q0,q1⟩:=x0.c2;go_wp2_with fail
 have Bq:∃v',Pg w3 base g (l++dG ⟨name,size⟩) v':=⟨_,by rw[HE.out];simpa [zD0] using hp⟩
 exact U10
theorem yU (a:Va)(h:lF a=true):aAk 200 a.fl (dG a):=by
 obtain⟨name,size⟩:=a;simp only[lF,inB,zC0,zE3]at h
 by_cases hs:0<size
 .
  exact aBm name size h.1 hs h.2.2
 .
  exact aEi name size h.1 hs h.2.2
theorem V82{p:Prop}(h:p:=by rw[HXN.out];omega):p:=h
theorem U286{p:Prop}(h:p:=by
 go_wp2
 go_roundw
 case rel=>exact⟨j+1,by omega,by go_num,⟨v',by rw[HJ.out,<-zD0];exact HP3.out⟩,HW3⟩
 case measure=>simp[intOf];omega):p:=h
theorem M9203{p q:Prop}(k:q)(h:Kx q->p:=by
 intro kQ
 have hxo:=HOK.out x (zA3 hx)
 have hpn:=cD (g:=false) hbx.2.1 hxo
 have r0:=aB (Ab 0 _ rfl) hb
 simp only[zG2,Nat.mul_one]at r0
 have kc:=aT cx (hbx.below hb)
 simp only[aX,zA1,zB1,zC3]at hlen
 have Af:aR [⟨#[86,65,82]⟩,(strOfNums x),⟨#[59]⟩]=aX x:=by rw[lO,iB,hpn,dP];rfl
 have HQ:=eW [⟨#[86,65,82]⟩,(strOfNums x),⟨#[59]⟩] wr.heap.size 3 3 (wr.alloc (.cells #[.string ⟨#[86,65,82]⟩,.string (strOfNums x),.string ⟨#[59]⟩] 9)) base g _ _ (hp.grown (aC wr _ none)) rfl (Blk.new wr 9 [.string ⟨#[86,65,82]⟩,.string (strOfNums x),.string ⟨#[59]⟩]) V12 (by rw[Af];simp only[aX,zA1,zB1,zC3];omega) hg
 rw[Af]at HQ
 revert HQ;revert Af;revert hlen;revert kc;revert r0;revert hpn;revert hxo
 exact kQ.o):p:=h ⟨k⟩
theorem M9221{p q:Prop}(k:q)(h:Kx q->p:=by
 intro kQ
 obtain⟨v1,hp⟩:=hpj.out
 have hw:=hwj.out
 obtain⟨x,hx⟩:∃x,locals[j]?=some x:=⟨locals[j],zA0 _⟩
 have hb:=hw.below HSB.out h0 Bd
 have HJ:Hid ((locals.take (j+1)).flatMap aX=(locals.take j).flatMap aX++aX x):=dJ hx
 have hlen:((locals.take j).flatMap aX).length+(aX x).length<=(locals.flatMap aX).length:=by have h1:=fD aX locals (j+1);rw[dJ hx,zA1]at h1;exact h1
 revert hlen;revert HJ;revert hb;revert hx;revert x;revert hw;revert hp;revert v1
 exact kQ.o):p:=h ⟨k⟩
theorem dJ {α:Type}{f:α->List Int}{l:List α}{j:Nat}{x:α}(h:l[j]?=some x):(l.take (j+1)).flatMap f=(l.take j).flatMap f++f x:=by
 obtain⟨hk,rfl⟩:=zC1.1 h;rw[zF1 hk,List.flatMap_append];simp
theorem fD {α:Type}(f:α->List Int)(l:List α)(j:Nat):((l.take j).flatMap f).length<=(l.flatMap f).length:=by
 conv=>rhs;rw[<-List.take_append_drop j l,List.flatMap_append,zA1]
 omega
set_option maxHeartbeats 4000000 in
theorem aHz (name:List Int)(opn:Bool)(params:List Pa)(locals:List (List Int))(body:List St)(hnm:aK name false=true)(hpok:∀x ∈ params,aAl x=true)(hlok:∀x ∈ locals,iR x=true)(hbok:fC body=true):aAk 201 (Pr.fl ⟨name,opn,params,locals,body⟩) (cG ⟨name,opn,params,locals,body⟩):=by
 intro w0 w vs base g l v hT hr hb h0 hg hp Bb;obtain⟨y0,_,rfl,⟨a0,c0,rfl,h2,hc2,_⟩,y1,_,rfl,rfl,y2,_,rfl,hP',y3,_,rfl,hL',y4,_,rfl,hB',rfl⟩:=hr;obtain⟨a2,c2,rfl,hP⟩:=hP'.list;obtain⟨a3,c3,rfl,hL⟩:=hL'.list;obtain⟨a4,c4,rfl,hB⟩:=hB'.list;clear hP' hL' hB'
 simp only at h2 hc2 hP hL hB ⊢
 have k2:(params.map Pa.fl).length=params.length:=by simp
 have k3:(bH locals).length=locals.length:=by simp[bH]
 have k4:(sts body).length=body.length:=by simp[aM]
 have n3:locals.length<=9223372036854775807:=by have h5:=hL.cap;have h6:=hL.most;unfold maxLen at h6;omega
 rw[k2,k3,k4];simp only[agg];refine M915 ?_;intro hgl An Bd;have x0:=Blk.new w 95 [.slice a0 name.length c0,.bool opn,.slice a2 params.length c2,.slice a3 locals.length c3,.slice a4 body.length c4]
 have hw:aL base (some g) w (w.alloc (.cells #[.slice a0 name.length c0,.bool opn,.slice a2 params.length c2,.slice a3 locals.length c3,.slice a4 body.length c4] 95 (0,0))):=aL.of (aC w _ none)
 replace hb:Below w0.heap.size w0 (w.alloc (.cells #[.slice a0 name.length c0,.bool opn,.slice a2 params.length c2,.slice a3 locals.length c3,.slice a4 body.length c4] 95 (0,0))):=hb.alloc hb.size _
 replace hp:=hp.grown (aC w (.cells #[.slice a0 name.length c0,.bool opn,.slice a2 params.length c2,.slice a3 locals.length c3,.slice a4 body.length c4] 95 (0,0)) none);go_enter Tryz.func201,Tryz.ntmps201;go_upto_region 1 with fail;generalize w.alloc (.cells #[.slice a0 name.length c0,.bool opn,.slice a2 params.length c2,.slice a3 locals.length c3,.slice a4 body.length c4] 95 (0,0))=w1 at *;generalize w.heap.size=gx at *;clear hgl;simp only[cG,zA1,zB1,zC3]at Bb
 have hsz2:l.length+(6+name.length+(if opn then 2 else 0)+(brI (params.map nN)).length+2+(locals.flatMap aX).length+6+(prB body).length+6)<=1000000000:=by
  simp only[brI,zA1,zB1,zC3]
  cases opn <;> simp at Bb ⊢ <;> omega
 clear Bb;have hpn:=cD (g:=false) h2.2.1 hnm
 obtain⟨LO,hLO⟩:∃x:List Int,x=(if opn then [42,32] else []):=⟨_,rfl⟩
 have hLOl:LO.length=if opn then 2 else 0:=by rw[hLO];cases opn <;> rfl
 rw[<-hLOl]at hsz2;obtain⟨q0,q1,q2,q3,q4⟩:=x0.c5;have kc:=aT c0 (h2.below hb)
 have Af:aR [⟨#[80,82,79,67]⟩,(strOfNums name)]=([80,82,79,67,32])++(name++[32]):=by rw[lP,oH,hpn]
 have HQ:=eW [⟨#[80,82,79,67]⟩,(strOfNums name)] w1.heap.size 2 2 (w1.alloc (.cells #[.string ⟨#[80,82,79,67]⟩,.string (strOfNums name)] 9)) base g _ _ (hp.grown (aC w1 _ none)) rfl (Blk.new w1 9 [.string ⟨#[80,82,79,67]⟩,.string (strOfNums name)]) V12 V102 hg;rw[Af]at HQ;clear Af;go_wp2_with fail;refine HQ.mono ?_;rintro e w2 ⟨rfl,⟨v',Bs⟩,hq⟩;clear q0 q1 q2 q3 q4;replace hq:=(aL.of (aC w1 (.cells #[.string ⟨#[80,82,79,67]⟩,.string (strOfNums name)] 9) none)).trans hq;clear HQ hp;have hp:=Bs;clear Bs;replace x0:=hq.blk x0 V7 V17;refine M9184 ?_;clear hb hw hq;intro hb hw q0 q1 q2 q3 q4;clear kc
 have HO:∃wO vO,True:=⟨w2,v,trivial⟩
 clear HO;cases opn
 .
  subst hLO;try simp only[if_true,if_false,Bool.false_eq_true,zB1,zC3]at hsz2
  have HQ:=nB 222 (cK Tryz.func222 rfl rfl) nN params (fun x hx=>aBp x (hpok x hx)) w0 w2 a2 c2 base g _ _ hT hP hb h0 hg hp V103
  go_wp2_with fail;refine HQ.mono ?_;rintro e w3 ⟨rfl,⟨v',Bs⟩,hq⟩;clear q0 q1 q2 q3 q4;clear HQ hp;have hp:=Bs;clear Bs;replace x0:=hq.blk x0 V7 V17;refine M9184 ?_;clear hb hw hq;intro hb hw q0 q1 q2 q3 q4
  have Af:aR [⟨#[59]⟩]=([59,10]):=by rw[dP]
  have HQ:=eW [⟨#[59]⟩] w3.heap.size 1 1 (w3.alloc (.cells #[.string ⟨#[59]⟩] 9)) base g _ _ (hp.grown (aC w3 _ none)) rfl (Blk.new w3 9 [.string ⟨#[59]⟩]) V12 V102 hg;rw[Af]at HQ;clear Af;go_wp2_with fail;refine HQ.mono ?_;rintro e w4 ⟨rfl,⟨v',Bs⟩,hq⟩;clear q0 q1 q2 q3 q4;replace hq:=(aL.of (aC w3 (.cells #[.string ⟨#[59]⟩] 9) none)).trans hq;clear HQ hp;have hp:=Bs;clear Bs;replace x0:=hq.blk x0 V7 V17;refine M9184 ?_;clear hb hw hq;intro hb hw q0 q1 q2 q3 q4;have HXL:=hid hL;have HXN:=hid k3;have HOK:=hid hlok;go_wp2_with fail;clear q0 q1 q2 q3 q4
  obtain⟨LA,hLA⟩:∃z,z=l++(([80,82,79,67,32])++(name++[32]))++brI (params.map nN)++(([59,10])):=⟨_,rfl⟩
  rw[<-hLA]at hp;have hlA:=congrArg List.length hLA;simp only[zA1,zB1,zC3]at hlA;have HSX:=hid hw;have HSB:=hid hb;have HSx:=hid x0
  have HSp:Hid (∃v',Pg w4 base g (LA++(locals.take 0).flatMap aX) v'):=⟨_,by simpa using hp⟩
  clear hp hw hb x0
  go_loopw [5,29] (fun _ i wr=>∃j:Nat,j<=locals.length/\i=.int .i64 j/\Hid (∃v',Pg wr base g (LA++(locals.take j).flatMap aX) v')/\Hid (aL base (some g) w4 wr)) (fun _ i _=>locals.length-(intOf i).toNat)
  case atStart=>exact⟨0,zD1 _,rfl,HSp,aL.refl _ _ _⟩
  case round=>
   obtain⟨j,hj,rfl,hpj,hwj⟩:=hrel;clear HSp
   by_cases Ai:j<locals.length
   .
    refine M9221 ?_;intro v1 hp hw x hx hb HJ hlen;obtain⟨bx,offx,rfl⟩:=aS.addr HXL.out V82
    obtain⟨vs,Ad,Ab⟩:=(aS.el HXL.out (show _=some [Fl.b x] by unfold bH;rw[zA2,hx];rfl)).vals
    obtain⟨y0,us,rfl,⟨ax,cx,rfl,hbx,_⟩,rfl⟩:=Ad;refine M9203 ?_;clear Ab hx hpj hwj hlen;intro hxo hpn r0 kc hlen Af HQ;clear Af;go_wp2_with fail;refine HQ.mono ?_;rintro e wq ⟨rfl,⟨v',Bs⟩,hq⟩;have HP3:=hid Bs
    have HW3:Hid (aL base (some g) w4 wq):=hw.trans ((aL.of (aC wr (.cells #[.string ⟨#[86,65,82]⟩,.string (strOfNums x),.string ⟨#[59]⟩] 9) none)).trans hq)
    clear HQ hp Bs hq hw hb r0 kc;exact U286
   .
    have:j=locals.length:=by omega
    subst this
    have hp:∃v',Pg wr base g (LA++locals.flatMap aX) v':=by have:=hpj.out;rwa [zD3 (zB0 _)]at this
    obtain⟨v1,hp⟩:=hp;have hw:=HSX.out.trans hwj.out;have hb:=hwj.out.below HSB.out h0 Bd;have x0:=hwj.out.blk HSx.out V7 An;clear hpj hwj HSX HSB HSx;generalize wr=w5 at *;obtain⟨q0,q1,q2,q3,q4⟩:=x0.c5
    have Af:aR [⟨#[66,69,71,73,78]⟩]=([66,69,71,73,78,10]):=by rw[iC]
    have HQ:=eW [⟨#[66,69,71,73,78]⟩] w5.heap.size 1 1 (w5.alloc (.cells #[.string ⟨#[66,69,71,73,78]⟩] 9)) base g _ _ (hp.grown (aC w5 _ none)) rfl (Blk.new w5 9 [.string ⟨#[66,69,71,73,78]⟩]) V12 V102 hg;rw[Af]at HQ;clear Af;go_wp2_with fail;refine HQ.mono ?_;rintro e w6 ⟨rfl,⟨v',Bs⟩,hq⟩;clear q0 q1 q2 q3 q4;replace hq:=(aL.of (aC w5 (.cells #[.string ⟨#[66,69,71,73,78]⟩] 9) none)).trans hq;clear HQ hp;have hp:=Bs;clear Bs;replace x0:=hq.blk x0 V7 V17;refine M9184 ?_;clear hb hw hq;intro hb hw q0 q1 q2 q3 q4;have HQ:=vV body (aBn body) w0 w6 a4 c4 base g _ _ hT hB hb h0 hg hp hbok V103;go_wp2_with fail;refine HQ.mono ?_;rintro e w7 ⟨rfl,⟨v',Bs⟩,hq⟩;clear q0 q1 q2 q3 q4;clear HQ hp;have hp:=Bs;clear Bs;replace x0:=hq.blk x0 V7 V17;refine M9184 ?_;clear hb hw hq;intro hb hw q0 q1 q2 q3 q4
    have Af:aR [⟨#[69,78,68]⟩,⟨#[59]⟩]=([69,78,68,32])++([59,10]):=by rw[lP,eM,dP]
    have HQ:=eW [⟨#[69,78,68]⟩,⟨#[59]⟩] w7.heap.size 2 2 (w7.alloc (.cells #[.string ⟨#[69,78,68]⟩,.string ⟨#[59]⟩] 9)) base g _ _ (hp.grown (aC w7 _ none)) rfl (Blk.new w7 9 [.string ⟨#[69,78,68]⟩,.string ⟨#[59]⟩]) V12 V102 hg;rw[Af]at HQ;clear Af;go_wp2_with fail;refine HQ.mono ?_;rintro e w8 ⟨rfl,⟨v',Bs⟩,hq⟩;clear q0 q1 q2 q3 q4;replace hq:=(aL.of (aC w7 (.cells #[.string ⟨#[69,78,68]⟩,.string ⟨#[59]⟩] 9) none)).trans hq;clear HQ hp;have hp:=Bs;clear Bs;replace x0:=hq.blk x0 V7 V17;refine M9184 ?_;clear hb hw hq;intro hb hw q0 q1 q2 q3 q4;go_wp2_with fail
    have Bq:∃v',Pg w8 base g (l++cG ⟨name,false,params,locals,body⟩) v':=⟨_,by rw[hLA]at hp;simpa [cG,brI,zD0] using hp⟩
    exact U10
 .
  subst hLO;try simp only[if_true,if_false,Bool.false_eq_true,zB1,zC3]at hsz2
  have Af:aR [⟨#[42]⟩]=([42,32]):=by rw[aF6]
  have HQ:=eW [⟨#[42]⟩] w2.heap.size 1 1 (w2.alloc (.cells #[.string ⟨#[42]⟩] 9)) base g _ _ (hp.grown (aC w2 _ none)) rfl (Blk.new w2 9 [.string ⟨#[42]⟩]) V12 V102 hg;rw[Af]at HQ;clear Af;go_wp2_with fail;refine HQ.mono ?_;rintro e w3 ⟨rfl,⟨v',Bs⟩,hq⟩;clear q0 q1 q2 q3 q4;replace hq:=(aL.of (aC w2 (.cells #[.string ⟨#[42]⟩] 9) none)).trans hq;clear HQ hp;have hp:=Bs;clear Bs;replace x0:=hq.blk x0 V7 V17;refine M9184 ?_;clear hb hw hq;intro hb hw q0 q1 q2 q3 q4
  have HQ:=nB 222 (cK Tryz.func222 rfl rfl) nN params (fun x hx=>aBp x (hpok x hx)) w0 w3 a2 c2 base g _ _ hT hP hb h0 hg hp V103
  go_wp2_with fail;refine HQ.mono ?_;rintro e w4 ⟨rfl,⟨v',Bs⟩,hq⟩;clear q0 q1 q2 q3 q4;clear HQ hp;have hp:=Bs;clear Bs;replace x0:=hq.blk x0 V7 V17;refine M9184 ?_;clear hb hw hq;intro hb hw q0 q1 q2 q3 q4;refine M9244 ?_;intro Af HQ;clear Af;go_wp2_with fail;refine HQ.mono ?_;rintro e w5 ⟨rfl,⟨v',Bs⟩,hq⟩;clear q0 q1 q2 q3 q4;replace hq:=(aL.of (aC w4 (.cells #[.string ⟨#[59]⟩] 9) none)).trans hq;clear HQ hp;have hp:=Bs;clear Bs;replace x0:=hq.blk x0 V7 V17;refine M9184 ?_;clear hb hw hq;intro hb hw q0 q1 q2 q3 q4;have HXL:=hid hL;have HXN:=hid k3;have HOK:=hid hlok;go_wp2_with fail;clear q0 q1 q2 q3 q4
  obtain⟨LA,hLA⟩:∃z,z=l++(([80,82,79,67,32])++(name++[32]))++(([42,32]))++brI (params.map nN)++(([59,10])):=⟨_,rfl⟩
  rw[<-hLA]at hp;have hlA:=congrArg List.length hLA;simp only[zA1,zB1,zC3]at hlA;have HSX:=hid hw;have HSB:=hid hb;have HSx:=hid x0
  have HSp:Hid (∃v',Pg w5 base g (LA++(locals.take 0).flatMap aX) v'):=⟨_,by simpa using hp⟩
  clear hp hw hb x0
  go_loopw [5,29] (fun _ i wr=>∃j:Nat,j<=locals.length/\i=.int .i64 j/\Hid (∃v',Pg wr base g (LA++(locals.take j).flatMap aX) v')/\Hid (aL base (some g) w5 wr)) (fun _ i _=>locals.length-(intOf i).toNat)
  case atStart=>exact⟨0,zD1 _,rfl,HSp,aL.refl _ _ _⟩
  case round=>
   obtain⟨j,hj,rfl,hpj,hwj⟩:=hrel;clear HSp
   by_cases Ai:j<locals.length
   .
    refine M9221 ?_;intro v1 hp hw x hx hb HJ hlen;obtain⟨bx,offx,rfl⟩:=aS.addr HXL.out V82
    obtain⟨vs,Ad,Ab⟩:=(aS.el HXL.out (show _=some [Fl.b x] by unfold bH;rw[zA2,hx];rfl)).vals
    obtain⟨y0,us,rfl,⟨ax,cx,rfl,hbx,_⟩,rfl⟩:=Ad;refine M9203 ?_;clear Ab hx hpj hwj hlen;intro hxo hpn r0 kc hlen Af HQ;clear Af;go_wp2_with fail;refine HQ.mono ?_;rintro e wq ⟨rfl,⟨v',Bs⟩,hq⟩;have HP3:=hid Bs
    have HW3:Hid (aL base (some g) w5 wq):=hw.trans ((aL.of (aC wr (.cells #[.string ⟨#[86,65,82]⟩,.string (strOfNums x),.string ⟨#[59]⟩] 9) none)).trans hq)
    clear HQ hp Bs hq hw hb r0 kc;exact U286
   .
    have:j=locals.length:=by omega
    subst this
    have hp:∃v',Pg wr base g (LA++locals.flatMap aX) v':=by have:=hpj.out;rwa [zD3 (zB0 _)]at this
    obtain⟨v1,hp⟩:=hp;have hw:=HSX.out.trans hwj.out;have hb:=hwj.out.below HSB.out h0 Bd;have x0:=hwj.out.blk HSx.out V7 An;clear hpj hwj HSX HSB HSx;generalize wr=w6 at *;obtain⟨q0,q1,q2,q3,q4⟩:=x0.c5
    have Af:aR [⟨#[66,69,71,73,78]⟩]=([66,69,71,73,78,10]):=by rw[iC]
    have HQ:=eW [⟨#[66,69,71,73,78]⟩] w6.heap.size 1 1 (w6.alloc (.cells #[.string ⟨#[66,69,71,73,78]⟩] 9)) base g _ _ (hp.grown (aC w6 _ none)) rfl (Blk.new w6 9 [.string ⟨#[66,69,71,73,78]⟩]) V12 V102 hg;rw[Af]at HQ;clear Af;go_wp2_with fail;refine HQ.mono ?_;rintro e w7 ⟨rfl,⟨v',Bs⟩,hq⟩;clear q0 q1 q2 q3 q4;replace hq:=(aL.of (aC w6 (.cells #[.string ⟨#[66,69,71,73,78]⟩] 9) none)).trans hq;clear HQ hp;have hp:=Bs;clear Bs;replace x0:=hq.blk x0 V7 V17;refine M9184 ?_;clear hb hw hq;intro hb hw q0 q1 q2 q3 q4;have HQ:=vV body (aBn body) w0 w7 a4 c4 base g _ _ hT hB hb h0 hg hp hbok V103;go_wp2_with fail;refine HQ.mono ?_;rintro e w8 ⟨rfl,⟨v',Bs⟩,hq⟩;clear q0 q1 q2 q3 q4;clear HQ hp;have hp:=Bs;clear Bs;replace x0:=hq.blk x0 V7 V17;refine M9184 ?_;clear hb hw hq;intro hb hw q0 q1 q2 q3 q4
    have Af:aR [⟨#[69,78,68]⟩,⟨#[59]⟩]=([69,78,68,32])++([59,10]):=by rw[lP,eM,dP]
    have HQ:=eW [⟨#[69,78,68]⟩,⟨#[59]⟩] w8.heap.size 2 2 (w8.alloc (.cells #[.string ⟨#[69,78,68]⟩,.string ⟨#[59]⟩] 9)) base g _ _ (hp.grown (aC w8 _ none)) rfl (Blk.new w8 9 [.string ⟨#[69,78,68]⟩,.string ⟨#[59]⟩]) V12 V102 hg;rw[Af]at HQ;clear Af;go_wp2_with fail;refine HQ.mono ?_;rintro e w9 ⟨rfl,⟨v',Bs⟩,hq⟩;clear q0 q1 q2 q3 q4;replace hq:=(aL.of (aC w8 (.cells #[.string ⟨#[69,78,68]⟩,.string ⟨#[59]⟩] 9) none)).trans hq;clear HQ hp;have hp:=Bs;clear Bs;replace x0:=hq.blk x0 V7 V17;refine M9184 ?_;clear hb hw hq;intro hb hw q0 q1 q2 q3 q4;go_wp2_with fail
    have Bq:∃v',Pg w9 base g (l++cG ⟨name,true,params,locals,body⟩) v':=⟨_,by rw[hLA]at hp;simpa [cG,brI,zD0] using hp⟩
    exact U10
theorem uD (q:Pr)(h:jU q=true/\fC q.body=true):aAk 201 q.fl (cG q):=by
 obtain⟨name,opn,params,locals,body⟩:=q;obtain⟨h1,h2⟩:=h;simp only[jU,zC0,zF3]at h1;exact aHz name opn params locals body h1.1.1.1.1 h1.1.1.2 h1.2 h2
set_option maxHeartbeats 8000000 in
theorem aLz (name:List Int)(uses:List (List Int))(vars:List Va)(procs:List Pr)(hnm:aK name true=true)(huok:∀x ∈ uses,iK x=true)(hvok:∀x ∈ vars,lF x=true)(hpok:∀x ∈ procs,jU x=true/\fC x.body=true):aAk 172 (Mo.fl ⟨name,uses,vars,procs⟩) (prM ⟨name,uses,vars,procs⟩):=by
 intro w0 w vs base g l v hT hr hb h0 hg hp Bb;obtain⟨y0,_,rfl,⟨a0,c0,rfl,h2,hc2,_⟩,y1,_,rfl,hU',y2,_,rfl,hV',y3,_,rfl,hP',rfl⟩:=hr;obtain⟨a1,c1,rfl,hU⟩:=hU'.list;obtain⟨a2,c2,rfl,hV⟩:=hV'.list;obtain⟨a3,c3,rfl,hP⟩:=hP'.list;clear hU' hV' hP'
 simp only at h2 hc2 hU hV hP ⊢
 have k1:(bH uses).length=uses.length:=by simp[bH]
 have k2:(vars.map Va.fl).length=vars.length:=by simp
 have k3:(procs.map Pr.fl).length=procs.length:=by simp
 have n1:uses.length<=9223372036854775807:=by have h5:=hU.cap;have h6:=hU.most;unfold maxLen at h6;omega
 have n2:vars.length<=9223372036854775807:=by have h5:=hV.cap;have h6:=hV.most;unfold maxLen at h6;omega
 have n3:procs.length<=9223372036854775807:=by have h5:=hP.cap;have h6:=hP.most;unfold maxLen at h6;omega
 rw[k1,k2,k3];simp only[agg];have hgl:=hp.blk.lt
 have An:some w.heap.size ≠ some g:=by simp;omega
 have Bd:∀k,some g=some k->w0.heap.size<=k:=by intro k e;cases e;omega
 have x0:=Blk.new w 48 [.slice a0 name.length c0,.slice a1 uses.length c1,.slice a2 vars.length c2,.slice a3 procs.length c3]
 have hw:aL base (some g) w (w.alloc (.cells #[.slice a0 name.length c0,.slice a1 uses.length c1,.slice a2 vars.length c2,.slice a3 procs.length c3] 48 (0,0))):=aL.of (aC w _ none)
 replace hb:Below w0.heap.size w0 (w.alloc (.cells #[.slice a0 name.length c0,.slice a1 uses.length c1,.slice a2 vars.length c2,.slice a3 procs.length c3] 48 (0,0))):=hb.alloc hb.size _
 replace hp:=hp.grown (aC w (.cells #[.slice a0 name.length c0,.slice a1 uses.length c1,.slice a2 vars.length c2,.slice a3 procs.length c3] 48 (0,0)) none);go_enter Tryz.func172,Tryz.ntmps172;go_upto_region 1 with fail;generalize w.alloc (.cells #[.slice a0 name.length c0,.slice a1 uses.length c1,.slice a2 vars.length c2,.slice a3 procs.length c3] 48 (0,0))=w1 at *;generalize w.heap.size=gx at *;clear hgl;simp only[prM,zA1,zB1,zC3]at Bb;have hpn:=cD (g:=true) h2.2.1 hnm;obtain⟨q0,q1,q2,q3⟩:=x0.c4;have kc:=aT c0 (h2.below hb)
 have Af:aR [⟨#[77,79,68,85,76,69]⟩,(strOfNums name),⟨#[59]⟩]=([77,79,68,85,76,69,32])++(name++[32])++([59,10]):=by rw[lO,jL,hpn,dP]
 have HQ:=eW [⟨#[77,79,68,85,76,69]⟩,(strOfNums name),⟨#[59]⟩] w1.heap.size 3 3 (w1.alloc (.cells #[.string ⟨#[77,79,68,85,76,69]⟩,.string (strOfNums name),.string ⟨#[59]⟩] 9)) base g _ _ (hp.grown (aC w1 _ none)) rfl (Blk.new w1 9 [.string ⟨#[77,79,68,85,76,69]⟩,.string (strOfNums name),.string ⟨#[59]⟩]) V12 V102 hg;rw[Af]at HQ;clear Af;go_wp2_with fail;refine HQ.mono ?_;rintro e w2 ⟨rfl,⟨v',Bs⟩,hq⟩;clear q0 q1 q2 q3;replace hq:=(aL.of (aC w1 (.cells #[.string ⟨#[77,79,68,85,76,69]⟩,.string (strOfNums name),.string ⟨#[59]⟩] 9) none)).trans hq;clear HQ hp;have hp:=Bs;clear Bs;replace x0:=hq.blk x0 V7 V17;replace hb:=hq.below hb h0 Bd;replace hw:=hw.trans hq;clear hq;obtain⟨q0,q1,q2,q3⟩:=x0.c4;clear kc
 have HXL:Hid (aS w0 a1 c1 1 (bH uses)):=hU
 have HXN:Hid ((bH uses).length=uses.length):=k1
 have HOK:Hid (∀x ∈ uses,aK x true=true):=huok
 go_wp2_with fail;clear q0 q1 q2 q3
 obtain⟨LA,hLA⟩:∃z,z=l++(([77,79,68,85,76,69,32])++(name++[32])++([59,10])):=⟨_,rfl⟩
 rw[<-hLA]at hp;have hlA:=congrArg List.length hLA;simp only[zA1,zB1,zC3]at hlA
 have HSX:Hid (aL base (some g) w w2):=hw
 have HSB:Hid (Below w0.heap.size w0 w2):=hb
 have HSx:Hid _:=x0
 have HSp:Hid (∃v',Pg w2 base g (LA++(uses.take 0).flatMap fG) v'):=⟨_,by simpa using hp⟩
 clear hp hw hb x0
 go_loopw [5,19] (fun _ i wr=>∃j:Nat,j<=uses.length/\i=.int .i64 j/\Hid (∃v',Pg wr base g (LA++(uses.take j).flatMap fG) v')/\Hid (aL base (some g) w2 wr)) (fun _ i _=>uses.length-(intOf i).toNat)
 case atStart=>exact⟨0,zD1 _,rfl,HSp,aL.refl _ _ _⟩
 case round=>
  obtain⟨j,hj,rfl,hpj,hwj⟩:=hrel;clear HSp
  by_cases Ai:j<uses.length
  .
   obtain⟨v1,hp⟩:=hpj.out;have hw:=hwj.out
   obtain⟨x,hx⟩:∃x,uses[j]?=some x:=⟨uses[j],zA0 _⟩
   have hb:=hw.below HSB.out h0 Bd
   have HJ:Hid ((uses.take (j+1)).flatMap fG=(uses.take j).flatMap fG++fG x):=dJ hx
   have hlen:((uses.take j).flatMap fG).length+(fG x).length<=(uses.flatMap fG).length:=by have h1:=fD fG uses (j+1);rw[dJ hx,zA1]at h1;exact h1
   obtain⟨bx,offx,rfl⟩:=aS.addr HXL.out V82
   obtain⟨vs,Ad,Ab⟩:=(aS.el HXL.out (show _=some [Fl.b x] by unfold bH;rw[zA2,hx];rfl)).vals
   obtain⟨y0,us,rfl,⟨ax,cx,rfl,hbx,_⟩,rfl⟩:=Ad;have hxo:=HOK.out x (zA3 hx);have hpn:=cD (g:=true) hbx.2.1 hxo;have r0:=aB (Ab 0 _ rfl) hb;simp only[zG2,Nat.mul_one]at r0;have kc:=aT cx (hbx.below hb);clear Ab hx hpj hwj;simp only[fG,zA1,zB1,zC3]at hlen
   have Af:aR [⟨#[73,77,80,79,82,84]⟩,(strOfNums x),⟨#[59]⟩]=fG x:=by rw[lO,jM,hpn,dP];rfl
   have HQ:=eW [⟨#[73,77,80,79,82,84]⟩,(strOfNums x),⟨#[59]⟩] wr.heap.size 3 3 (wr.alloc (.cells #[.string ⟨#[73,77,80,79,82,84]⟩,.string (strOfNums x),.string ⟨#[59]⟩] 9)) base g _ _ (hp.grown (aC wr _ none)) rfl (Blk.new wr 9 [.string ⟨#[73,77,80,79,82,84]⟩,.string (strOfNums x),.string ⟨#[59]⟩]) V12 (by rw[Af];simp only[fG,zA1,zB1,zC3];omega) hg
   rw[Af]at HQ;clear Af;go_wp2_with fail;refine HQ.mono ?_;rintro e wq ⟨rfl,⟨v',Bs⟩,hq⟩
   have HP3:Hid _:=Bs
   have HW3:Hid (aL base (some g) w2 wq):=hw.trans ((aL.of (aC wr (.cells #[.string ⟨#[73,77,80,79,82,84]⟩,.string (strOfNums x),.string ⟨#[59]⟩] 9) none)).trans hq)
   clear HQ hp Bs hq hw hb r0 kc;exact U286
  .
   have:j=uses.length:=by omega
   subst this
   have hp:∃v',Pg wr base g (LA++uses.flatMap fG) v':=by have:=hpj.out;rwa [zD3 (zB0 _)]at this
   obtain⟨v1,hp⟩:=hp
   have hw:aL base (some g) w wr:=HSX.out.trans hwj.out
   have hb:=hwj.out.below HSB.out h0 Bd;have x0:=hwj.out.blk HSx.out V7 An;clear hpj hwj HSX HSB HSx;generalize wr=w3 at *;obtain⟨q0,q1,q2,q3⟩:=x0.c4;clear HXL HXN HOK
   have HXL:Hid (aS w0 a2 c2 2 (vars.map Va.fl)):=hV
   have HXN:Hid ((vars.map Va.fl).length=vars.length):=k2
   have HOK:Hid (∀x ∈ vars,lF x=true):=hvok
   go_wp2_with fail;clear q0 q1 q2 q3
   obtain⟨LB,hLB⟩:∃z,z=LA++uses.flatMap fG:=⟨_,rfl⟩
   rw[<-hLB]at hp;have hlB:=congrArg List.length hLB;simp only[zA1,zB1,zC3]at hlB
   have HSX:Hid (aL base (some g) w w3):=hw
   have HSB:Hid (Below w0.heap.size w0 w3):=hb
   have HSx:Hid _:=x0
   have HSp:Hid (∃v',Pg w3 base g (LB++(vars.take 0).flatMap dG) v'):=⟨_,by simpa using hp⟩
   clear hp hw hb x0
   go_loopw [7,32] (fun _ i wr=>∃j:Nat,j<=vars.length/\i=.int .i64 j/\Hid (∃v',Pg wr base g (LB++(vars.take j).flatMap dG) v')/\Hid (aL base (some g) w3 wr)) (fun _ i _=>vars.length-(intOf i).toNat)
   case atStart=>exact⟨0,zD1 _,rfl,HSp,aL.refl _ _ _⟩
   case round=>
    obtain⟨j,hj,rfl,hpj,hwj⟩:=hrel;clear HSp
    by_cases Ai:j<vars.length
    .
     obtain⟨v1,hp⟩:=hpj.out;have hw:=hwj.out
     obtain⟨x,hx⟩:∃x,vars[j]?=some x:=⟨vars[j],zA0 _⟩
     have hb:=hw.below HSB.out h0 Bd
     have HJ:Hid ((vars.take (j+1)).flatMap dG=(vars.take j).flatMap dG++dG x):=dJ hx
     have hlen:((vars.take j).flatMap dG).length+(dG x).length<=(vars.flatMap dG).length:=by have h1:=fD dG vars (j+1);rw[dJ hx,zA1]at h1;exact h1
     obtain⟨bx,offx,rfl⟩:=aS.addr HXL.out V82
     obtain⟨vs,Ad,Ab⟩:=(aS.el HXL.out (show _=some (Va.fl x) by rw[zA2,hx];rfl)).vals
     have HX:=yU x (HOK.out x (zA3 hx))
     have HC:∀wz Lz vz,Below w0.heap.size w0 wz->Pg wz base g Lz vz->Lz.length+(dG x).length<=1000000000->Calls Tryz.prog 200 #[.pointer (some ⟨g,0,none⟩),agg vs] wz fun e w'=>e=.returned (.tuple #[])/\(∃v',Pg w' base g (Lz++dG x) v')/\aL base (some g) wz w':=fun wz Lz vz h1 h2 h3=>HX w0 wz vs base g Lz vz hT Ad h1 h0 hg h2 h3
     clear HX hx hpj hwj;generalize dG x=txx at *;obtain⟨x0,x1⟩:=x;obtain⟨y0,_,rfl,⟨b0,d0,rfl,_⟩,y1,_,rfl,rfl,rfl⟩:=Ad
     replace Ab:∀i v,_->_:=fun i v hv=>aB (Ab i v hv) hb
     have r0:wr.cell? ⟨bx,offx+j*2,none⟩=some (.slice b0 x0.length d0):=Ab 0 _ rfl
     have r1:wr.cell? ⟨bx,offx+j*2+1,none⟩=some (.int .i64 x1):=Ab 1 _ rfl
     clear Ab;have xb:=Blk.new wr 123 [.slice b0 x0.length d0,.int .i64 x1]
     have hwa:aL base (some g) w3 (wr.alloc (.cells #[.slice b0 x0.length d0,.int .i64 x1] 123 (0,0))):=hw.trans (aL.of (aC wr _ none))
     have hpa:=hp.grown (aC wr (.cells #[.slice b0 x0.length d0,.int .i64 x1] 123 (0,0)) none);simp only[agg]at HC;go_upto_region 10 with fail;generalize wr.alloc (.cells #[.slice b0 x0.length d0,.int .i64 x1] 123 (0,0))=wA at *;generalize wr.heap.size=gX at *;clear r0 r1 hp hw hb
     have HQ:=HC wA _ _ (hwa.below HSB.out h0 Bd) hpa (by simp only[zA1];omega)
     clear HC;obtain⟨s0,s1⟩:=xb.c2;go_wp2_with fail;refine HQ.mono ?_;rintro e wq ⟨rfl,⟨v',Bs⟩,hq⟩;clear HQ s0 s1
     have HP3:Hid _:=Bs
     have HW3:Hid (aL base (some g) w3 wq):=hwa.trans hq
     clear Bs hq hwa hpa xb;exact U286
    .
     have:j=vars.length:=by omega
     subst this
     have hp:∃v',Pg wr base g (LB++vars.flatMap dG) v':=by have:=hpj.out;rwa [zD3 (zB0 _)]at this
     obtain⟨v1,hp⟩:=hp
     have hw:aL base (some g) w wr:=HSX.out.trans hwj.out
     have hb:=hwj.out.below HSB.out h0 Bd;have x0:=hwj.out.blk HSx.out V7 An;clear hpj hwj HSX HSB HSx;generalize wr=w4 at *;obtain⟨q0,q1,q2,q3⟩:=x0.c4;clear HXL HXN HOK
     have HXL:Hid (aS w0 a3 c3 5 (procs.map Pr.fl)):=hP
     have HXN:Hid ((procs.map Pr.fl).length=procs.length):=k3
     have HOK:Hid (∀x ∈ procs,jU x=true/\fC x.body=true):=hpok
     go_wp2_with fail;clear q0 q1 q2 q3
     obtain⟨LC,hLC⟩:∃z,z=LB++vars.flatMap dG:=⟨_,rfl⟩
     rw[<-hLC]at hp;have hlC:=congrArg List.length hLC;simp only[zA1,zB1,zC3]at hlC
     have HSX:Hid (aL base (some g) w w4):=hw
     have HSB:Hid (Below w0.heap.size w0 w4):=hb
     have HSx:Hid _:=x0
     have HSp:Hid (∃v',Pg w4 base g (LC++(procs.take 0).flatMap cG) v'):=⟨_,by simpa using hp⟩
     clear hp hw hb x0
     go_loopw [9,43] (fun _ i wr=>∃j:Nat,j<=procs.length/\i=.int .i64 j/\Hid (∃v',Pg wr base g (LC++(procs.take j).flatMap cG) v')/\Hid (aL base (some g) w4 wr)) (fun _ i _=>procs.length-(intOf i).toNat)
     case atStart=>exact⟨0,zD1 _,rfl,HSp,aL.refl _ _ _⟩
     case round=>
      obtain⟨j,hj,rfl,hpj,hwj⟩:=hrel;clear HSp
      by_cases Ai:j<procs.length
      .
       obtain⟨v1,hp⟩:=hpj.out;have hw:=hwj.out
       obtain⟨x,hx⟩:∃x,procs[j]?=some x:=⟨procs[j],zA0 _⟩
       have hb:=hw.below HSB.out h0 Bd
       have HJ:Hid ((procs.take (j+1)).flatMap cG=(procs.take j).flatMap cG++cG x):=dJ hx
       have hlen:((procs.take j).flatMap cG).length+(cG x).length<=(procs.flatMap cG).length:=by have h1:=fD cG procs (j+1);rw[dJ hx,zA1]at h1;exact h1
       obtain⟨bx,offx,rfl⟩:=aS.addr HXL.out V82
       obtain⟨vs,Ad,Ab⟩:=(aS.el HXL.out (show _=some (Pr.fl x) by rw[zA2,hx];rfl)).vals
       have HX:=uD x (HOK.out x (zA3 hx))
       have HC:∀wz Lz vz,Below w0.heap.size w0 wz->Pg wz base g Lz vz->Lz.length+(cG x).length<=1000000000->Calls Tryz.prog 201 #[.pointer (some ⟨g,0,none⟩),agg vs] wz fun e w'=>e=.returned (.tuple #[])/\(∃v',Pg w' base g (Lz++cG x) v')/\aL base (some g) wz w':=fun wz Lz vz h1 h2 h3=>HX w0 wz vs base g Lz vz hT Ad h1 h0 hg h2 h3
       clear HX hx hpj hwj;generalize cG x=txx at *;obtain⟨x0,x1,x2,x3,x4⟩:=x;obtain⟨y0,_,rfl,⟨b0,d0,rfl,_⟩,y1,_,rfl,rfl,y2,_,rfl,⟨b2,d2,rfl,_⟩,y3,_,rfl,⟨b3,d3,rfl,_⟩,y4,_,rfl,⟨b4,d4,rfl,_⟩,rfl⟩:=Ad;generalize (List.map Pa.fl x2).length=m2 at *;generalize (bH x3).length=m3 at *;generalize (sts x4).length=m4 at *
       replace Ab:∀i v,_->_:=fun i v hv=>aB (Ab i v hv) hb
       have r0:wr.cell? ⟨bx,offx+j*5,none⟩=some (.slice b0 x0.length d0):=Ab 0 _ rfl
       have r1:wr.cell? ⟨bx,offx+j*5+1,none⟩=some (.bool x1):=Ab 1 _ rfl
       have r2:wr.cell? ⟨bx,offx+j*5+2,none⟩=some (.slice b2 m2 d2):=Ab 2 _ rfl
       have r3:wr.cell? ⟨bx,offx+j*5+3,none⟩=some (.slice b3 m3 d3):=Ab 3 _ rfl
       have r4:wr.cell? ⟨bx,offx+j*5+4,none⟩=some (.slice b4 m4 d4):=Ab 4 _ rfl
       clear Ab;have xb:=Blk.new wr 95 [.slice b0 x0.length d0,.bool x1,.slice b2 m2 d2,.slice b3 m3 d3,.slice b4 m4 d4]
       have hwa:aL base (some g) w4 (wr.alloc (.cells #[.slice b0 x0.length d0,.bool x1,.slice b2 m2 d2,.slice b3 m3 d3,.slice b4 m4 d4] 95 (0,0))):=hw.trans (aL.of (aC wr _ none))
       have hpa:=hp.grown (aC wr (.cells #[.slice b0 x0.length d0,.bool x1,.slice b2 m2 d2,.slice b3 m3 d3,.slice b4 m4 d4] 95 (0,0)) none);simp only[agg]at HC;go_upto_region 15 with fail;generalize wr.alloc (.cells #[.slice b0 x0.length d0,.bool x1,.slice b2 m2 d2,.slice b3 m3 d3,.slice b4 m4 d4] 95 (0,0))=wA at *;generalize wr.heap.size=gX at *;clear r0 r1 r2 r3 r4 hp hw hb
       have HQ:=HC wA _ _ (hwa.below HSB.out h0 Bd) hpa (by simp only[zA1];omega)
       clear HC;obtain⟨s0,s1,s2,s3,s4⟩:=xb.c5;go_wp2_with fail;refine HQ.mono ?_;rintro e wq ⟨rfl,⟨v',Bs⟩,hq⟩;clear HQ s0 s1 s2 s3 s4
       have HP3:Hid _:=Bs
       have HW3:Hid (aL base (some g) w4 wq):=hwa.trans hq
       clear Bs hq hwa hpa xb;exact U286
      .
       have:j=procs.length:=by omega
       subst this
       have hp:∃v',Pg wr base g (LC++procs.flatMap cG) v':=by have:=hpj.out;rwa [zD3 (zB0 _)]at this
       obtain⟨v1,hp⟩:=hp
       have hw:aL base (some g) w wr:=HSX.out.trans hwj.out
       have hb:=hwj.out.below HSB.out h0 Bd;have x0:=hwj.out.blk HSx.out V7 An;clear hpj hwj HSX HSB HSx;generalize wr=w5 at *;obtain⟨q0,q1,q2,q3⟩:=x0.c4
       have Af:aR [⟨#[69,78,68]⟩]=([69,78,68,32]):=by rw[eM]
       have HQ:=eW [⟨#[69,78,68]⟩] w5.heap.size 1 1 (w5.alloc (.cells #[.string ⟨#[69,78,68]⟩] 9)) base g _ _ (hp.grown (aC w5 _ none)) rfl (Blk.new w5 9 [.string ⟨#[69,78,68]⟩]) V12 V102 hg;rw[Af]at HQ;clear Af;go_wp2_with fail;refine HQ.mono ?_;rintro e w6 ⟨rfl,⟨v',Bs⟩,hq⟩;clear q0 q1 q2 q3;replace hq:=(aL.of (aC w5 (.cells #[.string ⟨#[69,78,68]⟩] 9) none)).trans hq;clear HQ hp;have hp:=Bs;clear Bs;replace x0:=hq.blk x0 V7 V17;replace hb:=hq.below hb h0 Bd;replace hw:=hw.trans hq;clear hq;obtain⟨q0,q1,q2,q3⟩:=x0.c4;clear q0 q1 q2 q3
       obtain⟨LZ,hLZ⟩:∃z,z=LC++procs.flatMap cG++(([69,78,68,32])):=⟨_,rfl⟩
       rw[<-hLZ]at hp;have hlZ:=congrArg List.length hLZ;simp only[zA1,zB1,zC3]at hlZ;obtain⟨hk,ho,hle⟩:=hp;generalize hnZ:LZ.length=nZ at *
       have HNZ:Hid (LZ.length=nZ):=hnZ
       clear hnZ;obtain⟨aZ,cZ,rfl,_⟩:=ho.shape;have z0:=hk.k 0;have z1:=hk.free 0;have hse:(⟨#[46,10]⟩:ByteArray).size=2:=rfl
       have hs9:nZ+(⟨#[46,10]⟩:ByteArray).size<=1099511627776:=by rw[hse];omega
       have HLs:Hid (l++prM ⟨name,uses,vars,procs⟩=LZ++[46,10]):=by show _=_;rw[hLZ,hLC,hLB,hLA];simp[prM,zD0]
       clear hlZ hlA hlB hlC hLZ hLC hLB hLA Bb
       go_wp2_with (at_builtin;refine kL rfl _ _ rfl base _ nZ LZ rfl ho ⟨#[46,10]⟩ rfl hs9 hle ?_)
       intro vZ wZ hoZ hgZ
       replace hoZ:Own wZ base vZ (nZ+2) (LZ++[46,10]):=hoZ
       have hbZ:=hk.below_row hgZ (ho.free hk V7);have hwZ:=hw.trans (aL.own (x:=some g) ho hgZ);have y0:=hbZ.k 0;have y1:=hbZ.free 0;obtain⟨aY,cY,rfl,_⟩:=hoZ.shape;have hneY:=hoZ.free hbZ V7;have kY:=hbZ.set (i:=0) (.slice aY (nZ+2) cY);have oY:=hoZ.setOther (g:=g) (i:=0) (u:=.slice aY (nZ+2) cY) hneY;have wY:=hwZ.trans (aL.put (base:=base) (g:=g) (i:=0) (w:=wZ) (v:=.slice aY (nZ+2) cY))
       have lY:base<=(wZ.setCell ⟨g,0,none⟩ (.slice aY (nZ+2) cY)).heap.size:=by have:=hgZ.size;simp;omega
       clear z0 z1;go_wp2_with fail
       have Bq:∃v',Pg (wZ.setCell ⟨g,0,none⟩ (.slice aY (nZ+2) cY)) base g (l++prM ⟨name,uses,vars,procs⟩) v':=by
        have e1:=HLs.out
        have e2:(l++prM ⟨name,uses,vars,procs⟩).length=nZ+2:=by rw[e1,zA1,HNZ.out];rfl
        refine⟨_,kY, ?_,lY⟩;rw[e2,e1];exact oY
       exact bodyPost_end (results_none rfl _ _ _) rfl ⟨rfl,Bq,wY⟩
def rO:List (List Int)->Nat
 | []=>0
 | t :: l=>t.length+rO l
theorem aF4 (ts:List (List Int)):(ts[0]?.getD []).length<=rO ts:=by
 cases ts with
 | nil=>simp
 | cons a l=>simp[rO]
theorem aA0 (ts:List (List Int)):(ts[0]?.getD []).length+(ts[1]?.getD []).length<=rO ts:=by
 match ts with
 | []=>simp
 | [a]=>simp[rO]
 | a :: b :: l=>simp[rO]
theorem aB6 (s:List Int):∀ts:List (List Int),(aV s ts).length<=rO ts+s.length*ts.length:=by
 intro ts
 induction ts with
 | nil=>simp[aV]
 | cons a l ih=>
  cases l with
  | nil=>simp[aV,rO]
  | cons b l=>
   simp only[aV,rO,zA1,zB1]at ih ⊢;rw[Nat.mul_add]
   omega
theorem aIa (m:List Int):(if m.length=0 then [] else m++[32]++[46,32]:List Int).length<=m.length+3:=by split <;> simp
theorem oM (n:Int):(opI n).length<=1:=by
 unfold opI
 split
 .
  simp
 split
 .
  simp
 split
 .
  simp
 split
 .
  simp
 split <;> simp
theorem aCu {k n:Int}{mod name:List Int}{nk:Nat}{ts:List (List Int)}(h:gE k n mod name nk=true):(iO k n mod name ts).length<=40+mod.length+name.length+rO ts+2*ts.length:=by
 have h1:=aF4 ts;have h2:=aA0 ts;have h3:=aB6 [44,32] ts;have h4:=aIa mod;have h5:=oM n;simp only[zB1,zC3]at h3;unfold iO
 split
 .
  rename_i h0
  subst h0
  have hb:-9223372036854775808<=n/\n<=9223372036854775807:=by simp[gE,inB,eT,dB]at h;omega
  have:=iS hb.1 hb.2
  simp only[zA1,zB1,zC3];omega
 split
 .
  simp only[zA1,zB1,zC3];omega
 split
 .
  simp only[zA1,zB1,zC3];omega
 split
 .
  simp only[zA1,zB1,zC3];omega
 split
 .
  simp only[zA1,zB1,zC3];omega
 split
 .
  simp only[zA1,zB1,zC3];omega
 split
 .
  simp only[zA1,zB1,zC3]at h4 ⊢;omega
 .
  simp only[zA1,zB1,zC3];omega
mutual
theorem aF8:∀x:Ex,nQ x=true->(prE x).length<=40+50*aH x.fl
 | .mk k n m a ks,h=>by
  obtain⟨h1,h2⟩:=cM h;have h3:=uE ks h2;have h4:=aCu (ts:=kC ks) h1
  have e:aH (Ex.mk k n m a ks).fl=m.length+a.length+((exs ks).length+aF (exs ks)):=by simp[Ex.fl,aH,Fl.len] <;> omega
  have e2:(exs ks).length=ks.length:=by simp[aJ]
  have e3:(kC ks).length=ks.length:=by simp[kB]
  rw[e,e2];rw[prE];rw[e3]at h4
  omega
theorem uE:∀l:List Ex,dR l=true->rO (kC l)<=40*l.length+50*aF (exs l)
 | [],_=>by simp[kC,rO]
 | x :: l,h=>by
  simp only[dR,zC0]at h;have h1:=aF8 x h.1;have h2:=uE l h.2;simp only[kC,rO,exs,aF,zB1]
  omega
end
theorem aA3 {k n:Int}{name:List Int}{ks:List Ex}{nb ne:Nat}{ts:List (List Int)}{b e:List Int}(h:mI k n name ks nb ne=true):(fK k n name ts b e).length<=60+name.length+rO ts+b.length+e.length:=by
 have h1:=aF4 ts;have h2:=aA0 ts;unfold fK
 split
 .
  simp only[zA1,zB1,zC3];omega
 split
 .
  simp only[zA1,zB1,zC3];omega
 split
 .
  simp only[zA1,zB1,zC3];omega
 split
 .
  simp only[zA1,zB1,zC3];omega
 split
 .
  simp only[zA1,zB1,zC3];omega
 split
 .
  simp only[zA1,zB1,zC3];omega
 split
 .
  rename_i h0
  subst h0;have hb:=lK h
  simp[dA]at hb
  have:=iS (n:=n) V6 V6
  simp only[zA1,zB1,zC3];omega
 .
  simp only[zA1,zB1,zC3];omega
mutual
theorem aKn:∀x:St,sM x=true->(prS x).length<=60+60*aH x.fl
 | .mk k n a ks bs es,h=>by
  obtain⟨h1,h2,h3,h4⟩:=bG h;have h5:=uE ks h2;have h6:=vX bs h3;have h7:=vX es h4;have h8:=aA3 (ts:=kC ks) (b:=prB bs) (e:=prB es) h1
  have e:aH (St.mk k n a ks bs es).fl=a.length+((exs ks).length+aF (exs ks))+((sts bs).length+aF (sts bs))+((sts es).length+aF (sts es)):=by simp[St.fl,aH,Fl.len] <;> omega
  have e2:(exs ks).length=ks.length:=by simp[aJ]
  have e3:(sts bs).length=bs.length:=by simp[aM]
  have e4:(sts es).length=es.length:=by simp[aM]
  rw[e,e2,e3,e4,prS]
  omega
theorem vX:∀l:List St,fC l=true->(prB l).length<=60*l.length+60*aF (sts l)
 | [],_=>by simp[prB]
 | x :: l,h=>by
  simp only[fC,zC0]at h;have h1:=aKn x h.1;have h2:=vX l h.2;simp only[prB,sts,aF,zB1,zA1]
  omega
end
theorem rC {α:Type}{f:α->List Int}{g:α->List Fl}{c d:Nat}:∀{l:List α},(∀x ∈ l,(f x).length<=c+d*aH (g x))->(l.flatMap f).length<=c*l.length+d*aF (l.map g):=by
 intro l
 induction l with
 | nil=>intro _;simp
 | cons x l ih=>
  intro h;have h1:=h x V15
  have h2:=ih fun y hy=>h y (by simp[hy])
  simp only[List.flatMap_cons,zA1,zB1,zI0,aF,Nat.mul_add]
  omega
theorem aJz {α:Type}{f:α->List Int}{g:α->List Fl}{c d:Nat}:∀{l:List α},(∀x ∈ l,(f x).length<=c+d*aH (g x))->rO (l.map f)<=c*l.length+d*aF (l.map g):=by
 intro l
 induction l with
 | nil=>intro _;simp[rO]
 | cons x l ih=>
  intro h;have h1:=h x V15
  have h2:=ih fun y hy=>h y (by simp[hy])
  simp only[zI0,rO,zB1,aF,Nat.mul_add]
  omega
theorem aBo (q:Pr)(h:fC q.body=true):(cG q).length<=100+100*aH q.fl:=by
 have e2:aH q.fl=q.name.length+((q.params.map Pa.fl).length+aF (q.params.map Pa.fl))+((bH q.locals).length+aF (bH q.locals))+((sts q.body).length+aF (sts q.body)):=by simp[Pr.fl,aH,Fl.len] <;> omega
 have k2:(q.params.map Pa.fl).length=q.params.length:=by simp
 have k3:(bH q.locals).length=q.locals.length:=by simp[bH]
 have k4:(sts q.body).length=q.body.length:=by simp[aM]
 have h1:=vX q.body h;have h2:=aB6 [44,32] (q.params.map nN)
 have h3:rO (q.params.map nN)<=3*q.params.length+1*aF (q.params.map Pa.fl):=aJz fun x _=>by
  simp only[nN,Pa.fl,aH,Fl.len,zA1,zB1,zC3]
  cases x.arr <;> simp <;> omega
 have h4:(q.locals.flatMap aX).length<=10*q.locals.length+1*aF (bH q.locals):=rC (g:=fun x=>[Fl.b x]) fun x _=>by
  simp only[aX,aH,Fl.len,zA1,zB1,zC3]
  omega
 have h5:(if q.opn then [42,32] else []:List Int).length<=2:=by cases q.opn <;> simp
 simp only[zB1,zC3,zB2]at h2;rw[e2,k2,k3,k4];simp only[cG,zA1,zB1,zC3]
 omega
theorem vW (m:Mo)(hs:aH m.fl<=1048576)(hv:∀x ∈ m.vars,lF x=true)(hp:∀x ∈ m.procs,fC x.body=true):(prM m).length<=500000000:=by
 have e:aH m.fl=m.name.length+((bH m.uses).length+aF (bH m.uses))+((m.vars.map Va.fl).length+aF (m.vars.map Va.fl))+((m.procs.map Pr.fl).length+aF (m.procs.map Pr.fl)):=by simp[Mo.fl,aH,Fl.len] <;> omega
 refine M986 ?_;intro k1 k2 k3
 have h1:(m.uses.flatMap fG).length<=20*m.uses.length+1*aF (bH m.uses):=rC (g:=fun x=>[Fl.b x]) fun x _=>by
  simp only[fG,aH,Fl.len,zA1,zB1,zC3]
  omega
 have h2:(m.vars.flatMap dG).length<=50*m.vars.length+1*aF (m.vars.map Va.fl):=rC fun x hx=>by
  have h9:=hv x hx;simp only[lF,inB,zC0,zE3]at h9;have h8:=iS (n:=x.size) V6 V6
  have h7:(if 0<x.size then [91,32]++(fI x.size++[32])++[93,32] else []:List Int).length<=26:=by
   split
   .
    simp only[zA1,zB1,zC3];omega
   .
    simp
  simp only[dG,Va.fl,aH,Fl.len];rw[zA1,zA1,zA1,zA1];simp only[zB1,zC3]
  omega
 have h3:(m.procs.flatMap cG).length<=100*m.procs.length+100*aF (m.procs.map Pr.fl):=rC fun x hx=>aBo x (hp x hx)
 rw[e,k1,k2,k3]at hs;simp only[prM,zA1,zB1,zC3]
 omega
theorem V95{p:Prop}(h:p:=by simp only[results,Tryz.results140];simp[go_sem]):p:=h
def mX (m:Mo):Bool:=bY m && decide ((prM m).length<=3000)
theorem aCp {l:List Pr}{left:Int}(h:jW l left=true):∀x ∈ l,fC x.body=true:=by
 intro x hx;obtain⟨j,hj⟩:=zI1 hx;unfold jW at h;rw[zF3]at h
 have:=h j (by have:=(zC1.1 hj).1;simpa using this)
 rw[hj]at this;unfold bP at this;simp only[zI3,zC0]at this;exact this.1.1
theorem dQ {m:Mo}(h:bY m=true):aK m.name true=true/\(∀x ∈ m.uses,iK x=true)/\(∀x ∈ m.vars,lF x=true)/\(∀x ∈ m.procs,jU x=true/\fC x.body=true):=by
 unfold bY at h;simp only[zC0,zF3]at h
 exact⟨h.1.1.1.1.1.1.1,h.1.1.1.1.1.2,h.1.1.1.2,fun x hx=>⟨h.1.2 x hx,aCp h.2 x hx⟩⟩
theorem aEl (w:World)(base:Nat):Own w base (.slice none 0 0) 0 []:=⟨⟨by simp,.inl ⟨rfl,rfl⟩⟩,by simp⟩
theorem mO {α:Type}{l:List α}(h:l.length=4):∃a b c d,l=[a,b,c,d]:=by
 match l,h with
 | [a,b,c,d],_=>exact⟨a,b,c,d,rfl⟩
structure aJg (w w':World) (m:Mo) (v:Value):Prop where
 no:mX m=false->v=.slice none 0 0
 yes:mX m=true->Own w' w.heap.size v (prM m).length (prM m)
 grown:w.grownBy w' none
set_option maxHeartbeats 4000000 in
theorem aKm (m:Mo)(vs:List Value)(w:World)(hT:kQ w)(h:aO w m.fl vs)(hs:aH m.fl<=1048576):
  Calls Tryz.prog 140 #[agg vs] w fun e w'=>∃v,e=.returned (.tuple #[v,.bool (mX m)])/\aJg w w' m v:=by
 have HF:∀w1,Below w.heap.size w w1->Calls Tryz.prog 171 #[agg vs] w1 fun e w'=>e=.returned (.bool (bY m))/\w1.grownBy w' none:=fun w1 h1=>aIs m vs w1 (hT.below h1) (h.below h1) hs
 have HM:bY m=true->∀(w1:World) (g:Nat) (v:Value),Below w.heap.size w w1->w.heap.size<=g->Pg w1 w.heap.size g [] v->Calls Tryz.prog 172 #[.pointer (some ⟨g,0,none⟩),agg vs] w1 fun e w'=>e=.returned (.tuple #[])/\(∃v',Pg w' w.heap.size g (prM m) v')/\aL w.heap.size (some g) w1 w':=by
  intro hf w1 g v h1 h2 h3;obtain⟨p1,p2,p3,p4⟩:=dQ hf
  have hl:=vW m hs p3 (fun x hx=>(p4 x hx).2)
  have:=aLz m.name m.uses m.vars m.procs p1 p2 p3 p4 w w1 vs w.heap.size g [] v hT h h1 (zB0 _) h2 h3 (by rw[zC3,zK0];exact zF2 hl V6)
  exact this
 have hlM:bY m=true->(prM m).length<=500000000:=fun hf=>by
  obtain⟨_,_,p3,p4⟩:=dQ hf
  exact vW m hs p3 (fun x hx=>(p4 x hx).2)
 obtain⟨u0,u1,u2,u3,rfl⟩:=mO (h.len.trans (show m.fl.length=4 from rfl))
 simp only[agg]at HF HM ⊢;have yy:=aC w (.cells #[u0,u1,u2,u3] 48 (0,0)) none;have x0:=Blk.new w 48 [u0,u1,u2,u3]
 have HD:Hid (mX m=(bY m && decide ((prM m).length<=3000))):=rfl
 clear hT h hs;go_enter Tryz.func140,Tryz.ntmps140;go_upto_region 1 with fail;generalize w.alloc (.cells #[u0,u1,u2,u3] 48 (0,0))=w1 at *;obtain⟨q0,q1,q2,q3⟩:=x0.c4;have H1:=HF w1 (aA yy);clear HF;go_wp2_with fail;refine H1.mono ?_;rintro e w2 ⟨rfl,hq⟩;replace x0:=x0.below (aA hq) x0.lt;replace yy:=aD yy hq;clear H1 hq q0 q1 q2 q3
 cases hf:bY m
 .
  have he:Hid (mX m=false):=by show _=_;rw[HD.out,hf];rfl
  clear HM hlM;go_wp2_with fail
  refine zJ0 (v:=.tuple #[.slice none 0 0,.bool false]) V95 rfl ⟨.slice none 0 0,by rw[he.out],⟨fun _=>rfl,fun h=>absurd (he.out.symm.trans h) V15,yy⟩⟩
 .
  have HM2:=HM hf;have hl:=hlM hf
  have he:Hid (mX m=decide ((prM m).length<=3000)):=by show _=_;rw[HD.out,hf];rfl
  clear HM hlM HD hf
  have hP:Pg (w2.alloc (.cells #[.slice none 0 0] 217 (0,0))) w.heap.size w2.heap.size [] (.slice none 0 0):=⟨Blk.new w2 217 [.slice none 0 0],aEl _ _,by have:=yy.size;simp;omega⟩
  have y3:=aD yy (aC w2 (.cells #[.slice none 0 0] 217 (0,0)) none);have x3:=x0.old (o:=.cells #[.slice none 0 0] 217 (0,0));have HQ:=HM2 _ w2.heap.size _ (aA y3) yy.size hP;clear HM2
  have An:some w.heap.size ≠ some w2.heap.size:=by have:=x0.lt;simp;omega
  have hle2:w.heap.size<=w2.heap.size:=yy.size;go_upto_region 4 with fail;generalize w2.alloc (.cells #[.slice none 0 0] 217 (0,0))=w3 at *;generalize w2.heap.size=g at *;obtain⟨q0,q1,q2,q3⟩:=x3.c4;go_wp2_with fail;refine HQ.mono ?_;rintro e w4 ⟨rfl,⟨v4,hp4⟩,hw⟩
  have y4:w.grownBy w4 none:=aI (hw.below (aA y3) (zB0 _) (by intro k e;cases e;exact hle2)) none
  obtain⟨hk4,ho4,_⟩:=hp4;clear HQ q0 q1 q2 q3 x3 y3 hP hw x0 yy
  have HO:Hid (Own w4 w.heap.size v4 (prM m).length (prM m)):=ho4
  obtain⟨a4,c4,e4,_⟩:=ho4.shape;subst e4;clear ho4;have z0:=hk4.k 0;generalize hn:(prM m).length=n at *
  have HN:Hid ((prM m).length=n):=hn
  clear hn
  by_cases h3:n<=3000
  .
   have h3':¬(3000:Int)<(n:Int):=V6
   have hm:Hid (mX m=true):=by show _=_;rw[he.out];exact zB3 h3
   go_wp2_with fail
   refine zJ0 (v:=.tuple #[.slice a4 n c4,.bool true]) V95 rfl ⟨.slice a4 n c4,by rw[hm.out],⟨fun h=>absurd (hm.out.symm.trans h) V15,fun _=>(by rw[HN.out];exact HO.out),y4⟩⟩
  .
   have h3':(3000:Int)<(n:Int):=V6
   have hm:Hid (mX m=false):=by show _=_;rw[he.out];exact zC2 h3
   go_wp2_with fail
   refine zJ0 (v:=.tuple #[.slice none 0 0,.bool false]) V95 rfl ⟨.slice none 0 0,by rw[hm.out],⟨fun _=>rfl,fun h=>absurd (hm.out.symm.trans h) V15,y4⟩⟩
theorem aE1 (m:Mo)(w:World)(vs:List Value)(hT:kQ w)(h:aO w m.fl vs)(hs:aH m.fl<=1048576):
  Calls Tryz.prog 99 #[.agg vs.toArray] w fun e w'=>e=.returned (.bool (mX m))/\w.grownBy w' none:=by
 have yy:=aC w (.cells vs.toArray 48 (0,0)) none;have HP:=aKm m vs (w.alloc (.cells vs.toArray 48 (0,0))) (hT.below (aA yy)) (h.below (aA yy)) hs;have x0:=Blk.new w 48 vs
 obtain⟨u0,u1,u2,u3,rfl⟩:=mO (h.len.trans (show m.fl.length=4 from rfl))
 simp only[agg]at HP;clear h hs hT;generalize mX m=r at *;go_enter Tryz.func99,Tryz.ntmps99;go_upto_region 1 with fail;generalize w.alloc (.cells #[u0,u1,u2,u3] 48 (0,0))=w1 at *;obtain⟨q0,q1,q2,q3⟩:=x0.c4;go_wp2_with fail;refine HP.mono ?_;rintro e w2 ⟨v,rfl,hp⟩;go_wp2;go_ret;exact⟨rfl,aD yy hp.grown⟩
end Go.Proofs.YtegkhlkjfeafjaaGreatDoor

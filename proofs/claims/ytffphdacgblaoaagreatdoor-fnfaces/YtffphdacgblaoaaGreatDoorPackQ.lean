import Derived.Test.YtffphdacgblaoaaGreatDoorPrSt
namespace Go.Proofs.YtffphdacgblaoaaGreatDoor
open Go.RowKit
set_option linter.unusedVariables false
set_option linter.unusedSimpArgs false
set_option maxRecDepth 100000
set_option maxHeartbeats 2000000
theorem aEm (l m:List St):prB (l++m)=prB l++prB m:=by
 induction l with
 | nil=>simp[prB]
 | cons x l ih=>simp[prB,ih]
theorem sM {l:List St}{j:Nat}{x:St}(h:l[j]?=some x):prB (l.take (j+1))=prB (l.take j)++prS x:=by
 obtain⟨hk,rfl⟩:=zC1.1 h;rw[zF1 hk,aEm];simp[prB]
theorem iL (l:List St)(j:Nat):(prB (l.take j)).length<=(prB l).length:=by
 have:=aEm (l.take j) (l.drop j)
 rw[List.take_append_drop]at this;rw[this,zA1];omega
set_option maxHeartbeats 4000000 in
theorem zD (l:List St)(H:∀x ∈ l,aA5 x):lA l:=by
 intro w0 w a c base g L v hT hr hb h0 hg hp hok Am
 have Ao:∀k,some g=some k->w0.heap.size<=k:=by intro k e;cases e;omega
 have hml:(sts l).length=l.length:=by simp[bL]
 have hn9:l.length<=9223372036854775807:=by have h1:=hr.cap;have h2:=hr.most;unfold maxLen at h2;omega
 have hokk:∀x ∈ l,xD x=true:=by rw[mR,zF3]at hok;exact hok
 have HH:Hid (∀x ∈ l,aA5 x/\xD x=true):=fun x hx=>⟨H x hx,hokk x hx⟩
 have HR:=hid hr;have HTt:=hid hT;have HB:=hid hb
 have HP1:Hid (∃v',Pg w base g (L++prB (l.take 0)) v'):=⟨v,by simpa [prB] using hp⟩
 clear H hT hb hok hokk hp;generalize hnn:l.length=n at *;have Hn:=hid hnn;clear hnn
 rcases zG0 n with hz|hpos
 .
  subst hz;have e0:=zE0 Hn.out;subst e0;clear hr hml;go_enter Tryz.func133,Tryz.ntmps133;go_wp2_with fail;refine zH1 1 ?_;rw[zE2];go_wp2_with fail
  have h1:∃v',Pg w base g (L++prB []) v':=by simpa using HP1.out
  exact bodyPost_end (results_none rfl _ _ _) rfl ⟨rfl,h1,aG.refl _ _ _⟩
 .
  obtain⟨b,off,rfl⟩:=hr.addr (by rw[hml];exact hpos)
  clear hr hml;go_enter Tryz.func133,Tryz.ntmps133;go_wp2_with fail
  go_loopw [5,8] (fun _ i wr=>∃j:Nat,j<=n/\i=.int .i64 j/\Hid (∃v',Pg wr base g (L++prB (l.take j)) v')/\Hid (aG base (some g) w wr)) (fun _ i _=>n-(intOf i).toNat)
  case atStart=>exact⟨0,zD1 _,rfl,HP1,aG.refl _ _ _⟩
  case round=>
   obtain⟨j,hj,rfl,hpj,hwj⟩:=hrel;clear HP1
   by_cases Aj:j<n
   .
    refine M981 ?_;intro v1 hp hw x hx
    have Bc:(sts l)[j]?=some x.fl:=by rw[bL,zA2,hx];rfl
    obtain⟨vs,Ai,Ab⟩:=(bQ.el HR.out Bc).vals;obtain⟨HX,hxo⟩:=HH.out x (zA3 hx);have hbr:=hw.below HB.out h0 Ao;have HJ:=hid (sM hx)
    have Ak:(prB (l.take j)).length+(prS x).length<=(prB l).length:=by have h1:=iL l (j+1);rw[sM hx,zA1]at h1;exact h1
    have HC:∀wz Lz vz,Below w0.heap.size w0 wz->Pg wz base g Lz vz->Lz.length+(prS x).length<=1000000000->Calls Tryz.prog 146 #[.pointer (some ⟨g,0,none⟩),agg vs] wz fun e w'=>e=.returned (.tuple #[])/\(∃v',Pg w' base g (Lz++prS x) v')/\aG base (some g) wz w':=fun wz Lz vz h1 h2 h3=>HX w0 wz vs base g Lz vz HTt.out Ai h1 h0 hg h2 hxo h3
    clear HX hxo hx Bc;generalize prS x=txx at *;obtain⟨x0,x1,x2,x3,x4,x5⟩:=x;unfold St.fl at Ai;obtain⟨y0,_,rfl,rfl,y1,_,rfl,rfl,y2,_,rfl,⟨b2,d2,rfl,_⟩,y3,_,rfl,⟨b3,d3,rfl,_⟩,y4,_,rfl,⟨b4,d4,rfl,_⟩,y5,_,rfl,⟨b5,d5,rfl,_⟩,rfl⟩:=Ai;generalize (exs x3).length=m3 at *;generalize (sts x4).length=m4 at *;generalize (sts x5).length=m5 at *
    replace Ab:∀i v,_->_:=fun i v hv=>aC (Ab i v hv) hbr
    have q0:wr.cell? ⟨b,off+j*6,none⟩=some (.int .i64 x0):=Ab 0 _ rfl
    have q1:wr.cell? ⟨b,off+j*6+1,none⟩=some (.int .i64 x1):=Ab 1 _ rfl
    have q2:wr.cell? ⟨b,off+j*6+2,none⟩=some (.slice b2 x2.length d2):=Ab 2 _ rfl
    have q3:wr.cell? ⟨b,off+j*6+3,none⟩=some (.slice b3 m3 d3):=Ab 3 _ rfl
    have q4:wr.cell? ⟨b,off+j*6+4,none⟩=some (.slice b4 m4 d4):=Ab 4 _ rfl
    have q5:wr.cell? ⟨b,off+j*6+5,none⟩=some (.slice b5 m5 d5):=Ab 5 _ rfl
    clear Ab;have xb:=Blk.new wr 116 [.int .i64 x0,.int .i64 x1,.slice b2 x2.length d2,.slice b3 m3 d3,.slice b4 m4 d4,.slice b5 m5 d5]
    have hwa:aG base (some g) w (wr.alloc (.cells #[.int .i64 x0,.int .i64 x1,.slice b2 x2.length d2,.slice b3 m3 d3,.slice b4 m4 d4,.slice b5 m5 d5] 116 (0,0))):=hw.trans (aG.of (aB wr _ none))
    have hpa:=hp.grown (aB wr (.cells #[.int .i64 x0,.int .i64 x1,.slice b2 x2.length d2,.slice b3 m3 d3,.slice b4 m4 d4,.slice b5 m5 d5] 116 (0,0)) none);simp only[agg]at HC;go_upto_region 3 with fail;generalize wr.alloc (.cells #[.int .i64 x0,.int .i64 x1,.slice b2 x2.length d2,.slice b3 m3 d3,.slice b4 m4 d4,.slice b5 m5 d5] 116 (0,0))=w2 at *;generalize wr.heap.size=gx at *;clear q0 q1 q2 q3 q4 q5 hp hw hbr hpj hwj
    have HQ:=HC w2 _ _ (hwa.below HB.out h0 Ao) hpa (by simp only[zA1];omega)
    clear HC;obtain⟨r0,r1,r2,r3,r4,r5⟩:=xb.c6;go_wp2_with fail;refine HQ.mono ?_;rintro e w3 ⟨rfl,⟨v3,hp3⟩,hq⟩;clear HQ r0 r1 r2 r3 r4 r5
    have HP3:Hid (∃v',Pg w3 base g (L++prB (l.take (j+1))) v'):=⟨v3,by rw[HJ.out];simpa [zD0] using hp3⟩
    have HW3:=hid (hwa.trans hq);clear hp3 hq hwa hpa xb;go_wp2;go_roundw
    case rel=>exact⟨j+1,by omega,by go_num,HP3,HW3⟩
    case measure=>simp[intOf];omega
   .
    have:j=n:=by omega
    subst this
    have h1:∃v',Pg wr base g (L++prB l) v':=by have:=hpj.out;rwa [zD3 (by rw[Hn.out];exact zB0 _)]at this
    have h2:=hwj.out;go_wp2_with fail;exact bodyPost_end (results_none rfl _ _ _) rfl ⟨rfl,h1,h2⟩
theorem aLf {x:St}(h:xD x=true->aA5 x):aA5 x:=by
 exact U79
mutual
theorem aSu:∀x:St,aA5 x
 | .mk k n a ks bs es=>aLf fun hok=>by
  have hB:=zD bs (aEi bs);have hE:=zD es (aEi es);have hS:=aLh ks;obtain⟨hloc,_⟩:=aV hok;obtain⟨h1,h3,h4,_⟩:=mI hloc
  have h8:k=0\/k=1\/k=2\/k=3\/k=4\/k=5\/k=6\/k=7:=by omega
  rcases h8 with rfl|rfl|rfl|rfl|rfl|rfl|rfl|rfl
  .
   simp[cO]at h1
   match ks,h1,hS with
   | [e0],_,hS=>exact aQt n a e0 (hS e0 Q9) bs es hB hE
  .
   simp[cO]at h1
   match ks,h1,hS with
   | [e0,e1],_,hS=>exact aQs n a e0 (hS e0 Q9) e1 (hS e1 Q9) bs es hB hE
  .
   simp[cO]at h1
   match ks,h1,hS with
   | [e0],_,hS=>exact aQr n a e0 (hS e0 Q9) bs es hB hE
  .
   simp[cO]at h1
   match ks,h1,hS with
   | [e0],_,hS=>exact aQq n a e0 (hS e0 Q9) bs es hB hE
  .
   simp[cO]at h1
   match ks,h1,hS with
   | [e0],_,hS=>exact aQp n a e0 (hS e0 Q9) bs es hB hE
  .
   simp[cO]at h1
   match ks,h1,hS with
   | [e0],_,hS=>exact aQo n a e0 (hS e0 Q9) bs es hB hE
  .
   simp[cO]at h1
   subst h1;exact aQn n a bs es hB hE
  .
   simp[cO]at h1
   match ks,h1,hS with
   | [e0],_,hS=>exact aQm n a e0 (hS e0 Q9) bs es hB hE
theorem aEi:∀(l:List St),∀x ∈ l,aA5 x
 | [],x,h=>by simp at h
 | y :: l,x,h=>by
  rcases zG3.1 h with h|h
  .
   rw[h];exact aSu y
  .
   exact aEi l x h
end
theorem Q11{p:Prop}(h:p:=by rw[Ah];first|(simp only[zA1,zB1,zC3];omega)|omega):p:=h
theorem Q14{p:Prop}(h:p:=by first|assumption|exact Al):p:=h
theorem M913{p q:Prop}(k:q)(h:Kx q->p:=by
 intro kQ
 have hp:=Ae
 replace x0:=hq.blk x0 Q5 Q14
 replace hb:=hq.below hb h0 Ao
 replace hw:=hw.trans hq
 revert hw;revert hb;revert x0;revert hp
 exact kQ.o):p:=h ⟨k⟩
theorem M956{p q:Prop}(k:q)(h:Kx q->p:=by
 intro kQ
 obtain⟨q0,q1⟩:=x0.c2
 have kc:=bP c0 (h2.below hb)
 have Ah:aM [⟨#[86,65,82]⟩,(strOfNums name)]=([86,65,82,32])++(name++[32]):=by rw[mO,jB,hpn]
 have HQ:=fH [⟨#[86,65,82]⟩,(strOfNums name)] w1.heap.size 2 2 (w1.alloc (.cells #[.string ⟨#[86,65,82]⟩,.string (strOfNums name)] 9)) base g _ _ (hp.grown (aB w1 _ none)) rfl (Blk.new w1 9 [.string ⟨#[86,65,82]⟩,.string (strOfNums name)]) Q8 Q11 hg
 rw[Ah]at HQ
 revert HQ;revert Ah;revert kc;revert q1;revert q0
 exact kQ.o):p:=h ⟨k⟩
theorem M958{p q:Prop}(k:q)(h:Kx q->p:=by
 intro kQ
 have x0:=Blk.new w 82 [.slice a0 name.length c0,.int .i64 size]
 have hw:aG base (some g) w (w.alloc (.cells #[.slice a0 name.length c0,.int .i64 size] 82 (0,0))):=aG.of (aB w _ none)
 replace hb:Below w0.heap.size w0 (w.alloc (.cells #[.slice a0 name.length c0,.int .i64 size] 82 (0,0))):=hb.alloc hb.size _
 replace hp:=hp.grown (aB w (.cells #[.slice a0 name.length c0,.int .i64 size] 82 (0,0)) none)
 revert hp;revert hb;revert hw;revert x0
 exact kQ.o):p:=h ⟨k⟩
theorem M976{p q:Prop}(k:q)(h:Kx q->p:=by
 intro kQ
 rw[he]at Am
 simp only[zA1,zB1,zC3]at Am
 have HE:=hid he
 have hpn:=cE (g:=false) h2.2.1 hnm
 revert hpn;revert HE;revert Am
 exact kQ.o):p:=h ⟨k⟩
theorem M982{p q:Prop}(k:q)(h:Kx q->p:=by
 intro kQ
 have Ah:aM [⟨#[59]⟩]=([59,10]):=by rw[dU]
 have HQ:=fH [⟨#[59]⟩] w4.heap.size 1 1 (w4.alloc (.cells #[.string ⟨#[59]⟩] 9)) base g _ _ (hp.grown (aB w4 _ none)) rfl (Blk.new w4 9 [.string ⟨#[59]⟩]) Q8 Q11 hg
 rw[Ah]at HQ
 revert HQ;revert Ah
 exact kQ.o):p:=h ⟨k⟩
theorem mO (a b:ByteArray):aM [a,b]=aM [a]++aM [b]:=by simp[aM]
theorem mN (a b c:ByteArray):aM [a,b,c]=aM [a]++aM [b]++aM [c]:=by simp[aM]
theorem aEl (name:List Int)(hnm:aK name false=true):aGz 132 (Pa.fl ⟨name,true⟩) (qM ⟨name,true⟩):=by
 intro w0 w vs base g l v hT hr hb h0 hg hp Am;obtain⟨y0,_,rfl,⟨a0,c0,rfl,h2,hc2,_⟩,y1,_,rfl,rfl,rfl⟩:=hr;simp only[agg];refine M97 ?_;intro hgl Al Ao;have x0:=Blk.new w 98 [.slice a0 name.length c0,.bool true]
 have hw:aG base (some g) w (w.alloc (.cells #[.slice a0 name.length c0,.bool true] 98 (0,0))):=aG.of (aB w _ none)
 replace hb:Below w0.heap.size w0 (w.alloc (.cells #[.slice a0 name.length c0,.bool true] 98 (0,0))):=hb.alloc hb.size _
 replace hp:=hp.grown (aB w (.cells #[.slice a0 name.length c0,.bool true] 98 (0,0)) none);go_enter Tryz.func132,Tryz.ntmps132;go_upto_region 1 with fail;generalize w.alloc (.cells #[.slice a0 name.length c0,.bool true] 98 (0,0))=w1 at *;generalize w.heap.size=gx at *;clear hgl
 have he:qM ⟨name,true⟩=([64,32])++(name++[32]):=by simp[qM]
 refine M976 ?_;clear Am he;intro Am HE hpn
 simp only at h2 hc2 x0 hw hp hpn ⊢
 obtain⟨q0,q1⟩:=x0.c2
 have Ah:aM [⟨#[64]⟩]=([64,32]):=by rw[aEg]
 have HQ:=fH [⟨#[64]⟩] w1.heap.size 1 1 (w1.alloc (.cells #[.string ⟨#[64]⟩] 9)) base g _ _ (hp.grown (aB w1 _ none)) rfl (Blk.new w1 9 [.string ⟨#[64]⟩]) Q8 Q11 hg;rw[Ah]at HQ;clear Ah;go_wp2_with fail;refine HQ.mono ?_;rintro e w2 ⟨rfl,⟨v',Ae⟩,hq⟩;clear q0 q1;replace hq:=(aG.of (aB w1 (.cells #[.string ⟨#[64]⟩] 9) none)).trans hq;clear HQ hp;refine M913 ?_;clear Ae x0 hb hw;intro hp x0 hb hw;clear hq;obtain⟨q0,q1⟩:=x0.c2;have kc:=bP c0 (h2.below hb)
 have Ah:aM [(strOfNums name)]=(name++[32]):=by rw[hpn]
 have HQ:=fH [(strOfNums name)] w2.heap.size 1 1 (w2.alloc (.cells #[.string (strOfNums name)] 9)) base g _ _ (hp.grown (aB w2 _ none)) rfl (Blk.new w2 9 [.string (strOfNums name)]) Q8 Q11 hg;rw[Ah]at HQ;clear Ah;go_wp2_with fail;refine HQ.mono ?_;rintro e w3 ⟨rfl,⟨v',Ae⟩,hq⟩;clear q0 q1;replace hq:=(aG.of (aB w2 (.cells #[.string (strOfNums name)] 9) none)).trans hq;clear HQ hp;refine M913 ?_;clear Ae x0 hb hw;intro hp x0 hb hw;clear hq;obtain⟨q0,q1⟩:=x0.c2;go_wp2_with fail
 have Bh:∃v',Pg w3 base g (l++qM ⟨name,true⟩) v':=⟨_,by rw[HE.out];simpa [zD0] using hp⟩
 exact U7
theorem aCd (name:List Int)(hnm:aK name false=true):aGz 132 (Pa.fl ⟨name,false⟩) (qM ⟨name,false⟩):=by
 intro w0 w vs base g l v hT hr hb h0 hg hp Am;obtain⟨y0,_,rfl,⟨a0,c0,rfl,h2,hc2,_⟩,y1,_,rfl,rfl,rfl⟩:=hr;simp only[agg];refine M97 ?_;intro hgl Al Ao;have x0:=Blk.new w 98 [.slice a0 name.length c0,.bool false]
 have hw:aG base (some g) w (w.alloc (.cells #[.slice a0 name.length c0,.bool false] 98 (0,0))):=aG.of (aB w _ none)
 replace hb:Below w0.heap.size w0 (w.alloc (.cells #[.slice a0 name.length c0,.bool false] 98 (0,0))):=hb.alloc hb.size _
 replace hp:=hp.grown (aB w (.cells #[.slice a0 name.length c0,.bool false] 98 (0,0)) none);go_enter Tryz.func132,Tryz.ntmps132;go_upto_region 1 with fail;generalize w.alloc (.cells #[.slice a0 name.length c0,.bool false] 98 (0,0))=w1 at *;generalize w.heap.size=gx at *;clear hgl
 have he:qM ⟨name,false⟩=(name++[32]):=by simp[qM]
 refine M976 ?_;clear Am he;intro Am HE hpn
 simp only at h2 hc2 x0 hw hp hpn ⊢
 obtain⟨q0,q1⟩:=x0.c2;have kc:=bP c0 (h2.below hb)
 have Ah:aM [(strOfNums name)]=(name++[32]):=by rw[hpn]
 have HQ:=fH [(strOfNums name)] w1.heap.size 1 1 (w1.alloc (.cells #[.string (strOfNums name)] 9)) base g _ _ (hp.grown (aB w1 _ none)) rfl (Blk.new w1 9 [.string (strOfNums name)]) Q8 Q11 hg;rw[Ah]at HQ;clear Ah;go_wp2_with fail;refine HQ.mono ?_;rintro e w2 ⟨rfl,⟨v',Ae⟩,hq⟩;clear q0 q1;replace hq:=(aG.of (aB w1 (.cells #[.string (strOfNums name)] 9) none)).trans hq;clear HQ hp;refine M913 ?_;clear Ae x0 hb hw;intro hp x0 hb hw;clear hq;obtain⟨q0,q1⟩:=x0.c2;go_wp2_with fail
 have Bh:∃v',Pg w2 base g (l++qM ⟨name,false⟩) v':=⟨_,by rw[HE.out];simpa [zD0] using hp⟩
 exact U7
theorem aEk (a:Pa)(h:aDl a=true):aGz 132 a.fl (qM a):=by
 obtain⟨name,arr⟩:=a;cases arr
 .
  exact aCd name h
 .
  exact aEl name h
theorem aEh (name:List Int)(size:Int)(hnm:aK name false=true)(hs:0<size)(hs2:size<=20):aGz 105 (Va.fl ⟨name,size⟩) (dN ⟨name,size⟩):=by
 intro w0 w vs base g l v hT hr hb h0 hg hp Am;obtain⟨y0,_,rfl,⟨a0,c0,rfl,h2,hc2,_⟩,y1,_,rfl,rfl,rfl⟩:=hr;simp only[agg];refine M97 ?_;intro hgl Al Ao;refine M958 ?_;clear hb hp;intro x0 hw hb hp;go_enter Tryz.func105,Tryz.ntmps105;go_upto_region 1 with fail;generalize w.alloc (.cells #[.slice a0 name.length c0,.int .i64 size] 82 (0,0))=w1 at *;generalize w.heap.size=gx at *;clear hgl
 have he:dN ⟨name,size⟩=([86,65,82,32])++(name++[32])++([91,32])++(gL size++[32])++([93,32])++([59,10]):=by simp[dN,hs]
 refine M976 ?_;clear Am he;intro Am HE hpn
 simp only at h2 hc2 x0 hw hp hpn ⊢
 refine M956 ?_;intro q0 q1 kc Ah HQ;clear Ah;go_wp2_with fail;refine HQ.mono ?_;rintro e w2 ⟨rfl,⟨v',Ae⟩,hq⟩;clear q0 q1;replace hq:=(aG.of (aB w1 (.cells #[.string ⟨#[86,65,82]⟩,.string (strOfNums name)] 9) none)).trans hq;clear HQ hp;refine M913 ?_;clear Ae x0 hb hw;intro hp x0 hb hw;clear hq;obtain⟨q0,q1⟩:=x0.c2;clear kc;have HQ:=aL7 size Q0 Q0 w2 (hT.below hb);go_wp2_with fail;refine HQ.mono ?_;rintro e w3 ⟨rfl,hq⟩;clear HQ;clear q0 q1;replace hp:=hp.grown hq
 replace hq:aG base (some g) w2 w3:=aG.of hq
 replace x0:=hq.blk x0 Q5 Q14;replace hb:=hq.below hb h0 Ao;replace hw:=hw.trans hq;clear hq;obtain⟨q0,q1⟩:=x0.c2
 have Ah:aM [⟨#[91]⟩,⟨(Lib.itoa size).toArray⟩,⟨#[93]⟩]=([91,32])++(gL size++[32])++([93,32]):=by rw[mN,uQ,iQ,uP]
 have HQ:=fH [⟨#[91]⟩,⟨(Lib.itoa size).toArray⟩,⟨#[93]⟩] w3.heap.size 3 3 (w3.alloc (.cells #[.string ⟨#[91]⟩,.string ⟨(Lib.itoa size).toArray⟩,.string ⟨#[93]⟩] 9)) base g _ _ (hp.grown (aB w3 _ none)) rfl (Blk.new w3 9 [.string ⟨#[91]⟩,.string ⟨(Lib.itoa size).toArray⟩,.string ⟨#[93]⟩]) Q8 Q11 hg;rw[Ah]at HQ;clear Ah;go_wp2_with fail;refine HQ.mono ?_;rintro e w4 ⟨rfl,⟨v',Ae⟩,hq⟩;clear q0 q1;replace hq:=(aG.of (aB w3 (.cells #[.string ⟨#[91]⟩,.string ⟨(Lib.itoa size).toArray⟩,.string ⟨#[93]⟩] 9) none)).trans hq;clear HQ hp;refine M913 ?_;clear Ae x0 hb hw;intro hp x0 hb hw;clear hq;obtain⟨q0,q1⟩:=x0.c2;refine M982 ?_;intro Ah HQ;clear Ah;go_wp2_with fail;refine HQ.mono ?_;rintro e w5 ⟨rfl,⟨v',Ae⟩,hq⟩;clear q0 q1;replace hq:=(aG.of (aB w4 (.cells #[.string ⟨#[59]⟩] 9) none)).trans hq;clear HQ hp;refine M913 ?_;clear Ae x0 hb hw;intro hp x0 hb hw;clear hq;obtain⟨q0,q1⟩:=x0.c2;go_wp2_with fail
 have Bh:∃v',Pg w5 base g (l++dN ⟨name,size⟩) v':=⟨_,by rw[HE.out];simpa [zD0] using hp⟩
 exact U7
theorem aHz (name:List Int)(size:Int)(hnm:aK name false=true)(hs:¬0<size)(hs2:size<=20):aGz 105 (Va.fl ⟨name,size⟩) (dN ⟨name,size⟩):=by
 intro w0 w vs base g l v hT hr hb h0 hg hp Am;obtain⟨y0,_,rfl,⟨a0,c0,rfl,h2,hc2,_⟩,y1,_,rfl,rfl,rfl⟩:=hr;simp only[agg];refine M97 ?_;intro hgl Al Ao;refine M958 ?_;clear hb hp;intro x0 hw hb hp;go_enter Tryz.func105,Tryz.ntmps105;go_upto_region 1 with fail;generalize w.alloc (.cells #[.slice a0 name.length c0,.int .i64 size] 82 (0,0))=w1 at *;generalize w.heap.size=gx at *;clear hgl
 have he:dN ⟨name,size⟩=([86,65,82,32])++(name++[32])++([59,10]):=by simp[dN,hs]
 refine M976 ?_;clear Am he;intro Am HE hpn
 simp only at h2 hc2 x0 hw hp hpn ⊢
 refine M956 ?_;intro q0 q1 kc Ah HQ;clear Ah;go_wp2_with fail;refine HQ.mono ?_;rintro e w2 ⟨rfl,⟨v',Ae⟩,hq⟩;clear q0 q1;replace hq:=(aG.of (aB w1 (.cells #[.string ⟨#[86,65,82]⟩,.string (strOfNums name)] 9) none)).trans hq;clear HQ hp;refine M913 ?_;clear Ae x0 hb hw;intro hp x0 hb hw;clear hq;obtain⟨q0,q1⟩:=x0.c2;clear kc
 have Ah:aM [⟨#[59]⟩]=([59,10]):=by rw[dU]
 have HQ:=fH [⟨#[59]⟩] w2.heap.size 1 1 (w2.alloc (.cells #[.string ⟨#[59]⟩] 9)) base g _ _ (hp.grown (aB w2 _ none)) rfl (Blk.new w2 9 [.string ⟨#[59]⟩]) Q8 Q11 hg;rw[Ah]at HQ;clear Ah;go_wp2_with fail;refine HQ.mono ?_;rintro e w3 ⟨rfl,⟨v',Ae⟩,hq⟩;clear q0 q1;replace hq:=(aG.of (aB w2 (.cells #[.string ⟨#[59]⟩] 9) none)).trans hq;clear HQ hp;refine M913 ?_;clear Ae x0 hb hw;intro hp x0 hb hw;clear hq;obtain⟨q0,q1⟩:=x0.c2;go_wp2_with fail
 have Bh:∃v',Pg w3 base g (l++dN ⟨name,size⟩) v':=⟨_,by rw[HE.out];simpa [zD0] using hp⟩
 exact U7
theorem aCc (a:Va)(h:mD a=true):aGz 105 a.fl (dN a):=by
 obtain⟨name,size⟩:=a;simp only[mD,inB,zC0,zE3]at h
 by_cases hs:0<size
 .
  exact aEh name size h.1 hs h.2.2
 .
  exact aHz name size h.1 hs h.2.2
theorem Q67{p:Prop}(h:p:=by rw[HXN.out];omega):p:=h
theorem U13{p:Prop}(h:p:=by
 go_wp2
 go_roundw
 case rel=>exact⟨j+1,by omega,by go_num,⟨v',by rw[HJ.out,<-zD0];exact HP3.out⟩,HW3⟩
 case measure=>simp[intOf];omega):p:=h
theorem M940{p q:Prop}(k:q)(h:Kx q->p:=by
 intro kQ
 have hxo:=HOK.out x (zA3 hx)
 have hpn:=cE (g:=false) hbx.2.1 hxo
 have r0:=aC (Ab 0 _ rfl) hb
 simp only[zG1,Nat.mul_one]at r0
 have kc:=bP cx (hbx.below hb)
 simp only[aT,zA1,zB1,zC3]at Ak
 have Ah:aM [⟨#[86,65,82]⟩,(strOfNums x),⟨#[59]⟩]=aT x:=by rw[mN,jB,hpn,dU];rfl
 have HQ:=fH [⟨#[86,65,82]⟩,(strOfNums x),⟨#[59]⟩] wr.heap.size 3 3 (wr.alloc (.cells #[.string ⟨#[86,65,82]⟩,.string (strOfNums x),.string ⟨#[59]⟩] 9)) base g _ _ (hp.grown (aB wr _ none)) rfl (Blk.new wr 9 [.string ⟨#[86,65,82]⟩,.string (strOfNums x),.string ⟨#[59]⟩]) Q8 (by rw[Ah];simp only[aT,zA1,zB1,zC3];omega) hg
 rw[Ah]at HQ
 revert HQ;revert Ah;revert Ak;revert kc;revert r0;revert hpn;revert hxo
 exact kQ.o):p:=h ⟨k⟩
theorem M963{p q:Prop}(k:q)(h:Kx q->p:=by
 intro kQ
 obtain⟨v1,hp⟩:=hpj.out
 have hw:=hwj.out
 obtain⟨x,hx⟩:∃x,locals[j]?=some x:=⟨locals[j],zA0 _⟩
 have hb:=hw.below HSB.out h0 Ao
 have HJ:Hid ((locals.take (j+1)).flatMap aT=(locals.take j).flatMap aT++aT x):=dL hx
 have Ak:((locals.take j).flatMap aT).length+(aT x).length<=(locals.flatMap aT).length:=by have h1:=fQ aT locals (j+1);rw[dL hx,zA1]at h1;exact h1
 revert Ak;revert HJ;revert hb;revert hx;revert x;revert hw;revert hp;revert v1
 exact kQ.o):p:=h ⟨k⟩
theorem dL {α:Type}{f:α->List Int}{l:List α}{j:Nat}{x:α}(h:l[j]?=some x):(l.take (j+1)).flatMap f=(l.take j).flatMap f++f x:=by
 obtain⟨hk,rfl⟩:=zC1.1 h;rw[zF1 hk,List.flatMap_append];simp
theorem fQ {α:Type}(f:α->List Int)(l:List α)(j:Nat):((l.take j).flatMap f).length<=(l.flatMap f).length:=by
 conv=>rhs;rw[<-List.take_append_drop j l,List.flatMap_append,zA1]
 omega
set_option maxHeartbeats 4000000 in
theorem aLg (name:List Int)(opn:Bool)(params:List Pa)(locals:List (List Int))(body:List St)(hnm:aK name false=true)(hpok:∀x ∈ params,aDl x=true)(hlok:∀x ∈ locals,jU x=true)(hbok:gJ body=true):aGz 106 (Pr.fl ⟨name,opn,params,locals,body⟩) (cJ ⟨name,opn,params,locals,body⟩):=by
 intro w0 w vs base g l v hT hr hb h0 hg hp Am;obtain⟨y0,_,rfl,⟨a0,c0,rfl,h2,hc2,_⟩,y1,_,rfl,rfl,y2,_,rfl,hP',y3,_,rfl,hL',y4,_,rfl,hB',rfl⟩:=hr;obtain⟨a2,c2,rfl,hP⟩:=hP'.list;obtain⟨a3,c3,rfl,hL⟩:=hL'.list;obtain⟨a4,c4,rfl,hB⟩:=hB'.list;clear hP' hL' hB'
 simp only at h2 hc2 hP hL hB ⊢
 have k2:(params.map Pa.fl).length=params.length:=by simp
 have k3:(dC locals).length=locals.length:=by simp[dC]
 have k4:(sts body).length=body.length:=by simp[bL]
 have n3:locals.length<=9223372036854775807:=by have h5:=hL.cap;have h6:=hL.most;unfold maxLen at h6;omega
 rw[k2,k3,k4];simp only[agg];refine M97 ?_;intro hgl Al Ao;have x0:=Blk.new w 55 [.slice a0 name.length c0,.bool opn,.slice a2 params.length c2,.slice a3 locals.length c3,.slice a4 body.length c4]
 have hw:aG base (some g) w (w.alloc (.cells #[.slice a0 name.length c0,.bool opn,.slice a2 params.length c2,.slice a3 locals.length c3,.slice a4 body.length c4] 55 (0,0))):=aG.of (aB w _ none)
 replace hb:Below w0.heap.size w0 (w.alloc (.cells #[.slice a0 name.length c0,.bool opn,.slice a2 params.length c2,.slice a3 locals.length c3,.slice a4 body.length c4] 55 (0,0))):=hb.alloc hb.size _
 replace hp:=hp.grown (aB w (.cells #[.slice a0 name.length c0,.bool opn,.slice a2 params.length c2,.slice a3 locals.length c3,.slice a4 body.length c4] 55 (0,0)) none);go_enter Tryz.func106,Tryz.ntmps106;go_upto_region 1 with fail;generalize w.alloc (.cells #[.slice a0 name.length c0,.bool opn,.slice a2 params.length c2,.slice a3 locals.length c3,.slice a4 body.length c4] 55 (0,0))=w1 at *;generalize w.heap.size=gx at *;clear hgl;simp only[cJ,zA1,zB1,zC3]at Am
 have hsz2:l.length+(6+name.length+(if opn then 2 else 0)+(brI (params.map qM)).length+2+(locals.flatMap aT).length+6+(prB body).length+6)<=1000000000:=by
  simp only[brI,zA1,zB1,zC3]
  cases opn <;> simp at Am ⊢ <;> omega
 clear Am;have hpn:=cE (g:=false) h2.2.1 hnm
 obtain⟨LO,hLO⟩:∃x:List Int,x=(if opn then [42,32] else []):=⟨_,rfl⟩
 have hLOl:LO.length=if opn then 2 else 0:=by rw[hLO];cases opn <;> rfl
 rw[<-hLOl]at hsz2;obtain⟨q0,q1,q2,q3,q4⟩:=x0.c5;have kc:=bP c0 (h2.below hb)
 have Ah:aM [⟨#[80,82,79,67]⟩,(strOfNums name)]=([80,82,79,67,32])++(name++[32]):=by rw[mO,pP,hpn]
 have HQ:=fH [⟨#[80,82,79,67]⟩,(strOfNums name)] w1.heap.size 2 2 (w1.alloc (.cells #[.string ⟨#[80,82,79,67]⟩,.string (strOfNums name)] 9)) base g _ _ (hp.grown (aB w1 _ none)) rfl (Blk.new w1 9 [.string ⟨#[80,82,79,67]⟩,.string (strOfNums name)]) Q8 Q11 hg;rw[Ah]at HQ;clear Ah;go_wp2_with fail;refine HQ.mono ?_;rintro e w2 ⟨rfl,⟨v',Ae⟩,hq⟩;clear q0 q1 q2 q3 q4;replace hq:=(aG.of (aB w1 (.cells #[.string ⟨#[80,82,79,67]⟩,.string (strOfNums name)] 9) none)).trans hq;clear HQ hp;have hp:=Ae;clear Ae;replace x0:=hq.blk x0 Q5 Q14;refine M95 ?_;clear hb hw hq;intro hb hw q0 q1 q2 q3 q4;clear kc
 have HO:∃wO vO,True:=⟨w2,v,trivial⟩
 clear HO;cases opn
 .
  subst hLO;try simp only[if_true,if_false,Bool.false_eq_true,zB1,zC3]at hsz2
  have HQ:=oL 132 (cQ Tryz.func132 rfl rfl) qM params (fun x hx=>aEk x (hpok x hx)) w0 w2 a2 c2 base g _ _ hT hP hb h0 hg hp Q13
  go_wp2_with fail;refine HQ.mono ?_;rintro e w3 ⟨rfl,⟨v',Ae⟩,hq⟩;clear q0 q1 q2 q3 q4;clear HQ hp;have hp:=Ae;clear Ae;replace x0:=hq.blk x0 Q5 Q14;refine M95 ?_;clear hb hw hq;intro hb hw q0 q1 q2 q3 q4
  have Ah:aM [⟨#[59]⟩]=([59,10]):=by rw[dU]
  have HQ:=fH [⟨#[59]⟩] w3.heap.size 1 1 (w3.alloc (.cells #[.string ⟨#[59]⟩] 9)) base g _ _ (hp.grown (aB w3 _ none)) rfl (Blk.new w3 9 [.string ⟨#[59]⟩]) Q8 Q11 hg;rw[Ah]at HQ;clear Ah;go_wp2_with fail;refine HQ.mono ?_;rintro e w4 ⟨rfl,⟨v',Ae⟩,hq⟩;clear q0 q1 q2 q3 q4;replace hq:=(aG.of (aB w3 (.cells #[.string ⟨#[59]⟩] 9) none)).trans hq;clear HQ hp;have hp:=Ae;clear Ae;replace x0:=hq.blk x0 Q5 Q14;refine M95 ?_;clear hb hw hq;intro hb hw q0 q1 q2 q3 q4;have HXL:=hid hL;have HXN:=hid k3;have HOK:=hid hlok;go_wp2_with fail;clear q0 q1 q2 q3 q4
  obtain⟨LA,hLA⟩:∃z,z=l++(([80,82,79,67,32])++(name++[32]))++brI (params.map qM)++(([59,10])):=⟨_,rfl⟩
  rw[<-hLA]at hp;have hlA:=congrArg List.length hLA;simp only[zA1,zB1,zC3]at hlA;have HSX:=hid hw;have HSB:=hid hb;have HSx:=hid x0
  have HSp:Hid (∃v',Pg w4 base g (LA++(locals.take 0).flatMap aT) v'):=⟨_,by simpa using hp⟩
  clear hp hw hb x0
  go_loopw [5,29] (fun _ i wr=>∃j:Nat,j<=locals.length/\i=.int .i64 j/\Hid (∃v',Pg wr base g (LA++(locals.take j).flatMap aT) v')/\Hid (aG base (some g) w4 wr)) (fun _ i _=>locals.length-(intOf i).toNat)
  case atStart=>exact⟨0,zD1 _,rfl,HSp,aG.refl _ _ _⟩
  case round=>
   obtain⟨j,hj,rfl,hpj,hwj⟩:=hrel;clear HSp
   by_cases Aj:j<locals.length
   .
    refine M963 ?_;intro v1 hp hw x hx hb HJ Ak;obtain⟨bx,offx,rfl⟩:=bQ.addr HXL.out Q67
    obtain⟨vs,Ai,Ab⟩:=(bQ.el HXL.out (show _=some [Fl.b x] by unfold dC;rw[zA2,hx];rfl)).vals
    obtain⟨y0,us,rfl,⟨ax,cx,rfl,hbx,_⟩,rfl⟩:=Ai;refine M940 ?_;clear Ab hx hpj hwj Ak;intro hxo hpn r0 kc Ak Ah HQ;clear Ah;go_wp2_with fail;refine HQ.mono ?_;rintro e wq ⟨rfl,⟨v',Ae⟩,hq⟩;have HP3:=hid Ae
    have HW3:Hid (aG base (some g) w4 wq):=hw.trans ((aG.of (aB wr (.cells #[.string ⟨#[86,65,82]⟩,.string (strOfNums x),.string ⟨#[59]⟩] 9) none)).trans hq)
    clear HQ hp Ae hq hw hb r0 kc;exact U13
   .
    have:j=locals.length:=by omega
    subst this
    have hp:∃v',Pg wr base g (LA++locals.flatMap aT) v':=by have:=hpj.out;rwa [zD3 (zB0 _)]at this
    obtain⟨v1,hp⟩:=hp;have hw:=HSX.out.trans hwj.out;have hb:=hwj.out.below HSB.out h0 Ao;have x0:=hwj.out.blk HSx.out Q5 Al;clear hpj hwj HSX HSB HSx;generalize wr=w5 at *;obtain⟨q0,q1,q2,q3,q4⟩:=x0.c5
    have Ah:aM [⟨#[66,69,71,73,78]⟩]=([66,69,71,73,78,10]):=by rw[jC]
    have HQ:=fH [⟨#[66,69,71,73,78]⟩] w5.heap.size 1 1 (w5.alloc (.cells #[.string ⟨#[66,69,71,73,78]⟩] 9)) base g _ _ (hp.grown (aB w5 _ none)) rfl (Blk.new w5 9 [.string ⟨#[66,69,71,73,78]⟩]) Q8 Q11 hg;rw[Ah]at HQ;clear Ah;go_wp2_with fail;refine HQ.mono ?_;rintro e w6 ⟨rfl,⟨v',Ae⟩,hq⟩;clear q0 q1 q2 q3 q4;replace hq:=(aG.of (aB w5 (.cells #[.string ⟨#[66,69,71,73,78]⟩] 9) none)).trans hq;clear HQ hp;have hp:=Ae;clear Ae;replace x0:=hq.blk x0 Q5 Q14;refine M95 ?_;clear hb hw hq;intro hb hw q0 q1 q2 q3 q4;have HQ:=zD body (aEi body) w0 w6 a4 c4 base g _ _ hT hB hb h0 hg hp hbok Q13;go_wp2_with fail;refine HQ.mono ?_;rintro e w7 ⟨rfl,⟨v',Ae⟩,hq⟩;clear q0 q1 q2 q3 q4;clear HQ hp;have hp:=Ae;clear Ae;replace x0:=hq.blk x0 Q5 Q14;refine M95 ?_;clear hb hw hq;intro hb hw q0 q1 q2 q3 q4
    have Ah:aM [⟨#[69,78,68]⟩,⟨#[59]⟩]=([69,78,68,32])++([59,10]):=by rw[mO,eO,dU]
    have HQ:=fH [⟨#[69,78,68]⟩,⟨#[59]⟩] w7.heap.size 2 2 (w7.alloc (.cells #[.string ⟨#[69,78,68]⟩,.string ⟨#[59]⟩] 9)) base g _ _ (hp.grown (aB w7 _ none)) rfl (Blk.new w7 9 [.string ⟨#[69,78,68]⟩,.string ⟨#[59]⟩]) Q8 Q11 hg;rw[Ah]at HQ;clear Ah;go_wp2_with fail;refine HQ.mono ?_;rintro e w8 ⟨rfl,⟨v',Ae⟩,hq⟩;clear q0 q1 q2 q3 q4;replace hq:=(aG.of (aB w7 (.cells #[.string ⟨#[69,78,68]⟩,.string ⟨#[59]⟩] 9) none)).trans hq;clear HQ hp;have hp:=Ae;clear Ae;replace x0:=hq.blk x0 Q5 Q14;refine M95 ?_;clear hb hw hq;intro hb hw q0 q1 q2 q3 q4;go_wp2_with fail
    have Bh:∃v',Pg w8 base g (l++cJ ⟨name,false,params,locals,body⟩) v':=⟨_,by rw[hLA]at hp;simpa [cJ,brI,zD0] using hp⟩
    exact U7
 .
  subst hLO;try simp only[if_true,if_false,Bool.false_eq_true,zB1,zC3]at hsz2
  have Ah:aM [⟨#[42]⟩]=([42,32]):=by rw[aJ0]
  have HQ:=fH [⟨#[42]⟩] w2.heap.size 1 1 (w2.alloc (.cells #[.string ⟨#[42]⟩] 9)) base g _ _ (hp.grown (aB w2 _ none)) rfl (Blk.new w2 9 [.string ⟨#[42]⟩]) Q8 Q11 hg;rw[Ah]at HQ;clear Ah;go_wp2_with fail;refine HQ.mono ?_;rintro e w3 ⟨rfl,⟨v',Ae⟩,hq⟩;clear q0 q1 q2 q3 q4;replace hq:=(aG.of (aB w2 (.cells #[.string ⟨#[42]⟩] 9) none)).trans hq;clear HQ hp;have hp:=Ae;clear Ae;replace x0:=hq.blk x0 Q5 Q14;refine M95 ?_;clear hb hw hq;intro hb hw q0 q1 q2 q3 q4
  have HQ:=oL 132 (cQ Tryz.func132 rfl rfl) qM params (fun x hx=>aEk x (hpok x hx)) w0 w3 a2 c2 base g _ _ hT hP hb h0 hg hp Q13
  go_wp2_with fail;refine HQ.mono ?_;rintro e w4 ⟨rfl,⟨v',Ae⟩,hq⟩;clear q0 q1 q2 q3 q4;clear HQ hp;have hp:=Ae;clear Ae;replace x0:=hq.blk x0 Q5 Q14;refine M95 ?_;clear hb hw hq;intro hb hw q0 q1 q2 q3 q4;refine M982 ?_;intro Ah HQ;clear Ah;go_wp2_with fail;refine HQ.mono ?_;rintro e w5 ⟨rfl,⟨v',Ae⟩,hq⟩;clear q0 q1 q2 q3 q4;replace hq:=(aG.of (aB w4 (.cells #[.string ⟨#[59]⟩] 9) none)).trans hq;clear HQ hp;have hp:=Ae;clear Ae;replace x0:=hq.blk x0 Q5 Q14;refine M95 ?_;clear hb hw hq;intro hb hw q0 q1 q2 q3 q4;have HXL:=hid hL;have HXN:=hid k3;have HOK:=hid hlok;go_wp2_with fail;clear q0 q1 q2 q3 q4
  obtain⟨LA,hLA⟩:∃z,z=l++(([80,82,79,67,32])++(name++[32]))++(([42,32]))++brI (params.map qM)++(([59,10])):=⟨_,rfl⟩
  rw[<-hLA]at hp;have hlA:=congrArg List.length hLA;simp only[zA1,zB1,zC3]at hlA;have HSX:=hid hw;have HSB:=hid hb;have HSx:=hid x0
  have HSp:Hid (∃v',Pg w5 base g (LA++(locals.take 0).flatMap aT) v'):=⟨_,by simpa using hp⟩
  clear hp hw hb x0
  go_loopw [5,29] (fun _ i wr=>∃j:Nat,j<=locals.length/\i=.int .i64 j/\Hid (∃v',Pg wr base g (LA++(locals.take j).flatMap aT) v')/\Hid (aG base (some g) w5 wr)) (fun _ i _=>locals.length-(intOf i).toNat)
  case atStart=>exact⟨0,zD1 _,rfl,HSp,aG.refl _ _ _⟩
  case round=>
   obtain⟨j,hj,rfl,hpj,hwj⟩:=hrel;clear HSp
   by_cases Aj:j<locals.length
   .
    refine M963 ?_;intro v1 hp hw x hx hb HJ Ak;obtain⟨bx,offx,rfl⟩:=bQ.addr HXL.out Q67
    obtain⟨vs,Ai,Ab⟩:=(bQ.el HXL.out (show _=some [Fl.b x] by unfold dC;rw[zA2,hx];rfl)).vals
    obtain⟨y0,us,rfl,⟨ax,cx,rfl,hbx,_⟩,rfl⟩:=Ai;refine M940 ?_;clear Ab hx hpj hwj Ak;intro hxo hpn r0 kc Ak Ah HQ;clear Ah;go_wp2_with fail;refine HQ.mono ?_;rintro e wq ⟨rfl,⟨v',Ae⟩,hq⟩;have HP3:=hid Ae
    have HW3:Hid (aG base (some g) w5 wq):=hw.trans ((aG.of (aB wr (.cells #[.string ⟨#[86,65,82]⟩,.string (strOfNums x),.string ⟨#[59]⟩] 9) none)).trans hq)
    clear HQ hp Ae hq hw hb r0 kc;exact U13
   .
    have:j=locals.length:=by omega
    subst this
    have hp:∃v',Pg wr base g (LA++locals.flatMap aT) v':=by have:=hpj.out;rwa [zD3 (zB0 _)]at this
    obtain⟨v1,hp⟩:=hp;have hw:=HSX.out.trans hwj.out;have hb:=hwj.out.below HSB.out h0 Ao;have x0:=hwj.out.blk HSx.out Q5 Al;clear hpj hwj HSX HSB HSx;generalize wr=w6 at *;obtain⟨q0,q1,q2,q3,q4⟩:=x0.c5
    have Ah:aM [⟨#[66,69,71,73,78]⟩]=([66,69,71,73,78,10]):=by rw[jC]
    have HQ:=fH [⟨#[66,69,71,73,78]⟩] w6.heap.size 1 1 (w6.alloc (.cells #[.string ⟨#[66,69,71,73,78]⟩] 9)) base g _ _ (hp.grown (aB w6 _ none)) rfl (Blk.new w6 9 [.string ⟨#[66,69,71,73,78]⟩]) Q8 Q11 hg;rw[Ah]at HQ;clear Ah;go_wp2_with fail;refine HQ.mono ?_;rintro e w7 ⟨rfl,⟨v',Ae⟩,hq⟩;clear q0 q1 q2 q3 q4;replace hq:=(aG.of (aB w6 (.cells #[.string ⟨#[66,69,71,73,78]⟩] 9) none)).trans hq;clear HQ hp;have hp:=Ae;clear Ae;replace x0:=hq.blk x0 Q5 Q14;refine M95 ?_;clear hb hw hq;intro hb hw q0 q1 q2 q3 q4;have HQ:=zD body (aEi body) w0 w7 a4 c4 base g _ _ hT hB hb h0 hg hp hbok Q13;go_wp2_with fail;refine HQ.mono ?_;rintro e w8 ⟨rfl,⟨v',Ae⟩,hq⟩;clear q0 q1 q2 q3 q4;clear HQ hp;have hp:=Ae;clear Ae;replace x0:=hq.blk x0 Q5 Q14;refine M95 ?_;clear hb hw hq;intro hb hw q0 q1 q2 q3 q4
    have Ah:aM [⟨#[69,78,68]⟩,⟨#[59]⟩]=([69,78,68,32])++([59,10]):=by rw[mO,eO,dU]
    have HQ:=fH [⟨#[69,78,68]⟩,⟨#[59]⟩] w8.heap.size 2 2 (w8.alloc (.cells #[.string ⟨#[69,78,68]⟩,.string ⟨#[59]⟩] 9)) base g _ _ (hp.grown (aB w8 _ none)) rfl (Blk.new w8 9 [.string ⟨#[69,78,68]⟩,.string ⟨#[59]⟩]) Q8 Q11 hg;rw[Ah]at HQ;clear Ah;go_wp2_with fail;refine HQ.mono ?_;rintro e w9 ⟨rfl,⟨v',Ae⟩,hq⟩;clear q0 q1 q2 q3 q4;replace hq:=(aG.of (aB w8 (.cells #[.string ⟨#[69,78,68]⟩,.string ⟨#[59]⟩] 9) none)).trans hq;clear HQ hp;have hp:=Ae;clear Ae;replace x0:=hq.blk x0 Q5 Q14;refine M95 ?_;clear hb hw hq;intro hb hw q0 q1 q2 q3 q4;go_wp2_with fail
    have Bh:∃v',Pg w9 base g (l++cJ ⟨name,true,params,locals,body⟩) v':=⟨_,by rw[hLA]at hp;simpa [cJ,brI,zD0] using hp⟩
    exact U7
theorem wW (q:Pr)(h:kH q=true/\gJ q.body=true):aGz 106 q.fl (cJ q):=by
 obtain⟨name,opn,params,locals,body⟩:=q;obtain⟨h1,h2⟩:=h;simp only[kH,zC0,zF3]at h1;exact aLg name opn params locals body h1.1.1.1.1 h1.1.1.2 h1.2 h2
set_option maxHeartbeats 8000000 in
theorem aQu (name:List Int)(uses:List (List Int))(vars:List Va)(procs:List Pr)(hnm:aK name true=true)(huok:∀x ∈ uses,jJ x=true)(hvok:∀x ∈ vars,mD x=true)(hpok:∀x ∈ procs,kH x=true/\gJ x.body=true):aGz 74 (Mo.fl ⟨name,uses,vars,procs⟩) (prM ⟨name,uses,vars,procs⟩):=by
 intro w0 w vs base g l v hT hr hb h0 hg hp Am;obtain⟨y0,_,rfl,⟨a0,c0,rfl,h2,hc2,_⟩,y1,_,rfl,hU',y2,_,rfl,hV',y3,_,rfl,hP',rfl⟩:=hr;obtain⟨a1,c1,rfl,hU⟩:=hU'.list;obtain⟨a2,c2,rfl,hV⟩:=hV'.list;obtain⟨a3,c3,rfl,hP⟩:=hP'.list;clear hU' hV' hP'
 simp only at h2 hc2 hU hV hP ⊢
 have k1:(dC uses).length=uses.length:=by simp[dC]
 have k2:(vars.map Va.fl).length=vars.length:=by simp
 have k3:(procs.map Pr.fl).length=procs.length:=by simp
 have n1:uses.length<=9223372036854775807:=by have h5:=hU.cap;have h6:=hU.most;unfold maxLen at h6;omega
 have n2:vars.length<=9223372036854775807:=by have h5:=hV.cap;have h6:=hV.most;unfold maxLen at h6;omega
 have n3:procs.length<=9223372036854775807:=by have h5:=hP.cap;have h6:=hP.most;unfold maxLen at h6;omega
 rw[k1,k2,k3];simp only[agg];have hgl:=hp.blk.lt
 have Al:some w.heap.size ≠ some g:=by simp;omega
 have Ao:∀k,some g=some k->w0.heap.size<=k:=by intro k e;cases e;omega
 have x0:=Blk.new w 27 [.slice a0 name.length c0,.slice a1 uses.length c1,.slice a2 vars.length c2,.slice a3 procs.length c3]
 have hw:aG base (some g) w (w.alloc (.cells #[.slice a0 name.length c0,.slice a1 uses.length c1,.slice a2 vars.length c2,.slice a3 procs.length c3] 27 (0,0))):=aG.of (aB w _ none)
 replace hb:Below w0.heap.size w0 (w.alloc (.cells #[.slice a0 name.length c0,.slice a1 uses.length c1,.slice a2 vars.length c2,.slice a3 procs.length c3] 27 (0,0))):=hb.alloc hb.size _
 replace hp:=hp.grown (aB w (.cells #[.slice a0 name.length c0,.slice a1 uses.length c1,.slice a2 vars.length c2,.slice a3 procs.length c3] 27 (0,0)) none);go_enter Tryz.func74,Tryz.ntmps74;go_upto_region 1 with fail;generalize w.alloc (.cells #[.slice a0 name.length c0,.slice a1 uses.length c1,.slice a2 vars.length c2,.slice a3 procs.length c3] 27 (0,0))=w1 at *;generalize w.heap.size=gx at *;clear hgl;simp only[prM,zA1,zB1,zC3]at Am;have hpn:=cE (g:=true) h2.2.1 hnm;obtain⟨q0,q1,q2,q3⟩:=x0.c4;have kc:=bP c0 (h2.below hb)
 have Ah:aM [⟨#[77,79,68,85,76,69]⟩,(strOfNums name),⟨#[59]⟩]=([77,79,68,85,76,69,32])++(name++[32])++([59,10]):=by rw[mN,kQ,hpn,dU]
 have HQ:=fH [⟨#[77,79,68,85,76,69]⟩,(strOfNums name),⟨#[59]⟩] w1.heap.size 3 3 (w1.alloc (.cells #[.string ⟨#[77,79,68,85,76,69]⟩,.string (strOfNums name),.string ⟨#[59]⟩] 9)) base g _ _ (hp.grown (aB w1 _ none)) rfl (Blk.new w1 9 [.string ⟨#[77,79,68,85,76,69]⟩,.string (strOfNums name),.string ⟨#[59]⟩]) Q8 Q11 hg;rw[Ah]at HQ;clear Ah;go_wp2_with fail;refine HQ.mono ?_;rintro e w2 ⟨rfl,⟨v',Ae⟩,hq⟩;clear q0 q1 q2 q3;replace hq:=(aG.of (aB w1 (.cells #[.string ⟨#[77,79,68,85,76,69]⟩,.string (strOfNums name),.string ⟨#[59]⟩] 9) none)).trans hq;clear HQ hp;have hp:=Ae;clear Ae;replace x0:=hq.blk x0 Q5 Q14;replace hb:=hq.below hb h0 Ao;replace hw:=hw.trans hq;clear hq;obtain⟨q0,q1,q2,q3⟩:=x0.c4;clear kc
 have HXL:Hid (bQ w0 a1 c1 1 (dC uses)):=hU
 have HXN:Hid ((dC uses).length=uses.length):=k1
 have HOK:Hid (∀x ∈ uses,aK x true=true):=huok
 go_wp2_with fail;clear q0 q1 q2 q3
 obtain⟨LA,hLA⟩:∃z,z=l++(([77,79,68,85,76,69,32])++(name++[32])++([59,10])):=⟨_,rfl⟩
 rw[<-hLA]at hp;have hlA:=congrArg List.length hLA;simp only[zA1,zB1,zC3]at hlA
 have HSX:Hid (aG base (some g) w w2):=hw
 have HSB:Hid (Below w0.heap.size w0 w2):=hb
 have HSx:Hid _:=x0
 have HSp:Hid (∃v',Pg w2 base g (LA++(uses.take 0).flatMap fW) v'):=⟨_,by simpa using hp⟩
 clear hp hw hb x0
 go_loopw [5,19] (fun _ i wr=>∃j:Nat,j<=uses.length/\i=.int .i64 j/\Hid (∃v',Pg wr base g (LA++(uses.take j).flatMap fW) v')/\Hid (aG base (some g) w2 wr)) (fun _ i _=>uses.length-(intOf i).toNat)
 case atStart=>exact⟨0,zD1 _,rfl,HSp,aG.refl _ _ _⟩
 case round=>
  obtain⟨j,hj,rfl,hpj,hwj⟩:=hrel;clear HSp
  by_cases Aj:j<uses.length
  .
   obtain⟨v1,hp⟩:=hpj.out;have hw:=hwj.out
   obtain⟨x,hx⟩:∃x,uses[j]?=some x:=⟨uses[j],zA0 _⟩
   have hb:=hw.below HSB.out h0 Ao
   have HJ:Hid ((uses.take (j+1)).flatMap fW=(uses.take j).flatMap fW++fW x):=dL hx
   have Ak:((uses.take j).flatMap fW).length+(fW x).length<=(uses.flatMap fW).length:=by have h1:=fQ fW uses (j+1);rw[dL hx,zA1]at h1;exact h1
   obtain⟨bx,offx,rfl⟩:=bQ.addr HXL.out Q67
   obtain⟨vs,Ai,Ab⟩:=(bQ.el HXL.out (show _=some [Fl.b x] by unfold dC;rw[zA2,hx];rfl)).vals
   obtain⟨y0,us,rfl,⟨ax,cx,rfl,hbx,_⟩,rfl⟩:=Ai;have hxo:=HOK.out x (zA3 hx);have hpn:=cE (g:=true) hbx.2.1 hxo;have r0:=aC (Ab 0 _ rfl) hb;simp only[zG1,Nat.mul_one]at r0;have kc:=bP cx (hbx.below hb);clear Ab hx hpj hwj;simp only[fW,zA1,zB1,zC3]at Ak
   have Ah:aM [⟨#[73,77,80,79,82,84]⟩,(strOfNums x),⟨#[59]⟩]=fW x:=by rw[mN,kR,hpn,dU];rfl
   have HQ:=fH [⟨#[73,77,80,79,82,84]⟩,(strOfNums x),⟨#[59]⟩] wr.heap.size 3 3 (wr.alloc (.cells #[.string ⟨#[73,77,80,79,82,84]⟩,.string (strOfNums x),.string ⟨#[59]⟩] 9)) base g _ _ (hp.grown (aB wr _ none)) rfl (Blk.new wr 9 [.string ⟨#[73,77,80,79,82,84]⟩,.string (strOfNums x),.string ⟨#[59]⟩]) Q8 (by rw[Ah];simp only[fW,zA1,zB1,zC3];omega) hg
   rw[Ah]at HQ;clear Ah;go_wp2_with fail;refine HQ.mono ?_;rintro e wq ⟨rfl,⟨v',Ae⟩,hq⟩
   have HP3:Hid _:=Ae
   have HW3:Hid (aG base (some g) w2 wq):=hw.trans ((aG.of (aB wr (.cells #[.string ⟨#[73,77,80,79,82,84]⟩,.string (strOfNums x),.string ⟨#[59]⟩] 9) none)).trans hq)
   clear HQ hp Ae hq hw hb r0 kc;exact U13
  .
   have:j=uses.length:=by omega
   subst this
   have hp:∃v',Pg wr base g (LA++uses.flatMap fW) v':=by have:=hpj.out;rwa [zD3 (zB0 _)]at this
   obtain⟨v1,hp⟩:=hp
   have hw:aG base (some g) w wr:=HSX.out.trans hwj.out
   have hb:=hwj.out.below HSB.out h0 Ao;have x0:=hwj.out.blk HSx.out Q5 Al;clear hpj hwj HSX HSB HSx;generalize wr=w3 at *;obtain⟨q0,q1,q2,q3⟩:=x0.c4;clear HXL HXN HOK
   have HXL:Hid (bQ w0 a2 c2 2 (vars.map Va.fl)):=hV
   have HXN:Hid ((vars.map Va.fl).length=vars.length):=k2
   have HOK:Hid (∀x ∈ vars,mD x=true):=hvok
   go_wp2_with fail;clear q0 q1 q2 q3
   obtain⟨LB,hLB⟩:∃z,z=LA++uses.flatMap fW:=⟨_,rfl⟩
   rw[<-hLB]at hp;have hlB:=congrArg List.length hLB;simp only[zA1,zB1,zC3]at hlB
   have HSX:Hid (aG base (some g) w w3):=hw
   have HSB:Hid (Below w0.heap.size w0 w3):=hb
   have HSx:Hid _:=x0
   have HSp:Hid (∃v',Pg w3 base g (LB++(vars.take 0).flatMap dN) v'):=⟨_,by simpa using hp⟩
   clear hp hw hb x0
   go_loopw [7,32] (fun _ i wr=>∃j:Nat,j<=vars.length/\i=.int .i64 j/\Hid (∃v',Pg wr base g (LB++(vars.take j).flatMap dN) v')/\Hid (aG base (some g) w3 wr)) (fun _ i _=>vars.length-(intOf i).toNat)
   case atStart=>exact⟨0,zD1 _,rfl,HSp,aG.refl _ _ _⟩
   case round=>
    obtain⟨j,hj,rfl,hpj,hwj⟩:=hrel;clear HSp
    by_cases Aj:j<vars.length
    .
     obtain⟨v1,hp⟩:=hpj.out;have hw:=hwj.out
     obtain⟨x,hx⟩:∃x,vars[j]?=some x:=⟨vars[j],zA0 _⟩
     have hb:=hw.below HSB.out h0 Ao
     have HJ:Hid ((vars.take (j+1)).flatMap dN=(vars.take j).flatMap dN++dN x):=dL hx
     have Ak:((vars.take j).flatMap dN).length+(dN x).length<=(vars.flatMap dN).length:=by have h1:=fQ dN vars (j+1);rw[dL hx,zA1]at h1;exact h1
     obtain⟨bx,offx,rfl⟩:=bQ.addr HXL.out Q67
     obtain⟨vs,Ai,Ab⟩:=(bQ.el HXL.out (show _=some (Va.fl x) by rw[zA2,hx];rfl)).vals
     have HX:=aCc x (HOK.out x (zA3 hx))
     have HC:∀wz Lz vz,Below w0.heap.size w0 wz->Pg wz base g Lz vz->Lz.length+(dN x).length<=1000000000->Calls Tryz.prog 105 #[.pointer (some ⟨g,0,none⟩),agg vs] wz fun e w'=>e=.returned (.tuple #[])/\(∃v',Pg w' base g (Lz++dN x) v')/\aG base (some g) wz w':=fun wz Lz vz h1 h2 h3=>HX w0 wz vs base g Lz vz hT Ai h1 h0 hg h2 h3
     clear HX hx hpj hwj;generalize dN x=txx at *;obtain⟨x0,x1⟩:=x;obtain⟨y0,_,rfl,⟨b0,d0,rfl,_⟩,y1,_,rfl,rfl,rfl⟩:=Ai
     replace Ab:∀i v,_->_:=fun i v hv=>aC (Ab i v hv) hb
     have r0:wr.cell? ⟨bx,offx+j*2,none⟩=some (.slice b0 x0.length d0):=Ab 0 _ rfl
     have r1:wr.cell? ⟨bx,offx+j*2+1,none⟩=some (.int .i64 x1):=Ab 1 _ rfl
     clear Ab;have xb:=Blk.new wr 82 [.slice b0 x0.length d0,.int .i64 x1]
     have hwa:aG base (some g) w3 (wr.alloc (.cells #[.slice b0 x0.length d0,.int .i64 x1] 82 (0,0))):=hw.trans (aG.of (aB wr _ none))
     have hpa:=hp.grown (aB wr (.cells #[.slice b0 x0.length d0,.int .i64 x1] 82 (0,0)) none);simp only[agg]at HC;go_upto_region 10 with fail;generalize wr.alloc (.cells #[.slice b0 x0.length d0,.int .i64 x1] 82 (0,0))=wA at *;generalize wr.heap.size=gX at *;clear r0 r1 hp hw hb
     have HQ:=HC wA _ _ (hwa.below HSB.out h0 Ao) hpa (by simp only[zA1];omega)
     clear HC;obtain⟨s0,s1⟩:=xb.c2;go_wp2_with fail;refine HQ.mono ?_;rintro e wq ⟨rfl,⟨v',Ae⟩,hq⟩;clear HQ s0 s1
     have HP3:Hid _:=Ae
     have HW3:Hid (aG base (some g) w3 wq):=hwa.trans hq
     clear Ae hq hwa hpa xb;exact U13
    .
     have:j=vars.length:=by omega
     subst this
     have hp:∃v',Pg wr base g (LB++vars.flatMap dN) v':=by have:=hpj.out;rwa [zD3 (zB0 _)]at this
     obtain⟨v1,hp⟩:=hp
     have hw:aG base (some g) w wr:=HSX.out.trans hwj.out
     have hb:=hwj.out.below HSB.out h0 Ao;have x0:=hwj.out.blk HSx.out Q5 Al;clear hpj hwj HSX HSB HSx;generalize wr=w4 at *;obtain⟨q0,q1,q2,q3⟩:=x0.c4;clear HXL HXN HOK
     have HXL:Hid (bQ w0 a3 c3 5 (procs.map Pr.fl)):=hP
     have HXN:Hid ((procs.map Pr.fl).length=procs.length):=k3
     have HOK:Hid (∀x ∈ procs,kH x=true/\gJ x.body=true):=hpok
     go_wp2_with fail;clear q0 q1 q2 q3
     obtain⟨LC,hLC⟩:∃z,z=LB++vars.flatMap dN:=⟨_,rfl⟩
     rw[<-hLC]at hp;have hlC:=congrArg List.length hLC;simp only[zA1,zB1,zC3]at hlC
     have HSX:Hid (aG base (some g) w w4):=hw
     have HSB:Hid (Below w0.heap.size w0 w4):=hb
     have HSx:Hid _:=x0
     have HSp:Hid (∃v',Pg w4 base g (LC++(procs.take 0).flatMap cJ) v'):=⟨_,by simpa using hp⟩
     clear hp hw hb x0
     go_loopw [9,43] (fun _ i wr=>∃j:Nat,j<=procs.length/\i=.int .i64 j/\Hid (∃v',Pg wr base g (LC++(procs.take j).flatMap cJ) v')/\Hid (aG base (some g) w4 wr)) (fun _ i _=>procs.length-(intOf i).toNat)
     case atStart=>exact⟨0,zD1 _,rfl,HSp,aG.refl _ _ _⟩
     case round=>
      obtain⟨j,hj,rfl,hpj,hwj⟩:=hrel;clear HSp
      by_cases Aj:j<procs.length
      .
       obtain⟨v1,hp⟩:=hpj.out;have hw:=hwj.out
       obtain⟨x,hx⟩:∃x,procs[j]?=some x:=⟨procs[j],zA0 _⟩
       have hb:=hw.below HSB.out h0 Ao
       have HJ:Hid ((procs.take (j+1)).flatMap cJ=(procs.take j).flatMap cJ++cJ x):=dL hx
       have Ak:((procs.take j).flatMap cJ).length+(cJ x).length<=(procs.flatMap cJ).length:=by have h1:=fQ cJ procs (j+1);rw[dL hx,zA1]at h1;exact h1
       obtain⟨bx,offx,rfl⟩:=bQ.addr HXL.out Q67
       obtain⟨vs,Ai,Ab⟩:=(bQ.el HXL.out (show _=some (Pr.fl x) by rw[zA2,hx];rfl)).vals
       have HX:=wW x (HOK.out x (zA3 hx))
       have HC:∀wz Lz vz,Below w0.heap.size w0 wz->Pg wz base g Lz vz->Lz.length+(cJ x).length<=1000000000->Calls Tryz.prog 106 #[.pointer (some ⟨g,0,none⟩),agg vs] wz fun e w'=>e=.returned (.tuple #[])/\(∃v',Pg w' base g (Lz++cJ x) v')/\aG base (some g) wz w':=fun wz Lz vz h1 h2 h3=>HX w0 wz vs base g Lz vz hT Ai h1 h0 hg h2 h3
       clear HX hx hpj hwj;generalize cJ x=txx at *;obtain⟨x0,x1,x2,x3,x4⟩:=x;obtain⟨y0,_,rfl,⟨b0,d0,rfl,_⟩,y1,_,rfl,rfl,y2,_,rfl,⟨b2,d2,rfl,_⟩,y3,_,rfl,⟨b3,d3,rfl,_⟩,y4,_,rfl,⟨b4,d4,rfl,_⟩,rfl⟩:=Ai;generalize (List.map Pa.fl x2).length=m2 at *;generalize (dC x3).length=m3 at *;generalize (sts x4).length=m4 at *
       replace Ab:∀i v,_->_:=fun i v hv=>aC (Ab i v hv) hb
       have r0:wr.cell? ⟨bx,offx+j*5,none⟩=some (.slice b0 x0.length d0):=Ab 0 _ rfl
       have r1:wr.cell? ⟨bx,offx+j*5+1,none⟩=some (.bool x1):=Ab 1 _ rfl
       have r2:wr.cell? ⟨bx,offx+j*5+2,none⟩=some (.slice b2 m2 d2):=Ab 2 _ rfl
       have r3:wr.cell? ⟨bx,offx+j*5+3,none⟩=some (.slice b3 m3 d3):=Ab 3 _ rfl
       have r4:wr.cell? ⟨bx,offx+j*5+4,none⟩=some (.slice b4 m4 d4):=Ab 4 _ rfl
       clear Ab;have xb:=Blk.new wr 55 [.slice b0 x0.length d0,.bool x1,.slice b2 m2 d2,.slice b3 m3 d3,.slice b4 m4 d4]
       have hwa:aG base (some g) w4 (wr.alloc (.cells #[.slice b0 x0.length d0,.bool x1,.slice b2 m2 d2,.slice b3 m3 d3,.slice b4 m4 d4] 55 (0,0))):=hw.trans (aG.of (aB wr _ none))
       have hpa:=hp.grown (aB wr (.cells #[.slice b0 x0.length d0,.bool x1,.slice b2 m2 d2,.slice b3 m3 d3,.slice b4 m4 d4] 55 (0,0)) none);simp only[agg]at HC;go_upto_region 15 with fail;generalize wr.alloc (.cells #[.slice b0 x0.length d0,.bool x1,.slice b2 m2 d2,.slice b3 m3 d3,.slice b4 m4 d4] 55 (0,0))=wA at *;generalize wr.heap.size=gX at *;clear r0 r1 r2 r3 r4 hp hw hb
       have HQ:=HC wA _ _ (hwa.below HSB.out h0 Ao) hpa (by simp only[zA1];omega)
       clear HC;obtain⟨s0,s1,s2,s3,s4⟩:=xb.c5;go_wp2_with fail;refine HQ.mono ?_;rintro e wq ⟨rfl,⟨v',Ae⟩,hq⟩;clear HQ s0 s1 s2 s3 s4
       have HP3:Hid _:=Ae
       have HW3:Hid (aG base (some g) w4 wq):=hwa.trans hq
       clear Ae hq hwa hpa xb;exact U13
      .
       have:j=procs.length:=by omega
       subst this
       have hp:∃v',Pg wr base g (LC++procs.flatMap cJ) v':=by have:=hpj.out;rwa [zD3 (zB0 _)]at this
       obtain⟨v1,hp⟩:=hp
       have hw:aG base (some g) w wr:=HSX.out.trans hwj.out
       have hb:=hwj.out.below HSB.out h0 Ao;have x0:=hwj.out.blk HSx.out Q5 Al;clear hpj hwj HSX HSB HSx;generalize wr=w5 at *;obtain⟨q0,q1,q2,q3⟩:=x0.c4
       have Ah:aM [⟨#[69,78,68]⟩]=([69,78,68,32]):=by rw[eO]
       have HQ:=fH [⟨#[69,78,68]⟩] w5.heap.size 1 1 (w5.alloc (.cells #[.string ⟨#[69,78,68]⟩] 9)) base g _ _ (hp.grown (aB w5 _ none)) rfl (Blk.new w5 9 [.string ⟨#[69,78,68]⟩]) Q8 Q11 hg;rw[Ah]at HQ;clear Ah;go_wp2_with fail;refine HQ.mono ?_;rintro e w6 ⟨rfl,⟨v',Ae⟩,hq⟩;clear q0 q1 q2 q3;replace hq:=(aG.of (aB w5 (.cells #[.string ⟨#[69,78,68]⟩] 9) none)).trans hq;clear HQ hp;have hp:=Ae;clear Ae;replace x0:=hq.blk x0 Q5 Q14;replace hb:=hq.below hb h0 Ao;replace hw:=hw.trans hq;clear hq;obtain⟨q0,q1,q2,q3⟩:=x0.c4;clear q0 q1 q2 q3
       obtain⟨LZ,hLZ⟩:∃z,z=LC++procs.flatMap cJ++(([69,78,68,32])):=⟨_,rfl⟩
       rw[<-hLZ]at hp;have hlZ:=congrArg List.length hLZ;simp only[zA1,zB1,zC3]at hlZ;obtain⟨hk,ho,hle⟩:=hp;generalize hnZ:LZ.length=nZ at *
       have HNZ:Hid (LZ.length=nZ):=hnZ
       clear hnZ;obtain⟨aZ,cZ,rfl,_⟩:=ho.shape;have z0:=hk.k 0;have z1:=hk.free 0;have hse:(⟨#[46,10]⟩:ByteArray).size=2:=rfl
       have hs9:nZ+(⟨#[46,10]⟩:ByteArray).size<=1099511627776:=by rw[hse];omega
       have HLs:Hid (l++prM ⟨name,uses,vars,procs⟩=LZ++[46,10]):=by show _=_;rw[hLZ,hLC,hLB,hLA];simp[prM,zD0]
       clear hlZ hlA hlB hlC hLZ hLC hLB hLA Am
       go_wp2_with (at_builtin;refine lT rfl _ _ rfl base _ nZ LZ rfl ho ⟨#[46,10]⟩ rfl hs9 hle ?_)
       intro vZ wZ hoZ hgZ
       replace hoZ:Own wZ base vZ (nZ+2) (LZ++[46,10]):=hoZ
       have hbZ:=hk.below_row hgZ (ho.free hk Q5);have hwZ:=hw.trans (aG.own (x:=some g) ho hgZ);have y0:=hbZ.k 0;have y1:=hbZ.free 0;obtain⟨aY,cY,rfl,_⟩:=hoZ.shape;have hneY:=hoZ.free hbZ Q5;have kY:=hbZ.set (i:=0) (.slice aY (nZ+2) cY);have oY:=hoZ.setOther (g:=g) (i:=0) (u:=.slice aY (nZ+2) cY) hneY;have wY:=hwZ.trans (aG.put (base:=base) (g:=g) (i:=0) (w:=wZ) (v:=.slice aY (nZ+2) cY))
       have lY:base<=(wZ.setCell ⟨g,0,none⟩ (.slice aY (nZ+2) cY)).heap.size:=by have:=hgZ.size;simp;omega
       clear z0 z1;go_wp2_with fail
       have Bh:∃v',Pg (wZ.setCell ⟨g,0,none⟩ (.slice aY (nZ+2) cY)) base g (l++prM ⟨name,uses,vars,procs⟩) v':=by
        have e1:=HLs.out
        have e2:(l++prM ⟨name,uses,vars,procs⟩).length=nZ+2:=by rw[e1,zA1,HNZ.out];rfl
        refine⟨_,kY, ?_,lY⟩;rw[e2,e1];exact oY
       exact bodyPost_end (results_none rfl _ _ _) rfl ⟨rfl,Bh,wY⟩
def tU:List (List Int)->Nat
 | []=>0
 | t :: l=>t.length+tU l
theorem aJx (ts:List (List Int)):(ts[0]?.getD []).length<=tU ts:=by
 cases ts with
 | nil=>simp
 | cons a l=>simp[tU]
theorem aDv (ts:List (List Int)):(ts[0]?.getD []).length+(ts[1]?.getD []).length<=tU ts:=by
 match ts with
 | []=>simp
 | [a]=>simp[tU]
 | a :: b :: l=>simp[tU]
theorem aFb (s:List Int):∀ts:List (List Int),(aO s ts).length<=tU ts+s.length*ts.length:=by
 intro ts
 induction ts with
 | nil=>simp[aO]
 | cons a l ih=>
  cases l with
  | nil=>simp[aO,tU]
  | cons b l=>
   simp only[aO,tU,zA1,zB1]at ih ⊢;rw[Nat.mul_add]
   omega
theorem aLw (m:List Int):(if m.length=0 then [] else m++[32]++[46,32]:List Int).length<=m.length+3:=by split <;> simp
theorem pR (n:Int):(opI n).length<=1:=by
 unfold opI
 split
 .
  simp
 split
 .
  simp
 split
 .
  simp
 split
 .
  simp
 split <;> simp
theorem aFw {k n:Int}{mod name:List Int}{nk:Nat}{ts:List (List Int)}(h:iW k n mod name nk=true):(jP k n mod name ts).length<=40+mod.length+name.length+tU ts+2*ts.length:=by
 have h1:=aJx ts;have h2:=aDv ts;have h3:=aFb [44,32] ts;have h4:=aLw mod;have h5:=pR n;simp only[zB1,zC3]at h3;unfold jP
 split
 .
  rename_i h0
  subst h0
  have hb:-9223372036854775808<=n/\n<=9223372036854775807:=by simp[iW,inB,fD,dF]at h;omega
  have:=jW hb.1 hb.2
  simp only[zA1,zB1,zC3];omega
 split
 .
  simp only[zA1,zB1,zC3];omega
 split
 .
  simp only[zA1,zB1,zC3];omega
 split
 .
  simp only[zA1,zB1,zC3];omega
 split
 .
  simp only[zA1,zB1,zC3];omega
 split
 .
  simp only[zA1,zB1,zC3];omega
 split
 .
  simp only[zA1,zB1,zC3]at h4 ⊢;omega
 .
  simp only[zA1,zB1,zC3];omega
mutual
theorem aJ3:∀x:Ex,qN x=true->(prE x).length<=40+50*aL x.fl
 | .mk k n m a ks,h=>by
  obtain⟨h1,h2⟩:=cW h;have h3:=wX ks h2;have h4:=aFw (ts:=lE ks) h1
  have e:aL (Ex.mk k n m a ks).fl=m.length+a.length+((exs ks).length+aH (exs ks)):=by simp[Ex.fl,aL,Fl.len] <;> omega
  have e2:(exs ks).length=ks.length:=by simp[aQ]
  have e3:(lE ks).length=ks.length:=by simp[lD]
  rw[e,e2];rw[prE];rw[e3]at h4
  omega
theorem wX:∀l:List Ex,eI l=true->tU (lE l)<=40*l.length+50*aH (exs l)
 | [],_=>by simp[lE,tU]
 | x :: l,h=>by
  simp only[eI,zC0]at h;have h1:=aJ3 x h.1;have h2:=wX l h.2;simp only[lE,tU,exs,aH,zB1]
  omega
end
theorem aDy {k n:Int}{name:List Int}{ks:List Ex}{nb ne:Nat}{ts:List (List Int)}{b e:List Int}(h:pK k n name ks nb ne=true):(fZ k n name ts b e).length<=60+name.length+tU ts+b.length+e.length:=by
 have h1:=aJx ts;have h2:=aDv ts;unfold fZ
 split
 .
  simp only[zA1,zB1,zC3];omega
 split
 .
  simp only[zA1,zB1,zC3];omega
 split
 .
  simp only[zA1,zB1,zC3];omega
 split
 .
  simp only[zA1,zB1,zC3];omega
 split
 .
  simp only[zA1,zB1,zC3];omega
 split
 .
  simp only[zA1,zB1,zC3];omega
 split
 .
  rename_i h0
  subst h0;have hb:=mI h
  simp[dE]at hb
  have:=jW (n:=n) Q0 Q0
  simp only[zA1,zB1,zC3];omega
 .
  simp only[zA1,zB1,zC3];omega
mutual
theorem aOd:∀x:St,xD x=true->(prS x).length<=60+60*aL x.fl
 | .mk k n a ks bs es,h=>by
  obtain⟨h1,h2,h3,h4⟩:=aV h;have h5:=wX ks h2;have h6:=zG bs h3;have h7:=zG es h4;have h8:=aDy (ts:=lE ks) (b:=prB bs) (e:=prB es) h1
  have e:aL (St.mk k n a ks bs es).fl=a.length+((exs ks).length+aH (exs ks))+((sts bs).length+aH (sts bs))+((sts es).length+aH (sts es)):=by simp[St.fl,aL,Fl.len] <;> omega
  have e2:(exs ks).length=ks.length:=by simp[aQ]
  have e3:(sts bs).length=bs.length:=by simp[bL]
  have e4:(sts es).length=es.length:=by simp[bL]
  rw[e,e2,e3,e4,prS]
  omega
theorem zG:∀l:List St,gJ l=true->(prB l).length<=60*l.length+60*aH (sts l)
 | [],_=>by simp[prB]
 | x :: l,h=>by
  simp only[gJ,zC0]at h;have h1:=aOd x h.1;have h2:=zG l h.2;simp only[prB,sts,aH,zB1,zA1]
  omega
end
theorem tA {α:Type}{f:α->List Int}{g:α->List Fl}{c d:Nat}:∀{l:List α},(∀x ∈ l,(f x).length<=c+d*aL (g x))->(l.flatMap f).length<=c*l.length+d*aH (l.map g):=by
 intro l
 induction l with
 | nil=>intro _;simp
 | cons x l ih=>
  intro h;have h1:=h x Q9
  have h2:=ih fun y hy=>h y (by simp[hy])
  simp only[List.flatMap_cons,zA1,zB1,zH2,aH,Nat.mul_add]
  omega
theorem aNl {α:Type}{f:α->List Int}{g:α->List Fl}{c d:Nat}:∀{l:List α},(∀x ∈ l,(f x).length<=c+d*aL (g x))->tU (l.map f)<=c*l.length+d*aH (l.map g):=by
 intro l
 induction l with
 | nil=>intro _;simp[tU]
 | cons x l ih=>
  intro h;have h1:=h x Q9
  have h2:=ih fun y hy=>h y (by simp[hy])
  simp only[zH2,tU,zB1,aH,Nat.mul_add]
  omega
theorem aEj (q:Pr)(h:gJ q.body=true):(cJ q).length<=100+100*aL q.fl:=by
 have e2:aL q.fl=q.name.length+((q.params.map Pa.fl).length+aH (q.params.map Pa.fl))+((dC q.locals).length+aH (dC q.locals))+((sts q.body).length+aH (sts q.body)):=by simp[Pr.fl,aL,Fl.len] <;> omega
 have k2:(q.params.map Pa.fl).length=q.params.length:=by simp
 have k3:(dC q.locals).length=q.locals.length:=by simp[dC]
 have k4:(sts q.body).length=q.body.length:=by simp[bL]
 have h1:=zG q.body h;have h2:=aFb [44,32] (q.params.map qM)
 have h3:tU (q.params.map qM)<=3*q.params.length+1*aH (q.params.map Pa.fl):=aNl fun x _=>by
  simp only[qM,Pa.fl,aL,Fl.len,zA1,zB1,zC3]
  cases x.arr <;> simp <;> omega
 have h4:(q.locals.flatMap aT).length<=10*q.locals.length+1*aH (dC q.locals):=tA (g:=fun x=>[Fl.b x]) fun x _=>by
  simp only[aT,aL,Fl.len,zA1,zB1,zC3]
  omega
 have h5:(if q.opn then [42,32] else []:List Int).length<=2:=by cases q.opn <;> simp
 simp only[zB1,zC3,zB2]at h2;rw[e2,k2,k3,k4];simp only[cJ,zA1,zB1,zC3]
 omega
theorem zF (m:Mo)(hs:aL m.fl<=1048576)(hv:∀x ∈ m.vars,mD x=true)(hp:∀x ∈ m.procs,gJ x.body=true):(prM m).length<=500000000:=by
 have e:aL m.fl=m.name.length+((dC m.uses).length+aH (dC m.uses))+((m.vars.map Va.fl).length+aH (m.vars.map Va.fl))+((m.procs.map Pr.fl).length+aH (m.procs.map Pr.fl)):=by simp[Mo.fl,aL,Fl.len] <;> omega
 refine M949 ?_;intro k1 k2 k3
 have h1:(m.uses.flatMap fW).length<=20*m.uses.length+1*aH (dC m.uses):=tA (g:=fun x=>[Fl.b x]) fun x _=>by
  simp only[fW,aL,Fl.len,zA1,zB1,zC3]
  omega
 have h2:(m.vars.flatMap dN).length<=50*m.vars.length+1*aH (m.vars.map Va.fl):=tA fun x hx=>by
  have h9:=hv x hx;simp only[mD,inB,zC0,zE3]at h9;have h8:=jW (n:=x.size) Q0 Q0
  have h7:(if 0<x.size then [91,32]++(gL x.size++[32])++[93,32] else []:List Int).length<=26:=by
   split
   .
    simp only[zA1,zB1,zC3];omega
   .
    simp
  simp only[dN,Va.fl,aL,Fl.len];rw[zA1,zA1,zA1,zA1];simp only[zB1,zC3]
  omega
 have h3:(m.procs.flatMap cJ).length<=100*m.procs.length+100*aH (m.procs.map Pr.fl):=tA fun x hx=>aEj x (hp x hx)
 rw[e,k1,k2,k3]at hs;simp only[prM,zA1,zB1,zC3]
 omega
theorem Q45{p:Prop}(h:p:=by simp only[results,Tryz.results34];simp[go_sem]):p:=h
def lN (m:Mo):Bool:=cH m && decide ((prM m).length<=3000)
theorem aFr {l:List Pr}{left:Int}(h:kW l left=true):∀x ∈ l,gJ x.body=true:=by
 intro x hx;obtain⟨j,hj⟩:=zH3 hx;unfold kW at h;rw[zF3]at h
 have:=h j (by have:=(zC1.1 hj).1;simpa using this)
 rw[hj]at this;unfold cI at this;simp only[zI1,zC0]at this;exact this.1.1
theorem eQ {m:Mo}(h:cH m=true):aK m.name true=true/\(∀x ∈ m.uses,jJ x=true)/\(∀x ∈ m.vars,mD x=true)/\(∀x ∈ m.procs,kH x=true/\gJ x.body=true):=by
 unfold cH at h;simp only[zC0,zF3]at h
 exact⟨h.1.1.1.1.1.1.1,h.1.1.1.1.1.2,h.1.1.1.2,fun x hx=>⟨h.1.2 x hx,aFr h.2 x hx⟩⟩
theorem aH2 (w:World)(base:Nat):Own w base (.slice none 0 0) 0 []:=⟨⟨by simp,.inl ⟨rfl,rfl⟩⟩,by simp⟩
theorem xU {α:Type}{l:List α}(h:l.length=4):∃a b c d,l=[a,b,c,d]:=by
 match l,h with
 | [a,b,c,d],_=>exact⟨a,b,c,d,rfl⟩
structure aM2 (w w':World) (m:Mo) (v:Value):Prop where
 no:lN m=false->v=.slice none 0 0
 yes:lN m=true->Own w' w.heap.size v (prM m).length (prM m)
 grown:w.grownBy w' none
set_option maxHeartbeats 4000000 in
theorem aOc (m:Mo)(vs:List Value)(w:World)(hT:nF w)(h:cC w m.fl vs)(hs:aL m.fl<=1048576):
  Calls Tryz.prog 34 #[agg vs] w fun e w'=>∃v,e=.returned (.tuple #[v,.bool (lN m)])/\aM2 w w' m v:=by
 have HF:∀w1,Below w.heap.size w w1->Calls Tryz.prog 73 #[agg vs] w1 fun e w'=>e=.returned (.bool (cH m))/\w1.grownBy w' none:=fun w1 h1=>aMd m vs w1 (hT.below h1) (h.below h1) hs
 have HM:cH m=true->∀(w1:World) (g:Nat) (v:Value),Below w.heap.size w w1->w.heap.size<=g->Pg w1 w.heap.size g [] v->Calls Tryz.prog 74 #[.pointer (some ⟨g,0,none⟩),agg vs] w1 fun e w'=>e=.returned (.tuple #[])/\(∃v',Pg w' w.heap.size g (prM m) v')/\aG w.heap.size (some g) w1 w':=by
  intro hf w1 g v h1 h2 h3;obtain⟨p1,p2,p3,p4⟩:=eQ hf
  have hl:=zF m hs p3 (fun x hx=>(p4 x hx).2)
  have:=aQu m.name m.uses m.vars m.procs p1 p2 p3 p4 w w1 vs w.heap.size g [] v hT h h1 (zB0 _) h2 h3 (by rw[zC3,zJ2];exact zF2 hl Q0)
  exact this
 have hlM:cH m=true->(prM m).length<=500000000:=fun hf=>by
  obtain⟨_,_,p3,p4⟩:=eQ hf
  exact zF m hs p3 (fun x hx=>(p4 x hx).2)
 obtain⟨u0,u1,u2,u3,rfl⟩:=xU (h.len.trans (show m.fl.length=4 from rfl))
 simp only[agg]at HF HM ⊢;have yy:=aB w (.cells #[u0,u1,u2,u3] 27 (0,0)) none;have x0:=Blk.new w 27 [u0,u1,u2,u3]
 have HD:Hid (lN m=(cH m && decide ((prM m).length<=3000))):=rfl
 clear hT h hs;go_enter Tryz.func34,Tryz.ntmps34;go_upto_region 1 with fail;generalize w.alloc (.cells #[u0,u1,u2,u3] 27 (0,0))=w1 at *;obtain⟨q0,q1,q2,q3⟩:=x0.c4;have H1:=HF w1 (aA yy);clear HF;go_wp2_with fail;refine H1.mono ?_;rintro e w2 ⟨rfl,hq⟩;replace x0:=x0.below (aA hq) x0.lt;replace yy:=aD yy hq;clear H1 hq q0 q1 q2 q3
 cases hf:cH m
 .
  have he:Hid (lN m=false):=by show _=_;rw[HD.out,hf];rfl
  clear HM hlM;go_wp2_with fail
  refine zI2 (v:=.tuple #[.slice none 0 0,.bool false]) Q45 rfl ⟨.slice none 0 0,by rw[he.out],⟨fun _=>rfl,fun h=>absurd (he.out.symm.trans h) Q9,yy⟩⟩
 .
  have HM2:=HM hf;have hl:=hlM hf
  have he:Hid (lN m=decide ((prM m).length<=3000)):=by show _=_;rw[HD.out,hf];rfl
  clear HM hlM HD hf
  have hP:Pg (w2.alloc (.cells #[.slice none 0 0] 122 (0,0))) w.heap.size w2.heap.size [] (.slice none 0 0):=⟨Blk.new w2 122 [.slice none 0 0],aH2 _ _,by have:=yy.size;simp;omega⟩
  have y3:=aD yy (aB w2 (.cells #[.slice none 0 0] 122 (0,0)) none);have x3:=x0.old (o:=.cells #[.slice none 0 0] 122 (0,0));have HQ:=HM2 _ w2.heap.size _ (aA y3) yy.size hP;clear HM2
  have Al:some w.heap.size ≠ some w2.heap.size:=by have:=x0.lt;simp;omega
  have hle2:w.heap.size<=w2.heap.size:=yy.size;go_upto_region 4 with fail;generalize w2.alloc (.cells #[.slice none 0 0] 122 (0,0))=w3 at *;generalize w2.heap.size=g at *;obtain⟨q0,q1,q2,q3⟩:=x3.c4;go_wp2_with fail;refine HQ.mono ?_;rintro e w4 ⟨rfl,⟨v4,hp4⟩,hw⟩
  have y4:w.grownBy w4 none:=aW (hw.below (aA y3) (zB0 _) (by intro k e;cases e;exact hle2)) none
  obtain⟨hk4,ho4,_⟩:=hp4;clear HQ q0 q1 q2 q3 x3 y3 hP hw x0 yy
  have HO:Hid (Own w4 w.heap.size v4 (prM m).length (prM m)):=ho4
  obtain⟨a4,c4,e4,_⟩:=ho4.shape;subst e4;clear ho4;have z0:=hk4.k 0;generalize hn:(prM m).length=n at *
  have HN:Hid ((prM m).length=n):=hn
  clear hn
  by_cases h3:n<=3000
  .
   have h3':¬(3000:Int)<(n:Int):=Q0
   have hm:Hid (lN m=true):=by show _=_;rw[he.out];exact zB3 h3
   go_wp2_with fail
   refine zI2 (v:=.tuple #[.slice a4 n c4,.bool true]) Q45 rfl ⟨.slice a4 n c4,by rw[hm.out],⟨fun h=>absurd (hm.out.symm.trans h) Q9,fun _=>(by rw[HN.out];exact HO.out),y4⟩⟩
  .
   have h3':(3000:Int)<(n:Int):=Q0
   have hm:Hid (lN m=false):=by show _=_;rw[he.out];exact zC2 h3
   go_wp2_with fail
   refine zI2 (v:=.tuple #[.slice none 0 0,.bool false]) Q45 rfl ⟨.slice none 0 0,by rw[hm.out],⟨fun _=>rfl,fun h=>absurd (hm.out.symm.trans h) Q9,y4⟩⟩
theorem aAe (m:Mo)(w:World)(vs:List Value)(hT:nF w)(h:cC w m.fl vs)(hs:aL m.fl<=1048576):
  Calls Tryz.prog 12 #[.agg vs.toArray] w fun e w'=>e=.returned (.bool (lN m))/\w.grownBy w' none:=by
 have yy:=aB w (.cells vs.toArray 27 (0,0)) none;have HP:=aOc m vs (w.alloc (.cells vs.toArray 27 (0,0))) (hT.below (aA yy)) (h.below (aA yy)) hs;have x0:=Blk.new w 27 vs
 obtain⟨u0,u1,u2,u3,rfl⟩:=xU (h.len.trans (show m.fl.length=4 from rfl))
 simp only[agg]at HP;clear h hs hT;generalize lN m=r at *;go_enter Tryz.func12,Tryz.ntmps12;go_upto_region 1 with fail;generalize w.alloc (.cells #[u0,u1,u2,u3] 27 (0,0))=w1 at *;obtain⟨q0,q1,q2,q3⟩:=x0.c4;go_wp2_with fail;refine HP.mono ?_;rintro e w2 ⟨v,rfl,hp⟩;go_wp2;go_ret;exact⟨rfl,aD yy hp.grown⟩
end Go.Proofs.YtffphdacgblaoaaGreatDoor

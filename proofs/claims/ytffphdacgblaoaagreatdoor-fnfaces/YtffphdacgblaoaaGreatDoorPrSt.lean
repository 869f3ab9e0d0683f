import Derived.Test.YtffphdacgblaoaaGreatDoorPackP
namespace Go.Proofs.YtffphdacgblaoaaGreatDoor
set_option maxHeartbeats 4000000
open Go.RowKit
set_option linter.unusedVariables false
set_option linter.unusedSimpArgs false
set_option maxRecDepth 100000
theorem Q26{p:Prop}(h:p:=by rw[dU];simp only[zA1,zB1,zC3];omega):p:=h
theorem M911{p q:Prop}(k:q)(h:Kx q->p:=by
 intro kQ
 obtain⟨q0,q1,q2,q3,q4,q5⟩:=x0.c6
 have d0:=wb.k 0
 have d1:=wb.k 1
 have d2:=wb.k 2
 have d3:=wb.k 3
 have d4:=wb.k 4
 have d5:=wb.k 5
 have d6:=wb.k 6
 revert d6;revert d5;revert d4;revert d3;revert d2;revert d1;revert d0;revert q5;revert q4;revert q3;revert q2;revert q1;revert q0
 exact kQ.o):p:=h ⟨k⟩
theorem M926{p q:Prop}(k:q)(h:Kx q->p:=by
 intro kQ
 obtain⟨q0,q1,q2,q3,q4,q5⟩:=x0.c6
 obtain⟨d0,d1,d2⟩:=wb.c3
 revert d2;revert d1;revert d0;revert q5;revert q4;revert q3;revert q2;revert q1;revert q0
 exact kQ.o):p:=h ⟨k⟩
theorem M941{p q:Prop}(k:q)(h:Kx q->p:=by
 intro kQ
 rw[he]at Am
 simp only[zA1,zB1,zC3]at Am
 have HE:=hid he
 have hloc:=(aV hok).1
 revert hloc;revert HE;revert Am
 exact kQ.o):p:=h ⟨k⟩
theorem M964{p q:Prop}(k:q)(h:Kx q->p:=by
 intro kQ
 rw[zE2]
 have HQ:=fH [⟨#[59]⟩] w4.heap.size 1 1 (w4.alloc (.cells #[.string ⟨#[59]⟩] 9)) base g _ _ (hp.grown (aB w4 _ none)) rfl (Blk.new w4 9 [.string ⟨#[59]⟩]) Q8 Q26 hg
 revert HQ
 exact kQ.o):p:=h ⟨k⟩
theorem M967{p q:Prop}(k:q)(h:Kx q->p:=by
 intro kQ
 have hoks:=(aV hok).2.1
 simp only[eI,zC0,and_true]at hoks
 have hk0:=hoks
 revert hk0;revert hoks
 exact kQ.o):p:=h ⟨k⟩
theorem M970{p q:Prop}(k:q)(h:Kx q->p:=by
 intro kQ
 refine HQ.mono ?_
 rintro e w5 ⟨rfl,⟨v',Ae⟩,hq⟩
 replace hq:=(aG.of (aB w4 (.cells #[.string ⟨#[59]⟩] 9) none)).trans hq
 revert hq;revert Ae;revert v';revert w5
 exact kQ.o):p:=h ⟨k⟩
theorem M984{p q:Prop}(k:q)(h:Kx q->p:=by
 intro kQ
 rw[zE2]
 have kc:=bP c2 (h2.below hb)
 have HQ:=fH [(strOfNums name)] w2.heap.size 1 1 (w2.alloc (.cells #[.string (strOfNums name)] 9)) base g _ _ (hp.grown (aB w2 _ none)) rfl (Blk.new w2 9 [.string (strOfNums name)]) Q8 Q32 hg
 revert HQ;revert kc
 exact kQ.o):p:=h ⟨k⟩
theorem M990{p q:Prop}(k:q)(h:Kx q->p:=by
 intro kQ
 rw[zE2]
 have HQ:=fH [⟨#[59]⟩] w5.heap.size 1 1 (w5.alloc (.cells #[.string ⟨#[59]⟩] 9)) base g _ _ (hp.grown (aB w5 _ none)) rfl (Blk.new w5 9 [.string ⟨#[59]⟩]) Q8 Q26 hg
 revert HQ
 exact kQ.o):p:=h ⟨k⟩
def aA5 (x:St):Prop:=∀(w0 w:World) (vs:List Value) (base g:Nat) (l:List Int) (v:Value),nF w0->cC w0 x.fl vs->Below w0.heap.size w0 w->w0.heap.size<=base->base<=g->Pg w base g l v->xD x=true->l.length+(prS x).length<=1000000000 →
 Calls Tryz.prog 146 #[.pointer (some ⟨g,0,none⟩),agg vs] w fun e w'=>e=.returned (.tuple #[])/\(∃v',Pg w' base g (l++prS x) v')/\aG base (some g) w w'
def lA (b:List St):Prop:=∀(w0 w:World) (a:Option Addr) (c base g:Nat) (l:List Int) (v:Value),nF w0->bQ w0 a c 6 (sts b)->Below w0.heap.size w0 w->w0.heap.size<=base->base<=g->Pg w base g l v->gJ b=true->l.length+(prB b).length<=1000000000 →
 Calls Tryz.prog 133 #[.pointer (some ⟨g,0,none⟩),.slice a b.length c] w fun e w'=>e=.returned (.tuple #[])/\(∃v',Pg w' base g (l++prB b) v')/\aG base (some g) w w'
theorem aV {k n:Int}{name:List Int}{ks:List Ex}{bs es:List St}(h:xD (.mk k n name ks bs es)=true):pK k n name ks bs.length es.length=true/\eI ks=true/\gJ bs=true/\gJ es=true:=by
 unfold xD at h;simp only[zC0]at h;exact⟨h.1.1.1,h.1.1.2,h.1.2,h.2⟩
theorem mH {k n:Int}{name:List Int}{ks:List Ex}{nb ne:Nat}(h:pK k n name ks nb ne=true)(hk:dO k=true):aK name false=true:=by
 unfold pK at h;simp only[zC0]at h;rw[hk]at h;exact h.1.1.1.1.2.2
theorem mI {k n:Int}{name:List Int}{ks:List Ex}{nb ne:Nat}(h:pK k n name ks nb ne=true):(ks.length:Int)=cO k/\0<=k/\k<=7/\0<=n/\n<=dE k:=by
 unfold pK at h;simp only[zC0]at h;have h1:=h.1.1.1.1.2.1.2;have h2:=h.1.1.1.1.1;have h3:=h.1.1.1.1.2.1.1
 simp[inB]at h1 h2 h3
 omega
theorem aQt (n:Int)(name:List Int)(e0:Ex)(S0:pE e0)(bs es:List St)(Sb:lA bs)(Se:lA es):aA5 (.mk 0 n name [e0] bs es):=by
 intro w0 w vs base g l v hT hr hb h0 hg hp hok Am;unfold St.fl at hr;obtain⟨y0,_,rfl,rfl,y1,_,rfl,rfl,y2,_,rfl,⟨a2,c2,rfl,h2,hc2,_⟩,y3,_,rfl,h3',y4,_,rfl,Be,y5,_,rfl,h5',rfl⟩:=hr;obtain⟨a3,c3,rfl,h3⟩:=h3'.list;obtain⟨a4,c4,rfl,h4⟩:=Be.list;obtain⟨a5,c5,rfl,h5⟩:=h5'.list;clear h3' Be h5'
 have An:(exs [e0]).length=1:=by simp[aQ]
 refine M925 ?_;intro hbl hel;rw[An,hbl,hel];simp only[agg];obtain⟨b4,o4,rfl⟩:=h3.addr Q18
 obtain⟨cc,rfl⟩:∃cc,c3=cc+1:=⟨c3-1,by have:=h3.cap;rw[An]at this;omega⟩
 obtain⟨us0,hv0,Af⟩:=(h3.el (i:=0) rfl).vals
 obtain⟨u00,u01,u02,u03,u04,rfl⟩:∃a b c d e,us0=[a,b,c,d,e]:=by
  exact U11
 refine M94 ?_;intro Au As Ar Aq Ap;clear Af;refine M967 ?_;intro hoks hk0
 have he:prS (.mk 0 n name [e0] bs es)=(name++[32])++([58,61,32])++(prE e0)++([59,10]):=by simp[prS,lE,fZ]
 refine M941 ?_;clear Am he;intro Am HE hloc;have hnm:=mH hloc Q5;have hpn:=cE (g:=false) h2.2.1 hnm;have hokb:=(aV hok).2.2.1;have hoke:=(aV hok).2.2.2;clear hok;refine M97 ?_;intro hgl Al Ao;have x0:=Blk.new w 116 [.int .i64 0,.int .i64 n,.slice a2 name.length c2,.slice (some ⟨b4,o4,none⟩) 1 (cc+1),.slice a4 bs.length c4,.slice a5 es.length c5]
 have hw:aG base (some g) w (w.alloc (.cells #[.int .i64 0,.int .i64 n,.slice a2 name.length c2,.slice (some ⟨b4,o4,none⟩) 1 (cc+1),.slice a4 bs.length c4,.slice a5 es.length c5] 116 (0,0))):=aG.of (aB w _ none)
 replace hb:Below w0.heap.size w0 (w.alloc (.cells #[.int .i64 0,.int .i64 n,.slice a2 name.length c2,.slice (some ⟨b4,o4,none⟩) 1 (cc+1),.slice a4 bs.length c4,.slice a5 es.length c5] 116 (0,0))):=hb.alloc hb.size _
 replace hp:=hp.grown (aB w (.cells #[.int .i64 0,.int .i64 n,.slice a2 name.length c2,.slice (some ⟨b4,o4,none⟩) 1 (cc+1),.slice a4 bs.length c4,.slice a5 es.length c5] 116 (0,0)) none);go_enter Tryz.func146,Tryz.ntmps146;have q3:=x0.k 3;go_upto_region 2 with fail;clear q3;generalize w.alloc (.cells #[.int .i64 0,.int .i64 n,.slice a2 name.length c2,.slice (some ⟨b4,o4,none⟩) 1 (cc+1),.slice a4 bs.length c4,.slice a5 es.length c5] 116 (0,0))=w1 at *;generalize w.heap.size=gx at *;have q0:=x0.k 0;have hF:=(hT.below hb).st 0 Q0;refine M919 ?_;intro z0 z1 z2 z3 z4;have HQ:=hH (stF 0) (jT 0) w1 (hT.below hb);rw[aSt]at HQ;unfold Fm.val at HQ;clear hF;simp only[Nat.reduceMul,Nat.reduceAdd,Nat.zero_mul,zJ2]at z0 z1 z2 z3 z4;go_wp2_with fail;refine HQ.mono ?_;rintro e w2 ⟨gw,rfl,wb,hgw',hq⟩;clear HQ q0 z0 z1 z2 z3 z4;refine M96 ?_;clear x0 hb hw hp;intro Bf x0 hb hw hp;clear hq hgw' hgl;simp only[tV,zH2,List.map_nil,zB1,zC3]at wb ⊢;obtain⟨q0,q1,q2,q3,q4,q5⟩:=x0.c6;obtain⟨d0,d1,d2,d3⟩:=wb.c4;go_wp2_with fail;refine zH1 5 ?_;refine M984 ?_;intro kc HQ;go_wp2_with fail;refine HQ.mono ?_;rintro e w3 ⟨rfl,⟨v',Ae⟩,hq⟩;clear q0 q1 q2 q3 q4 q5 d0 d1 d2 d3;replace hq:=(aG.of (aB w2 (.cells #[.string (strOfNums name)] 9) none)).trans hq;clear HQ hp;refine M90 ?_;clear Ae x0 wb hb hw;intro hp x0 wb hb hw;clear hq;obtain⟨q0,q1,q2,q3,q4,q5⟩:=x0.c6;obtain⟨d0,d1,d2,d3⟩:=wb.c4;rw[hpn]at hp;clear kc;go_wp2_with fail;rw[zE2]
 have HQ:=fH [⟨#[58,61]⟩] w3.heap.size 1 1 (w3.alloc (.cells #[.string ⟨#[58,61]⟩] 9)) base g _ _ (hp.grown (aB w3 _ none)) rfl (Blk.new w3 9 [.string ⟨#[58,61]⟩]) Q8 (by rw[mM];simp only[zA1,zB1,zC3];omega) hg
 go_wp2_with fail;refine HQ.mono ?_;rintro e w4 ⟨rfl,⟨v',Ae⟩,hq⟩;clear q0 q1 q2 q3 q4 q5 d0 d1 d2 d3;replace hq:=(aG.of (aB w3 (.cells #[.string ⟨#[58,61]⟩] 9) none)).trans hq;clear HQ hp;refine M90 ?_;clear Ae x0 wb hb hw;intro hp x0 wb hb hw;clear hq;obtain⟨q0,q1,q2,q3,q4,q5⟩:=x0.c6;obtain⟨d0,d1,d2,d3⟩:=wb.c4;rw[mM]at hp;go_wp2_with fail;refine M959 ?_;intro HQ t0 t1 t2 t3 t4;go_wp2_with fail;refine HQ.mono ?_;rintro e w5 ⟨rfl,⟨v',Ae⟩,hq⟩;clear t0 t1 t2 t3 t4;clear q0 q1 q2 q3 q4 q5 d0 d1 d2 d3;clear HQ hp;refine M90 ?_;clear Ae x0 wb hb hw;intro hp x0 wb hb hw;clear hq;obtain⟨q0,q1,q2,q3,q4,q5⟩:=x0.c6;obtain⟨d0,d1,d2,d3⟩:=wb.c4
 rcases cc with _|cc
 all_goals
  go_wp2_with fail;refine M990 ?_;intro HQ;go_wp2_with fail;refine HQ.mono ?_;rintro e w6 ⟨rfl,⟨v',Ae⟩,hq⟩;clear q0 q1 q2 q3 q4 q5 d0 d1 d2 d3;replace hq:=(aG.of (aB w5 (.cells #[.string ⟨#[59]⟩] 9) none)).trans hq;clear HQ hp;refine M90 ?_;clear Ae x0 wb hb hw;intro hp x0 wb hb hw;clear hq;obtain⟨q0,q1,q2,q3,q4,q5⟩:=x0.c6;obtain⟨d0,d1,d2,d3⟩:=wb.c4;rw[dU]at hp;go_wp2_with fail;rw[zE2];go_wp2_with fail
  have Bh:∃v',Pg w6 base g (l++prS (.mk 0 n name [e0] bs es)) v':=⟨_,by rw[HE.out];simpa [zD0] using hp⟩
  exact U7
theorem aQs (n:Int)(name:List Int)(e0:Ex)(S0:pE e0)(e1:Ex)(S1:pE e1)(bs es:List St)(Sb:lA bs)(Se:lA es):aA5 (.mk 1 n name [e0,e1] bs es):=by
 intro w0 w vs base g l v hT hr hb h0 hg hp hok Am;unfold St.fl at hr;obtain⟨y0,_,rfl,rfl,y1,_,rfl,rfl,y2,_,rfl,⟨a2,c2,rfl,h2,hc2,_⟩,y3,_,rfl,h3',y4,_,rfl,Be,y5,_,rfl,h5',rfl⟩:=hr;obtain⟨a3,c3,rfl,h3⟩:=h3'.list;obtain⟨a4,c4,rfl,h4⟩:=Be.list;obtain⟨a5,c5,rfl,h5⟩:=h5'.list;clear h3' Be h5'
 have An:(exs [e0,e1]).length=2:=by simp[aQ]
 refine M925 ?_;intro hbl hel;rw[An,hbl,hel];simp only[agg];obtain⟨b4,o4,rfl⟩:=h3.addr Q18
 obtain⟨cc,rfl⟩:∃cc,c3=cc+2:=⟨c3-2,by have:=h3.cap;rw[An]at this;omega⟩
 obtain⟨us0,hv0,Af⟩:=(h3.el (i:=0) rfl).vals
 obtain⟨u00,u01,u02,u03,u04,rfl⟩:∃a b c d e,us0=[a,b,c,d,e]:=by
  exact U11
 refine M94 ?_;intro Au As Ar Aq Ap;clear Af;obtain⟨us1,hv1,hcl1⟩:=(h3.el (i:=1) rfl).vals
 obtain⟨u10,u11,u12,u13,u14,rfl⟩:∃a b c d e,us1=[a,b,c,d,e]:=by
  exact U95
 refine M954 ?_;intro hc10 hc11 hc12 hc13 hc14;clear hcl1;have hoks:=(aV hok).2.1;simp only[eI,zC0,and_true]at hoks;have hk0:=hoks.1;have hk1:=hoks.2
 have he:prS (.mk 1 n name [e0,e1] bs es)=(name++[32])++([91,32])++(prE e0)++([93,32])++([58,61,32])++(prE e1)++([59,10]):=by simp[prS,lE,fZ]
 refine M941 ?_;clear Am he;intro Am HE hloc;have hnm:=mH hloc Q5;have hpn:=cE (g:=false) h2.2.1 hnm;have hokb:=(aV hok).2.2.1;have hoke:=(aV hok).2.2.2;clear hok;refine M97 ?_;intro hgl Al Ao;have x0:=Blk.new w 116 [.int .i64 1,.int .i64 n,.slice a2 name.length c2,.slice (some ⟨b4,o4,none⟩) 2 (cc+2),.slice a4 bs.length c4,.slice a5 es.length c5]
 have hw:aG base (some g) w (w.alloc (.cells #[.int .i64 1,.int .i64 n,.slice a2 name.length c2,.slice (some ⟨b4,o4,none⟩) 2 (cc+2),.slice a4 bs.length c4,.slice a5 es.length c5] 116 (0,0))):=aG.of (aB w _ none)
 replace hb:Below w0.heap.size w0 (w.alloc (.cells #[.int .i64 1,.int .i64 n,.slice a2 name.length c2,.slice (some ⟨b4,o4,none⟩) 2 (cc+2),.slice a4 bs.length c4,.slice a5 es.length c5] 116 (0,0))):=hb.alloc hb.size _
 replace hp:=hp.grown (aB w (.cells #[.int .i64 1,.int .i64 n,.slice a2 name.length c2,.slice (some ⟨b4,o4,none⟩) 2 (cc+2),.slice a4 bs.length c4,.slice a5 es.length c5] 116 (0,0)) none);go_enter Tryz.func146,Tryz.ntmps146;have q3:=x0.k 3;go_upto_region 2 with fail;clear q3;generalize w.alloc (.cells #[.int .i64 1,.int .i64 n,.slice a2 name.length c2,.slice (some ⟨b4,o4,none⟩) 2 (cc+2),.slice a4 bs.length c4,.slice a5 es.length c5] 116 (0,0))=w1 at *;generalize w.heap.size=gx at *;have q0:=x0.k 0;have hF:=(hT.below hb).st 1 Q0;refine M919 ?_;intro z0 z1 z2 z3 z4;have HQ:=hH (stF 1) (jT 1) w1 (hT.below hb);rw[aSs]at HQ;unfold Fm.val at HQ;clear hF;simp only[Nat.reduceMul,Nat.reduceAdd,Nat.zero_mul,zJ2]at z0 z1 z2 z3 z4;go_wp2_with fail;refine HQ.mono ?_;rintro e w2 ⟨gw,rfl,wb,hgw',hq⟩;clear HQ q0 z0 z1 z2 z3 z4;refine M96 ?_;clear x0 hb hw hp;intro Bf x0 hb hw hp;clear hq hgw' hgl;simp only[tV,zH2,List.map_nil,zB1,zC3]at wb ⊢;refine M911 ?_;intro q0 q1 q2 q3 q4 q5 d0 d1 d2 d3 d4 d5 d6;go_wp2_with fail;refine zH1 8 ?_;refine M984 ?_;intro kc HQ;go_wp2_with fail;refine HQ.mono ?_;rintro e w3 ⟨rfl,⟨v',Ae⟩,hq⟩;clear q0 q1 q2 q3 q4 q5 d0 d1 d2 d3 d4 d5 d6;replace hq:=(aG.of (aB w2 (.cells #[.string (strOfNums name)] 9) none)).trans hq;clear HQ hp;refine M90 ?_;clear Ae x0 wb hb hw;intro hp x0 wb hb hw;clear hq;refine M911 ?_;intro q0 q1 q2 q3 q4 q5 d0 d1 d2 d3 d4 d5 d6;rw[hpn]at hp;clear kc;go_wp2_with fail;refine M986 ?_;intro HQ;go_wp2_with fail;refine HQ.mono ?_;rintro e w4 ⟨rfl,⟨v',Ae⟩,hq⟩;clear q0 q1 q2 q3 q4 q5 d0 d1 d2 d3 d4 d5 d6;replace hq:=(aG.of (aB w3 (.cells #[.string ⟨#[91]⟩] 9) none)).trans hq;clear HQ hp;refine M90 ?_;clear Ae x0 wb hb hw;intro hp x0 wb hb hw;clear hq;refine M911 ?_;intro q0 q1 q2 q3 q4 q5 d0 d1 d2 d3 d4 d5 d6;rw[uQ]at hp;go_wp2_with fail;refine M959 ?_;intro HQ t0 t1 t2 t3 t4;go_wp2_with fail;refine HQ.mono ?_;rintro e w5 ⟨rfl,⟨v',Ae⟩,hq⟩;clear t0 t1 t2 t3 t4;clear q0 q1 q2 q3 q4 q5 d0 d1 d2 d3 d4 d5 d6;clear HQ hp;refine M90 ?_;clear Ae x0 wb hb hw;intro hp x0 wb hb hw;clear hq;refine M911 ?_;intro q0 q1 q2 q3 q4 q5 d0 d1 d2 d3 d4 d5 d6;go_wp2_with fail;refine M985 ?_;intro HQ;go_wp2_with fail;refine HQ.mono ?_;rintro e w6 ⟨rfl,⟨v',Ae⟩,hq⟩;clear q0 q1 q2 q3 q4 q5 d0 d1 d2 d3 d4 d5 d6;replace hq:=(aG.of (aB w5 (.cells #[.string ⟨#[93]⟩] 9) none)).trans hq;clear HQ hp;refine M90 ?_;clear Ae x0 wb hb hw;intro hp x0 wb hb hw;clear hq;refine M911 ?_;intro q0 q1 q2 q3 q4 q5 d0 d1 d2 d3 d4 d5 d6;rw[uP]at hp;go_wp2_with fail;rw[zE2]
 have HQ:=fH [⟨#[58,61]⟩] w6.heap.size 1 1 (w6.alloc (.cells #[.string ⟨#[58,61]⟩] 9)) base g _ _ (hp.grown (aB w6 _ none)) rfl (Blk.new w6 9 [.string ⟨#[58,61]⟩]) Q8 (by rw[mM];simp only[zA1,zB1,zC3];omega) hg
 go_wp2_with fail;refine HQ.mono ?_;rintro e w7 ⟨rfl,⟨v',Ae⟩,hq⟩;clear q0 q1 q2 q3 q4 q5 d0 d1 d2 d3 d4 d5 d6;replace hq:=(aG.of (aB w6 (.cells #[.string ⟨#[58,61]⟩] 9) none)).trans hq;clear HQ hp;refine M90 ?_;clear Ae x0 wb hb hw;intro hp x0 wb hb hw;clear hq;refine M911 ?_;intro q0 q1 q2 q3 q4 q5 d0 d1 d2 d3 d4 d5 d6;rw[mM]at hp;go_wp2_with fail;rw[zE2];have HQ:=S1 w0 w7 [u10,u11,u12,u13,u14] base g _ _ hT hv1 hb h0 hg hp hk1 Q13;simp only[agg]at HQ;have t0:=aC hc10 hb;have t1:=aC hc11 hb;have t2:=aC hc12 hb;have t3:=aC hc13 hb;have t4:=aC hc14 hb;go_wp2_with fail;refine HQ.mono ?_;rintro e w8 ⟨rfl,⟨v',Ae⟩,hq⟩;clear t0 t1 t2 t3 t4;clear q0 q1 q2 q3 q4 q5 d0 d1 d2 d3 d4 d5 d6;clear HQ hp;refine M90 ?_;clear Ae x0 wb hb hw;intro hp x0 wb hb hw;clear hq;refine M911 ?_;intro q0 q1 q2 q3 q4 q5 d0 d1 d2 d3 d4 d5 d6
 rcases cc with _|cc
 all_goals
  go_wp2_with fail;rw[zE2];have HQ:=fH [⟨#[59]⟩] w8.heap.size 1 1 (w8.alloc (.cells #[.string ⟨#[59]⟩] 9)) base g _ _ (hp.grown (aB w8 _ none)) rfl (Blk.new w8 9 [.string ⟨#[59]⟩]) Q8 Q26 hg;go_wp2_with fail;refine HQ.mono ?_;rintro e w9 ⟨rfl,⟨v',Ae⟩,hq⟩;clear q0 q1 q2 q3 q4 q5 d0 d1 d2 d3 d4 d5 d6;replace hq:=(aG.of (aB w8 (.cells #[.string ⟨#[59]⟩] 9) none)).trans hq;clear HQ hp;refine M90 ?_;clear Ae x0 wb hb hw;intro hp x0 wb hb hw;clear hq;refine M911 ?_;intro q0 q1 q2 q3 q4 q5 d0 d1 d2 d3 d4 d5 d6;rw[dU]at hp;go_wp2_with fail;rw[zE2];go_wp2_with fail
  have Bh:∃v',Pg w9 base g (l++prS (.mk 1 n name [e0,e1] bs es)) v':=⟨_,by rw[HE.out];simpa [zD0] using hp⟩
  exact U7
theorem aQr (n:Int)(name:List Int)(e0:Ex)(S0:pE e0)(bs es:List St)(Sb:lA bs)(Se:lA es):aA5 (.mk 2 n name [e0] bs es):=by
 intro w0 w vs base g l v hT hr hb h0 hg hp hok Am;unfold St.fl at hr;obtain⟨y0,_,rfl,rfl,y1,_,rfl,rfl,y2,_,rfl,⟨a2,c2,rfl,h2,hc2,_⟩,y3,_,rfl,h3',y4,_,rfl,Be,y5,_,rfl,h5',rfl⟩:=hr;obtain⟨a3,c3,rfl,h3⟩:=h3'.list;obtain⟨a4,c4,rfl,h4⟩:=Be.list;obtain⟨a5,c5,rfl,h5⟩:=h5'.list;clear h3' Be h5'
 have An:(exs [e0]).length=1:=by simp[aQ]
 refine M925 ?_;intro hbl hel;rw[An,hbl,hel];simp only[agg];obtain⟨b4,o4,rfl⟩:=h3.addr Q18
 obtain⟨cc,rfl⟩:∃cc,c3=cc+1:=⟨c3-1,by have:=h3.cap;rw[An]at this;omega⟩
 obtain⟨us0,hv0,Af⟩:=(h3.el (i:=0) rfl).vals
 obtain⟨u00,u01,u02,u03,u04,rfl⟩:∃a b c d e,us0=[a,b,c,d,e]:=by
  exact U11
 refine M94 ?_;intro Au As Ar Aq Ap;clear Af;refine M967 ?_;intro hoks hk0
 have he:prS (.mk 2 n name [e0] bs es)=([73,70,32])++(prE e0)++([84,72,69,78,10])++(prB bs)++([69,76,83,69,10])++(prB es)++([69,78,68,32])++([59,10]):=by simp[prS,lE,fZ]
 refine M941 ?_;clear Am he;intro Am HE hloc;have hokb:=(aV hok).2.2.1;have hoke:=(aV hok).2.2.2;clear hok;refine M97 ?_;intro hgl Al Ao;have x0:=Blk.new w 116 [.int .i64 2,.int .i64 n,.slice a2 name.length c2,.slice (some ⟨b4,o4,none⟩) 1 (cc+1),.slice a4 bs.length c4,.slice a5 es.length c5]
 have hw:aG base (some g) w (w.alloc (.cells #[.int .i64 2,.int .i64 n,.slice a2 name.length c2,.slice (some ⟨b4,o4,none⟩) 1 (cc+1),.slice a4 bs.length c4,.slice a5 es.length c5] 116 (0,0))):=aG.of (aB w _ none)
 replace hb:Below w0.heap.size w0 (w.alloc (.cells #[.int .i64 2,.int .i64 n,.slice a2 name.length c2,.slice (some ⟨b4,o4,none⟩) 1 (cc+1),.slice a4 bs.length c4,.slice a5 es.length c5] 116 (0,0))):=hb.alloc hb.size _
 replace hp:=hp.grown (aB w (.cells #[.int .i64 2,.int .i64 n,.slice a2 name.length c2,.slice (some ⟨b4,o4,none⟩) 1 (cc+1),.slice a4 bs.length c4,.slice a5 es.length c5] 116 (0,0)) none);go_enter Tryz.func146,Tryz.ntmps146;have q3:=x0.k 3;go_upto_region 2 with fail;clear q3;generalize w.alloc (.cells #[.int .i64 2,.int .i64 n,.slice a2 name.length c2,.slice (some ⟨b4,o4,none⟩) 1 (cc+1),.slice a4 bs.length c4,.slice a5 es.length c5] 116 (0,0))=w1 at *;generalize w.heap.size=gx at *;have q0:=x0.k 0;have hF:=(hT.below hb).st 2 Q0;refine M919 ?_;intro z0 z1 z2 z3 z4;have HQ:=hH (stF 2) (jT 2) w1 (hT.below hb);rw[aSr]at HQ;unfold Fm.val at HQ;clear hF;simp only[Nat.reduceMul,Nat.reduceAdd,Nat.zero_mul,zJ2]at z0 z1 z2 z3 z4;go_wp2_with fail;refine HQ.mono ?_;rintro e w2 ⟨gw,rfl,wb,hgw',hq⟩;clear HQ q0 z0 z1 z2 z3 z4;refine M96 ?_;clear x0 hb hw hp;intro Bf x0 hb hw hp;clear hq hgw' hgl;simp only[tV,zH2,List.map_nil,zB1,zC3]at wb ⊢;refine M911 ?_;intro q0 q1 q2 q3 q4 q5 d0 d1 d2 d3 d4 d5 d6;have d7:=wb.k 7;go_wp2_with fail;refine zH1 9 ?_;rw[zE2]
 have HQ:=fH [⟨#[73,70]⟩] w2.heap.size 1 1 (w2.alloc (.cells #[.string ⟨#[73,70]⟩] 9)) base g _ _ (hp.grown (aB w2 _ none)) rfl (Blk.new w2 9 [.string ⟨#[73,70]⟩]) Q8 (by rw[uS];simp only[zA1,zB1,zC3];omega) hg
 go_wp2_with fail;refine HQ.mono ?_;rintro e w3 ⟨rfl,⟨v',Ae⟩,hq⟩;clear q0 q1 q2 q3 q4 q5 d0 d1 d2 d3 d4 d5 d6 d7;replace hq:=(aG.of (aB w2 (.cells #[.string ⟨#[73,70]⟩] 9) none)).trans hq;clear HQ hp;refine M90 ?_;clear Ae x0 wb hb hw;intro hp x0 wb hb hw;clear hq;refine M911 ?_;intro q0 q1 q2 q3 q4 q5 d0 d1 d2 d3 d4 d5 d6;have d7:=wb.k 7;rw[uS]at hp;go_wp2_with fail;refine M928 ?_;intro HQ t0 t1 t2 t3 t4;go_wp2_with fail;refine HQ.mono ?_;rintro e w4 ⟨rfl,⟨v',Ae⟩,hq⟩;clear t0 t1 t2 t3 t4;clear q0 q1 q2 q3 q4 q5 d0 d1 d2 d3 d4 d5 d6 d7;clear HQ hp;refine M90 ?_;clear Ae x0 wb hb hw;intro hp x0 wb hb hw;clear hq;refine M911 ?_;intro q0 q1 q2 q3 q4 q5 d0 d1 d2 d3 d4 d5 d6;have d7:=wb.k 7
 rcases cc with _|cc
 all_goals
  go_wp2_with fail;rw[zE2]
  have HQ:=fH [⟨#[84,72,69,78]⟩] w4.heap.size 1 1 (w4.alloc (.cells #[.string ⟨#[84,72,69,78]⟩] 9)) base g _ _ (hp.grown (aB w4 _ none)) rfl (Blk.new w4 9 [.string ⟨#[84,72,69,78]⟩]) Q8 (by rw[kP];simp only[zA1,zB1,zC3];omega) hg
  go_wp2_with fail;refine HQ.mono ?_;rintro e w5 ⟨rfl,⟨v',Ae⟩,hq⟩;clear q0 q1 q2 q3 q4 q5 d0 d1 d2 d3 d4 d5 d6 d7;replace hq:=(aG.of (aB w4 (.cells #[.string ⟨#[84,72,69,78]⟩] 9) none)).trans hq;clear HQ hp;refine M90 ?_;clear Ae x0 wb hb hw;intro hp x0 wb hb hw;clear hq;refine M911 ?_;intro q0 q1 q2 q3 q4 q5 d0 d1 d2 d3 d4 d5 d6;have d7:=wb.k 7;rw[kP]at hp;go_wp2_with fail;rw[zE2];have HQ:=Sb w0 w5 a4 c4 base g _ _ hT h4 hb h0 hg hp hokb Q13;go_wp2_with fail;refine HQ.mono ?_;rintro e w6 ⟨rfl,⟨v',Ae⟩,hq⟩;clear q0 q1 q2 q3 q4 q5 d0 d1 d2 d3 d4 d5 d6 d7;clear HQ hp;refine M90 ?_;clear Ae x0 wb hb hw;intro hp x0 wb hb hw;clear hq;refine M911 ?_;intro q0 q1 q2 q3 q4 q5 d0 d1 d2 d3 d4 d5 d6;have d7:=wb.k 7;go_wp2_with fail;rw[zE2]
  have HQ:=fH [⟨#[69,76,83,69]⟩] w6.heap.size 1 1 (w6.alloc (.cells #[.string ⟨#[69,76,83,69]⟩] 9)) base g _ _ (hp.grown (aB w6 _ none)) rfl (Blk.new w6 9 [.string ⟨#[69,76,83,69]⟩]) Q8 (by rw[kS];simp only[zA1,zB1,zC3];omega) hg
  go_wp2_with fail;refine HQ.mono ?_;rintro e w7 ⟨rfl,⟨v',Ae⟩,hq⟩;clear q0 q1 q2 q3 q4 q5 d0 d1 d2 d3 d4 d5 d6 d7;replace hq:=(aG.of (aB w6 (.cells #[.string ⟨#[69,76,83,69]⟩] 9) none)).trans hq;clear HQ hp;refine M90 ?_;clear Ae x0 wb hb hw;intro hp x0 wb hb hw;clear hq;refine M911 ?_;intro q0 q1 q2 q3 q4 q5 d0 d1 d2 d3 d4 d5 d6;have d7:=wb.k 7;rw[kS]at hp;go_wp2_with fail;rw[zE2];have HQ:=Se w0 w7 a5 c5 base g _ _ hT h5 hb h0 hg hp hoke Q13;go_wp2_with fail;refine HQ.mono ?_;rintro e w8 ⟨rfl,⟨v',Ae⟩,hq⟩;clear q0 q1 q2 q3 q4 q5 d0 d1 d2 d3 d4 d5 d6 d7;clear HQ hp;refine M90 ?_;clear Ae x0 wb hb hw;intro hp x0 wb hb hw;clear hq;refine M911 ?_;intro q0 q1 q2 q3 q4 q5 d0 d1 d2 d3 d4 d5 d6;have d7:=wb.k 7;go_wp2_with fail;rw[zE2]
  have HQ:=fH [⟨#[69,78,68]⟩] w8.heap.size 1 1 (w8.alloc (.cells #[.string ⟨#[69,78,68]⟩] 9)) base g _ _ (hp.grown (aB w8 _ none)) rfl (Blk.new w8 9 [.string ⟨#[69,78,68]⟩]) Q8 (by rw[eO];simp only[zA1,zB1,zC3];omega) hg
  go_wp2_with fail;refine HQ.mono ?_;rintro e w9 ⟨rfl,⟨v',Ae⟩,hq⟩;clear q0 q1 q2 q3 q4 q5 d0 d1 d2 d3 d4 d5 d6 d7;replace hq:=(aG.of (aB w8 (.cells #[.string ⟨#[69,78,68]⟩] 9) none)).trans hq;clear HQ hp;refine M90 ?_;clear Ae x0 wb hb hw;intro hp x0 wb hb hw;clear hq;refine M911 ?_;intro q0 q1 q2 q3 q4 q5 d0 d1 d2 d3 d4 d5 d6;have d7:=wb.k 7;rw[eO]at hp;go_wp2_with fail;rw[zE2];have HQ:=fH [⟨#[59]⟩] w9.heap.size 1 1 (w9.alloc (.cells #[.string ⟨#[59]⟩] 9)) base g _ _ (hp.grown (aB w9 _ none)) rfl (Blk.new w9 9 [.string ⟨#[59]⟩]) Q8 Q26 hg;go_wp2_with fail;refine HQ.mono ?_;rintro e w10 ⟨rfl,⟨v',Ae⟩,hq⟩;clear q0 q1 q2 q3 q4 q5 d0 d1 d2 d3 d4 d5 d6 d7;replace hq:=(aG.of (aB w9 (.cells #[.string ⟨#[59]⟩] 9) none)).trans hq;clear HQ hp;refine M90 ?_;clear Ae x0 wb hb hw;intro hp x0 wb hb hw;clear hq;refine M911 ?_;intro q0 q1 q2 q3 q4 q5 d0 d1 d2 d3 d4 d5 d6;have d7:=wb.k 7;rw[dU]at hp;go_wp2_with fail;rw[zE2];go_wp2_with fail
  have Bh:∃v',Pg w10 base g (l++prS (.mk 2 n name [e0] bs es)) v':=⟨_,by rw[HE.out];simpa [zD0] using hp⟩
  exact U7
theorem aQq (n:Int)(name:List Int)(e0:Ex)(S0:pE e0)(bs es:List St)(Sb:lA bs)(Se:lA es):aA5 (.mk 3 n name [e0] bs es):=by
 intro w0 w vs base g l v hT hr hb h0 hg hp hok Am;unfold St.fl at hr;obtain⟨y0,_,rfl,rfl,y1,_,rfl,rfl,y2,_,rfl,⟨a2,c2,rfl,h2,hc2,_⟩,y3,_,rfl,h3',y4,_,rfl,Be,y5,_,rfl,h5',rfl⟩:=hr;obtain⟨a3,c3,rfl,h3⟩:=h3'.list;obtain⟨a4,c4,rfl,h4⟩:=Be.list;obtain⟨a5,c5,rfl,h5⟩:=h5'.list;clear h3' Be h5'
 have An:(exs [e0]).length=1:=by simp[aQ]
 refine M925 ?_;intro hbl hel;rw[An,hbl,hel];simp only[agg];obtain⟨b4,o4,rfl⟩:=h3.addr Q18
 obtain⟨cc,rfl⟩:∃cc,c3=cc+1:=⟨c3-1,by have:=h3.cap;rw[An]at this;omega⟩
 obtain⟨us0,hv0,Af⟩:=(h3.el (i:=0) rfl).vals
 obtain⟨u00,u01,u02,u03,u04,rfl⟩:∃a b c d e,us0=[a,b,c,d,e]:=by
  exact U11
 refine M94 ?_;intro Au As Ar Aq Ap;clear Af;refine M967 ?_;intro hoks hk0
 have he:prS (.mk 3 n name [e0] bs es)=([87,72,73,76,69,32])++(prE e0)++([68,79,10])++(prB bs)++([69,78,68,32])++([59,10]):=by simp[prS,lE,fZ]
 refine M941 ?_;clear Am he;intro Am HE hloc;have hokb:=(aV hok).2.2.1;have hoke:=(aV hok).2.2.2;clear hok;refine M97 ?_;intro hgl Al Ao;have x0:=Blk.new w 116 [.int .i64 3,.int .i64 n,.slice a2 name.length c2,.slice (some ⟨b4,o4,none⟩) 1 (cc+1),.slice a4 bs.length c4,.slice a5 es.length c5]
 have hw:aG base (some g) w (w.alloc (.cells #[.int .i64 3,.int .i64 n,.slice a2 name.length c2,.slice (some ⟨b4,o4,none⟩) 1 (cc+1),.slice a4 bs.length c4,.slice a5 es.length c5] 116 (0,0))):=aG.of (aB w _ none)
 replace hb:Below w0.heap.size w0 (w.alloc (.cells #[.int .i64 3,.int .i64 n,.slice a2 name.length c2,.slice (some ⟨b4,o4,none⟩) 1 (cc+1),.slice a4 bs.length c4,.slice a5 es.length c5] 116 (0,0))):=hb.alloc hb.size _
 replace hp:=hp.grown (aB w (.cells #[.int .i64 3,.int .i64 n,.slice a2 name.length c2,.slice (some ⟨b4,o4,none⟩) 1 (cc+1),.slice a4 bs.length c4,.slice a5 es.length c5] 116 (0,0)) none);go_enter Tryz.func146,Tryz.ntmps146;have q3:=x0.k 3;go_upto_region 2 with fail;clear q3;generalize w.alloc (.cells #[.int .i64 3,.int .i64 n,.slice a2 name.length c2,.slice (some ⟨b4,o4,none⟩) 1 (cc+1),.slice a4 bs.length c4,.slice a5 es.length c5] 116 (0,0))=w1 at *;generalize w.heap.size=gx at *;have q0:=x0.k 0;have hF:=(hT.below hb).st 3 Q0;refine M919 ?_;intro z0 z1 z2 z3 z4;have HQ:=hH (stF 3) (jT 3) w1 (hT.below hb);rw[aSq]at HQ;unfold Fm.val at HQ;clear hF;simp only[Nat.reduceMul,Nat.reduceAdd,Nat.zero_mul,zJ2]at z0 z1 z2 z3 z4;go_wp2_with fail;refine HQ.mono ?_;rintro e w2 ⟨gw,rfl,wb,hgw',hq⟩;clear HQ q0 z0 z1 z2 z3 z4;refine M96 ?_;clear x0 hb hw hp;intro Bf x0 hb hw hp;clear hq hgw' hgl;simp only[tV,zH2,List.map_nil,zB1,zC3]at wb ⊢;obtain⟨q0,q1,q2,q3,q4,q5⟩:=x0.c6;obtain⟨d0,d1,d2,d3,d4,d5⟩:=wb.c6;go_wp2_with fail;refine zH1 7 ?_;rw[zE2]
 have HQ:=fH [⟨#[87,72,73,76,69]⟩] w2.heap.size 1 1 (w2.alloc (.cells #[.string ⟨#[87,72,73,76,69]⟩] 9)) base g _ _ (hp.grown (aB w2 _ none)) rfl (Blk.new w2 9 [.string ⟨#[87,72,73,76,69]⟩]) Q8 (by rw[jA];simp only[zA1,zB1,zC3];omega) hg
 go_wp2_with fail;refine HQ.mono ?_;rintro e w3 ⟨rfl,⟨v',Ae⟩,hq⟩;clear q0 q1 q2 q3 q4 q5 d0 d1 d2 d3 d4 d5;replace hq:=(aG.of (aB w2 (.cells #[.string ⟨#[87,72,73,76,69]⟩] 9) none)).trans hq;clear HQ hp;refine M90 ?_;clear Ae x0 wb hb hw;intro hp x0 wb hb hw;clear hq;obtain⟨q0,q1,q2,q3,q4,q5⟩:=x0.c6;obtain⟨d0,d1,d2,d3,d4,d5⟩:=wb.c6;rw[jA]at hp;go_wp2_with fail;refine M928 ?_;intro HQ t0 t1 t2 t3 t4;go_wp2_with fail;refine HQ.mono ?_;rintro e w4 ⟨rfl,⟨v',Ae⟩,hq⟩;clear t0 t1 t2 t3 t4;clear q0 q1 q2 q3 q4 q5 d0 d1 d2 d3 d4 d5;clear HQ hp;refine M90 ?_;clear Ae x0 wb hb hw;intro hp x0 wb hb hw;clear hq;obtain⟨q0,q1,q2,q3,q4,q5⟩:=x0.c6;obtain⟨d0,d1,d2,d3,d4,d5⟩:=wb.c6
 rcases cc with _|cc
 all_goals
  go_wp2_with fail;rw[zE2]
  have HQ:=fH [⟨#[68,79]⟩] w4.heap.size 1 1 (w4.alloc (.cells #[.string ⟨#[68,79]⟩] 9)) base g _ _ (hp.grown (aB w4 _ none)) rfl (Blk.new w4 9 [.string ⟨#[68,79]⟩]) Q8 (by rw[uT];simp only[zA1,zB1,zC3];omega) hg
  go_wp2_with fail;refine HQ.mono ?_;rintro e w5 ⟨rfl,⟨v',Ae⟩,hq⟩;clear q0 q1 q2 q3 q4 q5 d0 d1 d2 d3 d4 d5;replace hq:=(aG.of (aB w4 (.cells #[.string ⟨#[68,79]⟩] 9) none)).trans hq;clear HQ hp;refine M90 ?_;clear Ae x0 wb hb hw;intro hp x0 wb hb hw;clear hq;obtain⟨q0,q1,q2,q3,q4,q5⟩:=x0.c6;obtain⟨d0,d1,d2,d3,d4,d5⟩:=wb.c6;rw[uT]at hp;go_wp2_with fail;rw[zE2];have HQ:=Sb w0 w5 a4 c4 base g _ _ hT h4 hb h0 hg hp hokb Q13;go_wp2_with fail;refine HQ.mono ?_;rintro e w6 ⟨rfl,⟨v',Ae⟩,hq⟩;clear q0 q1 q2 q3 q4 q5 d0 d1 d2 d3 d4 d5;clear HQ hp;refine M90 ?_;clear Ae x0 wb hb hw;intro hp x0 wb hb hw;clear hq;obtain⟨q0,q1,q2,q3,q4,q5⟩:=x0.c6;obtain⟨d0,d1,d2,d3,d4,d5⟩:=wb.c6;go_wp2_with fail;rw[zE2]
  have HQ:=fH [⟨#[69,78,68]⟩] w6.heap.size 1 1 (w6.alloc (.cells #[.string ⟨#[69,78,68]⟩] 9)) base g _ _ (hp.grown (aB w6 _ none)) rfl (Blk.new w6 9 [.string ⟨#[69,78,68]⟩]) Q8 (by rw[eO];simp only[zA1,zB1,zC3];omega) hg
  go_wp2_with fail;refine HQ.mono ?_;rintro e w7 ⟨rfl,⟨v',Ae⟩,hq⟩;clear q0 q1 q2 q3 q4 q5 d0 d1 d2 d3 d4 d5;replace hq:=(aG.of (aB w6 (.cells #[.string ⟨#[69,78,68]⟩] 9) none)).trans hq;clear HQ hp;refine M90 ?_;clear Ae x0 wb hb hw;intro hp x0 wb hb hw;clear hq;obtain⟨q0,q1,q2,q3,q4,q5⟩:=x0.c6;obtain⟨d0,d1,d2,d3,d4,d5⟩:=wb.c6;rw[eO]at hp;go_wp2_with fail;rw[zE2];have HQ:=fH [⟨#[59]⟩] w7.heap.size 1 1 (w7.alloc (.cells #[.string ⟨#[59]⟩] 9)) base g _ _ (hp.grown (aB w7 _ none)) rfl (Blk.new w7 9 [.string ⟨#[59]⟩]) Q8 Q26 hg;go_wp2_with fail;refine HQ.mono ?_;rintro e w8 ⟨rfl,⟨v',Ae⟩,hq⟩;clear q0 q1 q2 q3 q4 q5 d0 d1 d2 d3 d4 d5;replace hq:=(aG.of (aB w7 (.cells #[.string ⟨#[59]⟩] 9) none)).trans hq;clear HQ hp;refine M90 ?_;clear Ae x0 wb hb hw;intro hp x0 wb hb hw;clear hq;obtain⟨q0,q1,q2,q3,q4,q5⟩:=x0.c6;obtain⟨d0,d1,d2,d3,d4,d5⟩:=wb.c6;rw[dU]at hp;go_wp2_with fail;rw[zE2];go_wp2_with fail
  have Bh:∃v',Pg w8 base g (l++prS (.mk 3 n name [e0] bs es)) v':=⟨_,by rw[HE.out];simpa [zD0] using hp⟩
  exact U7
theorem aQp (n:Int)(name:List Int)(e0:Ex)(S0:pE e0)(bs es:List St)(Sb:lA bs)(Se:lA es):aA5 (.mk 4 n name [e0] bs es):=by
 intro w0 w vs base g l v hT hr hb h0 hg hp hok Am;unfold St.fl at hr;obtain⟨y0,_,rfl,rfl,y1,_,rfl,rfl,y2,_,rfl,⟨a2,c2,rfl,h2,hc2,_⟩,y3,_,rfl,h3',y4,_,rfl,Be,y5,_,rfl,h5',rfl⟩:=hr;obtain⟨a3,c3,rfl,h3⟩:=h3'.list;obtain⟨a4,c4,rfl,h4⟩:=Be.list;obtain⟨a5,c5,rfl,h5⟩:=h5'.list;clear h3' Be h5'
 have An:(exs [e0]).length=1:=by simp[aQ]
 refine M925 ?_;intro hbl hel;rw[An,hbl,hel];simp only[agg];obtain⟨b4,o4,rfl⟩:=h3.addr Q18
 obtain⟨cc,rfl⟩:∃cc,c3=cc+1:=⟨c3-1,by have:=h3.cap;rw[An]at this;omega⟩
 obtain⟨us0,hv0,Af⟩:=(h3.el (i:=0) rfl).vals
 obtain⟨u00,u01,u02,u03,u04,rfl⟩:∃a b c d e,us0=[a,b,c,d,e]:=by
  exact U11
 refine M94 ?_;intro Au As Ar Aq Ap;clear Af;refine M967 ?_;intro hoks hk0
 have he:prS (.mk 4 n name [e0] bs es)=([82,69,84,85,82,78,32])++(prE e0)++([59,10]):=by simp[prS,lE,fZ]
 refine M941 ?_;clear Am he;intro Am HE hloc;have hokb:=(aV hok).2.2.1;have hoke:=(aV hok).2.2.2;clear hok;refine M97 ?_;intro hgl Al Ao;have x0:=Blk.new w 116 [.int .i64 4,.int .i64 n,.slice a2 name.length c2,.slice (some ⟨b4,o4,none⟩) 1 (cc+1),.slice a4 bs.length c4,.slice a5 es.length c5]
 have hw:aG base (some g) w (w.alloc (.cells #[.int .i64 4,.int .i64 n,.slice a2 name.length c2,.slice (some ⟨b4,o4,none⟩) 1 (cc+1),.slice a4 bs.length c4,.slice a5 es.length c5] 116 (0,0))):=aG.of (aB w _ none)
 replace hb:Below w0.heap.size w0 (w.alloc (.cells #[.int .i64 4,.int .i64 n,.slice a2 name.length c2,.slice (some ⟨b4,o4,none⟩) 1 (cc+1),.slice a4 bs.length c4,.slice a5 es.length c5] 116 (0,0))):=hb.alloc hb.size _
 replace hp:=hp.grown (aB w (.cells #[.int .i64 4,.int .i64 n,.slice a2 name.length c2,.slice (some ⟨b4,o4,none⟩) 1 (cc+1),.slice a4 bs.length c4,.slice a5 es.length c5] 116 (0,0)) none);go_enter Tryz.func146,Tryz.ntmps146;have q3:=x0.k 3;go_upto_region 2 with fail;clear q3;generalize w.alloc (.cells #[.int .i64 4,.int .i64 n,.slice a2 name.length c2,.slice (some ⟨b4,o4,none⟩) 1 (cc+1),.slice a4 bs.length c4,.slice a5 es.length c5] 116 (0,0))=w1 at *;generalize w.heap.size=gx at *;have q0:=x0.k 0;have hF:=(hT.below hb).st 4 Q0;refine M919 ?_;intro z0 z1 z2 z3 z4;have HQ:=hH (stF 4) (jT 4) w1 (hT.below hb);rw[aSp]at HQ;unfold Fm.val at HQ;clear hF;simp only[Nat.reduceMul,Nat.reduceAdd,Nat.zero_mul,zJ2]at z0 z1 z2 z3 z4;go_wp2_with fail;refine HQ.mono ?_;rintro e w2 ⟨gw,rfl,wb,hgw',hq⟩;clear HQ q0 z0 z1 z2 z3 z4;refine M96 ?_;clear x0 hb hw hp;intro Bf x0 hb hw hp;clear hq hgw' hgl;simp only[tV,zH2,List.map_nil,zB1,zC3]at wb ⊢;refine M926 ?_;intro q0 q1 q2 q3 q4 q5 d0 d1 d2;go_wp2_with fail;refine zH1 4 ?_;rw[zE2]
 have HQ:=fH [⟨#[82,69,84,85,82,78]⟩] w2.heap.size 1 1 (w2.alloc (.cells #[.string ⟨#[82,69,84,85,82,78]⟩] 9)) base g _ _ (hp.grown (aB w2 _ none)) rfl (Blk.new w2 9 [.string ⟨#[82,69,84,85,82,78]⟩]) Q8 (by rw[iA];simp only[zA1,zB1,zC3];omega) hg
 go_wp2_with fail;refine HQ.mono ?_;rintro e w3 ⟨rfl,⟨v',Ae⟩,hq⟩;clear q0 q1 q2 q3 q4 q5 d0 d1 d2;replace hq:=(aG.of (aB w2 (.cells #[.string ⟨#[82,69,84,85,82,78]⟩] 9) none)).trans hq;clear HQ hp;refine M90 ?_;clear Ae x0 wb hb hw;intro hp x0 wb hb hw;clear hq;refine M926 ?_;intro q0 q1 q2 q3 q4 q5 d0 d1 d2;rw[iA]at hp;go_wp2_with fail;refine M928 ?_;intro HQ t0 t1 t2 t3 t4;go_wp2_with fail;refine HQ.mono ?_;rintro e w4 ⟨rfl,⟨v',Ae⟩,hq⟩;clear t0 t1 t2 t3 t4;clear q0 q1 q2 q3 q4 q5 d0 d1 d2;clear HQ hp;refine M90 ?_;clear Ae x0 wb hb hw;intro hp x0 wb hb hw;clear hq;refine M926 ?_;intro q0 q1 q2 q3 q4 q5 d0 d1 d2
 rcases cc with _|cc
 all_goals
  go_wp2_with fail;refine M964 ?_;intro HQ;go_wp2_with fail;refine M970 ?_;clear q0 q1 q2 q3 q4 q5 d0 d1 d2;intro w5 v' Ae hq;clear HQ hp;refine M90 ?_;clear Ae x0 wb hb hw;intro hp x0 wb hb hw;clear hq;refine M926 ?_;intro q0 q1 q2 q3 q4 q5 d0 d1 d2;rw[dU]at hp;go_wp2_with fail;rw[zE2];go_wp2_with fail
  have Bh:∃v',Pg w5 base g (l++prS (.mk 4 n name [e0] bs es)) v':=⟨_,by rw[HE.out];simpa [zD0] using hp⟩
  exact U7
theorem aQo (n:Int)(name:List Int)(e0:Ex)(S0:pE e0)(bs es:List St)(Sb:lA bs)(Se:lA es):aA5 (.mk 5 n name [e0] bs es):=by
 intro w0 w vs base g l v hT hr hb h0 hg hp hok Am;unfold St.fl at hr;obtain⟨y0,_,rfl,rfl,y1,_,rfl,rfl,y2,_,rfl,⟨a2,c2,rfl,h2,hc2,_⟩,y3,_,rfl,h3',y4,_,rfl,Be,y5,_,rfl,h5',rfl⟩:=hr;obtain⟨a3,c3,rfl,h3⟩:=h3'.list;obtain⟨a4,c4,rfl,h4⟩:=Be.list;obtain⟨a5,c5,rfl,h5⟩:=h5'.list;clear h3' Be h5'
 have An:(exs [e0]).length=1:=by simp[aQ]
 refine M925 ?_;intro hbl hel;rw[An,hbl,hel];simp only[agg];obtain⟨b4,o4,rfl⟩:=h3.addr Q18
 obtain⟨cc,rfl⟩:∃cc,c3=cc+1:=⟨c3-1,by have:=h3.cap;rw[An]at this;omega⟩
 obtain⟨us0,hv0,Af⟩:=(h3.el (i:=0) rfl).vals
 obtain⟨u00,u01,u02,u03,u04,rfl⟩:∃a b c d e,us0=[a,b,c,d,e]:=by
  exact U11
 refine M94 ?_;intro Au As Ar Aq Ap;clear Af;refine M967 ?_;intro hoks hk0
 have he:prS (.mk 5 n name [e0] bs es)=([79,85,84,32])++(prE e0)++([59,10]):=by simp[prS,lE,fZ]
 refine M941 ?_;clear Am he;intro Am HE hloc;have hokb:=(aV hok).2.2.1;have hoke:=(aV hok).2.2.2;clear hok;refine M97 ?_;intro hgl Al Ao;have x0:=Blk.new w 116 [.int .i64 5,.int .i64 n,.slice a2 name.length c2,.slice (some ⟨b4,o4,none⟩) 1 (cc+1),.slice a4 bs.length c4,.slice a5 es.length c5]
 have hw:aG base (some g) w (w.alloc (.cells #[.int .i64 5,.int .i64 n,.slice a2 name.length c2,.slice (some ⟨b4,o4,none⟩) 1 (cc+1),.slice a4 bs.length c4,.slice a5 es.length c5] 116 (0,0))):=aG.of (aB w _ none)
 replace hb:Below w0.heap.size w0 (w.alloc (.cells #[.int .i64 5,.int .i64 n,.slice a2 name.length c2,.slice (some ⟨b4,o4,none⟩) 1 (cc+1),.slice a4 bs.length c4,.slice a5 es.length c5] 116 (0,0))):=hb.alloc hb.size _
 replace hp:=hp.grown (aB w (.cells #[.int .i64 5,.int .i64 n,.slice a2 name.length c2,.slice (some ⟨b4,o4,none⟩) 1 (cc+1),.slice a4 bs.length c4,.slice a5 es.length c5] 116 (0,0)) none);go_enter Tryz.func146,Tryz.ntmps146;have q3:=x0.k 3;go_upto_region 2 with fail;clear q3;generalize w.alloc (.cells #[.int .i64 5,.int .i64 n,.slice a2 name.length c2,.slice (some ⟨b4,o4,none⟩) 1 (cc+1),.slice a4 bs.length c4,.slice a5 es.length c5] 116 (0,0))=w1 at *;generalize w.heap.size=gx at *;have q0:=x0.k 0;have hF:=(hT.below hb).st 5 Q0;refine M919 ?_;intro z0 z1 z2 z3 z4;have HQ:=hH (stF 5) (jT 5) w1 (hT.below hb);rw[aSo]at HQ;unfold Fm.val at HQ;clear hF;simp only[Nat.reduceMul,Nat.reduceAdd,Nat.zero_mul,zJ2]at z0 z1 z2 z3 z4;go_wp2_with fail;refine HQ.mono ?_;rintro e w2 ⟨gw,rfl,wb,hgw',hq⟩;clear HQ q0 z0 z1 z2 z3 z4;refine M96 ?_;clear x0 hb hw hp;intro Bf x0 hb hw hp;clear hq hgw' hgl;simp only[tV,zH2,List.map_nil,zB1,zC3]at wb ⊢;refine M926 ?_;intro q0 q1 q2 q3 q4 q5 d0 d1 d2;go_wp2_with fail;refine zH1 4 ?_;rw[zE2]
 have HQ:=fH [⟨#[79,85,84]⟩] w2.heap.size 1 1 (w2.alloc (.cells #[.string ⟨#[79,85,84]⟩] 9)) base g _ _ (hp.grown (aB w2 _ none)) rfl (Blk.new w2 9 [.string ⟨#[79,85,84]⟩]) Q8 (by rw[oD];simp only[zA1,zB1,zC3];omega) hg
 go_wp2_with fail;refine HQ.mono ?_;rintro e w3 ⟨rfl,⟨v',Ae⟩,hq⟩;clear q0 q1 q2 q3 q4 q5 d0 d1 d2;replace hq:=(aG.of (aB w2 (.cells #[.string ⟨#[79,85,84]⟩] 9) none)).trans hq;clear HQ hp;refine M90 ?_;clear Ae x0 wb hb hw;intro hp x0 wb hb hw;clear hq;refine M926 ?_;intro q0 q1 q2 q3 q4 q5 d0 d1 d2;rw[oD]at hp;go_wp2_with fail;refine M928 ?_;intro HQ t0 t1 t2 t3 t4;go_wp2_with fail;refine HQ.mono ?_;rintro e w4 ⟨rfl,⟨v',Ae⟩,hq⟩;clear t0 t1 t2 t3 t4;clear q0 q1 q2 q3 q4 q5 d0 d1 d2;clear HQ hp;refine M90 ?_;clear Ae x0 wb hb hw;intro hp x0 wb hb hw;clear hq;refine M926 ?_;intro q0 q1 q2 q3 q4 q5 d0 d1 d2
 rcases cc with _|cc
 all_goals
  go_wp2_with fail;refine M964 ?_;intro HQ;go_wp2_with fail;refine M970 ?_;clear q0 q1 q2 q3 q4 q5 d0 d1 d2;intro w5 v' Ae hq;clear HQ hp;refine M90 ?_;clear Ae x0 wb hb hw;intro hp x0 wb hb hw;clear hq;refine M926 ?_;intro q0 q1 q2 q3 q4 q5 d0 d1 d2;rw[dU]at hp;go_wp2_with fail;rw[zE2];go_wp2_with fail
  have Bh:∃v',Pg w5 base g (l++prS (.mk 5 n name [e0] bs es)) v':=⟨_,by rw[HE.out];simpa [zD0] using hp⟩
  exact U7
theorem aQn (n:Int)(name:List Int)  (bs es:List St) (Sb:lA bs) (Se:lA es):aA5 (.mk 6 n name [] bs es):=by
 intro w0 w vs base g l v hT hr hb h0 hg hp hok Am;unfold St.fl at hr;obtain⟨y0,_,rfl,rfl,y1,_,rfl,rfl,y2,_,rfl,⟨a2,c2,rfl,h2,hc2,_⟩,y3,_,rfl,h3',y4,_,rfl,Be,y5,_,rfl,h5',rfl⟩:=hr;obtain⟨a3,c3,rfl,h3⟩:=h3'.list;obtain⟨a4,c4,rfl,h4⟩:=Be.list;obtain⟨a5,c5,rfl,h5⟩:=h5'.list;clear h3' Be h5'
 have An:(exs []).length=0:=by simp[aQ]
 refine M925 ?_;intro hbl hel;rw[An,hbl,hel];simp only[agg]
 have he:prS (.mk 6 n name [] bs es)=([84,82,65,80,32])++(gL n++[32])++([59,10]):=by simp[prS,lE,fZ]
 refine M941 ?_;clear Am he;intro Am HE hloc
 have hnb:0<=n/\n<=99:=by have:=mI hloc;simp[dE]at this;omega
 have hokb:=(aV hok).2.2.1;have hoke:=(aV hok).2.2.2;clear hok;refine M97 ?_;intro hgl Al Ao;have x0:=Blk.new w 116 [.int .i64 6,.int .i64 n,.slice a2 name.length c2,.slice a3 0 c3,.slice a4 bs.length c4,.slice a5 es.length c5]
 have hw:aG base (some g) w (w.alloc (.cells #[.int .i64 6,.int .i64 n,.slice a2 name.length c2,.slice a3 0 c3,.slice a4 bs.length c4,.slice a5 es.length c5] 116 (0,0))):=aG.of (aB w _ none)
 replace hb:Below w0.heap.size w0 (w.alloc (.cells #[.int .i64 6,.int .i64 n,.slice a2 name.length c2,.slice a3 0 c3,.slice a4 bs.length c4,.slice a5 es.length c5] 116 (0,0))):=hb.alloc hb.size _
 replace hp:=hp.grown (aB w (.cells #[.int .i64 6,.int .i64 n,.slice a2 name.length c2,.slice a3 0 c3,.slice a4 bs.length c4,.slice a5 es.length c5] 116 (0,0)) none);go_enter Tryz.func146,Tryz.ntmps146;have q3:=x0.k 3;go_upto_region 2 with fail;clear q3;generalize w.alloc (.cells #[.int .i64 6,.int .i64 n,.slice a2 name.length c2,.slice a3 0 c3,.slice a4 bs.length c4,.slice a5 es.length c5] 116 (0,0))=w1 at *;generalize w.heap.size=gx at *;have q0:=x0.k 0;have hF:=(hT.below hb).st 6 Q0;refine M919 ?_;intro z0 z1 z2 z3 z4;have HQ:=hH (stF 6) (jT 6) w1 (hT.below hb);rw[aSn]at HQ;unfold Fm.val at HQ;clear hF;simp only[Nat.reduceMul,Nat.reduceAdd,Nat.zero_mul,zJ2]at z0 z1 z2 z3 z4;go_wp2_with fail;refine HQ.mono ?_;rintro e w2 ⟨gw,rfl,wb,hgw',hq⟩;clear HQ q0 z0 z1 z2 z3 z4;refine M96 ?_;clear x0 hb hw hp;intro Bf x0 hb hw hp;clear hq hgw' hgl;simp only[tV,zH2,List.map_nil,zB1,zC3]at wb ⊢;refine M926 ?_;intro q0 q1 q2 q3 q4 q5 d0 d1 d2;go_wp2_with fail;refine zH1 4 ?_;rw[zE2]
 have HQ:=fH [⟨#[84,82,65,80]⟩] w2.heap.size 1 1 (w2.alloc (.cells #[.string ⟨#[84,82,65,80]⟩] 9)) base g _ _ (hp.grown (aB w2 _ none)) rfl (Blk.new w2 9 [.string ⟨#[84,82,65,80]⟩]) Q8 (by rw[kO];simp only[zA1,zB1,zC3];omega) hg
 go_wp2_with fail;refine HQ.mono ?_;rintro e w3 ⟨rfl,⟨v',Ae⟩,hq⟩;clear q0 q1 q2 q3 q4 q5 d0 d1 d2;replace hq:=(aG.of (aB w2 (.cells #[.string ⟨#[84,82,65,80]⟩] 9) none)).trans hq;clear HQ hp;refine M90 ?_;clear Ae x0 wb hb hw;intro hp x0 wb hb hw;clear hq;refine M926 ?_;intro q0 q1 q2 q3 q4 q5 d0 d1 d2;rw[kO]at hp;go_wp2_with fail;rw[zE2];have HQ:=aL7 n Q0 Q0 w3 (hT.below hb);go_wp2_with fail;refine HQ.mono ?_;rintro e w4 ⟨rfl,hq⟩;clear HQ;clear q0 q1 q2 q3 q4 q5 d0 d1 d2;replace hp:=hp.grown hq
 replace hq:aG base (some g) w3 w4:=aG.of hq
 replace x0:=hq.blk x0 Q5 Al;replace wb:=hq.blk wb Q5 Bf;replace hb:=hq.below hb h0 Ao;replace hw:=hw.trans hq;clear hq;refine M926 ?_;intro q0 q1 q2 q3 q4 q5 d0 d1 d2
 have HQ:=fH [⟨(Lib.itoa n).toArray⟩] w4.heap.size 1 1 (w4.alloc (.cells #[.string ⟨(Lib.itoa n).toArray⟩] 9)) base g _ _ (hp.grown (aB w4 _ none)) rfl (Blk.new w4 9 [.string ⟨(Lib.itoa n).toArray⟩]) Q8 (by rw[iQ];simp only[zA1,zB1,zC3];omega) hg
 go_wp2_with fail;refine HQ.mono ?_;rintro e w5 ⟨rfl,⟨v',Ae⟩,hq⟩;clear q0 q1 q2 q3 q4 q5 d0 d1 d2;replace hq:=(aG.of (aB w4 (.cells #[.string ⟨(Lib.itoa n).toArray⟩] 9) none)).trans hq;clear HQ hp;refine M90 ?_;clear Ae x0 wb hb hw;intro hp x0 wb hb hw;clear hq;refine M926 ?_;intro q0 q1 q2 q3 q4 q5 d0 d1 d2;rw[iQ]at hp;go_wp2_with fail;refine M990 ?_;intro HQ;go_wp2_with fail;refine HQ.mono ?_;rintro e w6 ⟨rfl,⟨v',Ae⟩,hq⟩;clear q0 q1 q2 q3 q4 q5 d0 d1 d2;replace hq:=(aG.of (aB w5 (.cells #[.string ⟨#[59]⟩] 9) none)).trans hq;clear HQ hp;refine M90 ?_;clear Ae x0 wb hb hw;intro hp x0 wb hb hw;clear hq;refine M926 ?_;intro q0 q1 q2 q3 q4 q5 d0 d1 d2;rw[dU]at hp;go_wp2_with fail;rw[zE2];go_wp2_with fail
 have Bh:∃v',Pg w6 base g (l++prS (.mk 6 n name [] bs es)) v':=⟨_,by rw[HE.out];simpa [zD0] using hp⟩
 exact U7
theorem aQm (n:Int)(name:List Int)(e0:Ex)(S0:pE e0)(bs es:List St)(Sb:lA bs)(Se:lA es):aA5 (.mk 7 n name [e0] bs es):=by
 intro w0 w vs base g l v hT hr hb h0 hg hp hok Am;unfold St.fl at hr;obtain⟨y0,_,rfl,rfl,y1,_,rfl,rfl,y2,_,rfl,⟨a2,c2,rfl,h2,hc2,_⟩,y3,_,rfl,h3',y4,_,rfl,Be,y5,_,rfl,h5',rfl⟩:=hr;obtain⟨a3,c3,rfl,h3⟩:=h3'.list;obtain⟨a4,c4,rfl,h4⟩:=Be.list;obtain⟨a5,c5,rfl,h5⟩:=h5'.list;clear h3' Be h5'
 have An:(exs [e0]).length=1:=by simp[aQ]
 refine M925 ?_;intro hbl hel;rw[An,hbl,hel];simp only[agg];obtain⟨b4,o4,rfl⟩:=h3.addr Q18
 obtain⟨cc,rfl⟩:∃cc,c3=cc+1:=⟨c3-1,by have:=h3.cap;rw[An]at this;omega⟩
 obtain⟨us0,hv0,Af⟩:=(h3.el (i:=0) rfl).vals
 obtain⟨u00,u01,u02,u03,u04,rfl⟩:∃a b c d e,us0=[a,b,c,d,e]:=by
  exact U11
 refine M94 ?_;intro Au As Ar Aq Ap;clear Af;refine M967 ?_;intro hoks hk0
 have he:prS (.mk 7 n name [e0] bs es)=([67,65,76,76,32])++(prE e0)++([59,10]):=by simp[prS,lE,fZ]
 refine M941 ?_;clear Am he;intro Am HE hloc;have hokb:=(aV hok).2.2.1;have hoke:=(aV hok).2.2.2;clear hok;refine M97 ?_;intro hgl Al Ao;have x0:=Blk.new w 116 [.int .i64 7,.int .i64 n,.slice a2 name.length c2,.slice (some ⟨b4,o4,none⟩) 1 (cc+1),.slice a4 bs.length c4,.slice a5 es.length c5]
 have hw:aG base (some g) w (w.alloc (.cells #[.int .i64 7,.int .i64 n,.slice a2 name.length c2,.slice (some ⟨b4,o4,none⟩) 1 (cc+1),.slice a4 bs.length c4,.slice a5 es.length c5] 116 (0,0))):=aG.of (aB w _ none)
 replace hb:Below w0.heap.size w0 (w.alloc (.cells #[.int .i64 7,.int .i64 n,.slice a2 name.length c2,.slice (some ⟨b4,o4,none⟩) 1 (cc+1),.slice a4 bs.length c4,.slice a5 es.length c5] 116 (0,0))):=hb.alloc hb.size _
 replace hp:=hp.grown (aB w (.cells #[.int .i64 7,.int .i64 n,.slice a2 name.length c2,.slice (some ⟨b4,o4,none⟩) 1 (cc+1),.slice a4 bs.length c4,.slice a5 es.length c5] 116 (0,0)) none);go_enter Tryz.func146,Tryz.ntmps146;have q3:=x0.k 3;go_upto_region 2 with fail;clear q3;generalize w.alloc (.cells #[.int .i64 7,.int .i64 n,.slice a2 name.length c2,.slice (some ⟨b4,o4,none⟩) 1 (cc+1),.slice a4 bs.length c4,.slice a5 es.length c5] 116 (0,0))=w1 at *;generalize w.heap.size=gx at *;have q0:=x0.k 0;have hF:=(hT.below hb).st 7 Q0;refine M919 ?_;intro z0 z1 z2 z3 z4;have HQ:=hH (stF 7) (jT 7) w1 (hT.below hb);rw[aSm]at HQ;unfold Fm.val at HQ;clear hF;simp only[Nat.reduceMul,Nat.reduceAdd,Nat.zero_mul,zJ2]at z0 z1 z2 z3 z4;go_wp2_with fail;refine HQ.mono ?_;rintro e w2 ⟨gw,rfl,wb,hgw',hq⟩;clear HQ q0 z0 z1 z2 z3 z4;refine M96 ?_;clear x0 hb hw hp;intro Bf x0 hb hw hp;clear hq hgw' hgl;simp only[tV,zH2,List.map_nil,zB1,zC3]at wb ⊢;refine M926 ?_;intro q0 q1 q2 q3 q4 q5 d0 d1 d2;go_wp2_with fail;refine zH1 4 ?_;rw[zE2]
 have HQ:=fH [⟨#[67,65,76,76]⟩] w2.heap.size 1 1 (w2.alloc (.cells #[.string ⟨#[67,65,76,76]⟩] 9)) base g _ _ (hp.grown (aB w2 _ none)) rfl (Blk.new w2 9 [.string ⟨#[67,65,76,76]⟩]) Q8 (by rw[kT];simp only[zA1,zB1,zC3];omega) hg
 go_wp2_with fail;refine HQ.mono ?_;rintro e w3 ⟨rfl,⟨v',Ae⟩,hq⟩;clear q0 q1 q2 q3 q4 q5 d0 d1 d2;replace hq:=(aG.of (aB w2 (.cells #[.string ⟨#[67,65,76,76]⟩] 9) none)).trans hq;clear HQ hp;refine M90 ?_;clear Ae x0 wb hb hw;intro hp x0 wb hb hw;clear hq;refine M926 ?_;intro q0 q1 q2 q3 q4 q5 d0 d1 d2;rw[kT]at hp;go_wp2_with fail;refine M928 ?_;intro HQ t0 t1 t2 t3 t4;go_wp2_with fail;refine HQ.mono ?_;rintro e w4 ⟨rfl,⟨v',Ae⟩,hq⟩;clear t0 t1 t2 t3 t4;clear q0 q1 q2 q3 q4 q5 d0 d1 d2;clear HQ hp;refine M90 ?_;clear Ae x0 wb hb hw;intro hp x0 wb hb hw;clear hq;refine M926 ?_;intro q0 q1 q2 q3 q4 q5 d0 d1 d2
 rcases cc with _|cc
 all_goals
  go_wp2_with fail;refine M964 ?_;intro HQ;go_wp2_with fail;refine M970 ?_;clear q0 q1 q2 q3 q4 q5 d0 d1 d2;intro w5 v' Ae hq;clear HQ hp;refine M90 ?_;clear Ae x0 wb hb hw;intro hp x0 wb hb hw;clear hq;refine M926 ?_;intro q0 q1 q2 q3 q4 q5 d0 d1 d2;rw[dU]at hp;go_wp2_with fail;rw[zE2];go_wp2_with fail
  have Bh:∃v',Pg w5 base g (l++prS (.mk 7 n name [e0] bs es)) v':=⟨_,by rw[HE.out];simpa [zD0] using hp⟩
  exact U7
end Go.Proofs.YtffphdacgblaoaaGreatDoor

import Derived.Test.YtegkhlkjfeafjaaGreatDoorPackP
namespace Go.Proofs.YtegkhlkjfeafjaaGreatDoor
set_option maxHeartbeats 4000000
open Go.RowKit
set_option linter.unusedVariables false
set_option linter.unusedSimpArgs false
set_option maxRecDepth 100000
theorem V105{p:Prop}(h:p:=by rw[dP];simp only[zA1,zB1,zC3];omega):p:=h
theorem M9187{p q:Prop}(k:q)(h:Kx q->p:=by
 intro kQ
 obtain⟨q0,q1,q2,q3,q4,q5⟩:=x0.c6
 have d0:=wb.k 0
 have d1:=wb.k 1
 have d2:=wb.k 2
 have d3:=wb.k 3
 have d4:=wb.k 4
 have d5:=wb.k 5
 have d6:=wb.k 6
 revert d6;revert d5;revert d4;revert d3;revert d2;revert d1;revert d0;revert q5;revert q4;revert q3;revert q2;revert q1;revert q0
 exact kQ.o):p:=h ⟨k⟩
theorem M940{p q:Prop}(k:q)(h:Kx q->p:=by
 intro kQ
 obtain⟨q0,q1,q2,q3,q4,q5⟩:=x0.c6
 obtain⟨d0,d1,d2⟩:=wb.c3
 revert d2;revert d1;revert d0;revert q5;revert q4;revert q3;revert q2;revert q1;revert q0
 exact kQ.o):p:=h ⟨k⟩
theorem M9205{p q:Prop}(k:q)(h:Kx q->p:=by
 intro kQ
 rw[he]at Bb
 simp only[zA1,zB1,zC3]at Bb
 have HE:=hid he
 have hloc:=(bG hok).1
 revert hloc;revert HE;revert Bb
 exact kQ.o):p:=h ⟨k⟩
theorem M9220{p q:Prop}(k:q)(h:Kx q->p:=by
 intro kQ
 rw[zE2]
 have HQ:=eW [⟨#[59]⟩] w4.heap.size 1 1 (w4.alloc (.cells #[.string ⟨#[59]⟩] 9)) base g _ _ (hp.grown (aC w4 _ none)) rfl (Blk.new w4 9 [.string ⟨#[59]⟩]) V12 V105 hg
 revert HQ
 exact kQ.o):p:=h ⟨k⟩
theorem M9223{p q:Prop}(k:q)(h:Kx q->p:=by
 intro kQ
 have hoks:=(bG hok).2.1
 simp only[dR,zC0,and_true]at hoks
 have hk0:=hoks
 revert hk0;revert hoks
 exact kQ.o):p:=h ⟨k⟩
theorem M9226{p q:Prop}(k:q)(h:Kx q->p:=by
 intro kQ
 refine HQ.mono ?_
 rintro e w5 ⟨rfl,⟨v',Bs⟩,hq⟩
 replace hq:=(aL.of (aC w4 (.cells #[.string ⟨#[59]⟩] 9) none)).trans hq
 revert hq;revert Bs;revert v';revert w5
 exact kQ.o):p:=h ⟨k⟩
theorem M9247{p q:Prop}(k:q)(h:Kx q->p:=by
 intro kQ
 rw[zE2]
 have kc:=aT c2 (h2.below hb)
 have HQ:=eW [(strOfNums name)] w2.heap.size 1 1 (w2.alloc (.cells #[.string (strOfNums name)] 9)) base g _ _ (hp.grown (aC w2 _ none)) rfl (Blk.new w2 9 [.string (strOfNums name)]) V12 V106 hg
 revert HQ;revert kc
 exact kQ.o):p:=h ⟨k⟩
theorem M9253{p q:Prop}(k:q)(h:Kx q->p:=by
 intro kQ
 rw[zE2]
 have HQ:=eW [⟨#[59]⟩] w5.heap.size 1 1 (w5.alloc (.cells #[.string ⟨#[59]⟩] 9)) base g _ _ (hp.grown (aC w5 _ none)) rfl (Blk.new w5 9 [.string ⟨#[59]⟩]) V12 V105 hg
 revert HQ
 exact kQ.o):p:=h ⟨k⟩
def aPc (x:St):Prop:=∀(w0 w:World) (vs:List Value) (base g:Nat) (l:List Int) (v:Value),kQ w0->aO w0 x.fl vs->Below w0.heap.size w0 w->w0.heap.size<=base->base<=g->Pg w base g l v->sM x=true->l.length+(prS x).length<=1000000000 →
 Calls Tryz.prog 236 #[.pointer (some ⟨g,0,none⟩),agg vs] w fun e w'=>e=.returned (.tuple #[])/\(∃v',Pg w' base g (l++prS x) v')/\aL base (some g) w w'
def jZ (b:List St):Prop:=∀(w0 w:World) (a:Option Addr) (c base g:Nat) (l:List Int) (v:Value),kQ w0->aS w0 a c 6 (sts b)->Below w0.heap.size w0 w->w0.heap.size<=base->base<=g->Pg w base g l v->fC b=true->l.length+(prB b).length<=1000000000 →
 Calls Tryz.prog 223 #[.pointer (some ⟨g,0,none⟩),.slice a b.length c] w fun e w'=>e=.returned (.tuple #[])/\(∃v',Pg w' base g (l++prB b) v')/\aL base (some g) w w'
theorem bG {k n:Int}{name:List Int}{ks:List Ex}{bs es:List St}(h:sM (.mk k n name ks bs es)=true):mI k n name ks bs.length es.length=true/\dR ks=true/\fC bs=true/\fC es=true:=by
 unfold sM at h;simp only[zC0]at h;exact⟨h.1.1.1,h.1.1.2,h.1.2,h.2⟩
theorem lJ {k n:Int}{name:List Int}{ks:List Ex}{nb ne:Nat}(h:mI k n name ks nb ne=true)(hk:dH k=true):aK name false=true:=by
 unfold mI at h;simp only[zC0]at h;rw[hk]at h;exact h.1.1.1.1.2.2
theorem lK {k n:Int}{name:List Int}{ks:List Ex}{nb ne:Nat}(h:mI k n name ks nb ne=true):(ks.length:Int)=bS k/\0<=k/\k<=7/\0<=n/\n<=dA k:=by
 unfold mI at h;simp only[zC0]at h;have h1:=h.1.1.1.1.2.1.2;have h2:=h.1.1.1.1.1;have h3:=h.1.1.1.1.2.1.1
 simp[inB]at h1 h2 h3
 omega
theorem aLy (n:Int)(name:List Int)(e0:Ex)(S0:nX e0)(bs es:List St)(Sb:jZ bs)(Se:jZ es):aPc (.mk 0 n name [e0] bs es):=by
 intro w0 w vs base g l v hT hr hb h0 hg hp hok Bb;unfold St.fl at hr;obtain⟨y0,_,rfl,rfl,y1,_,rfl,rfl,y2,_,rfl,⟨a2,c2,rfl,h2,hc2,_⟩,y3,_,rfl,h3',y4,_,rfl,Bl,y5,_,rfl,h5',rfl⟩:=hr;obtain⟨a3,c3,rfl,h3⟩:=h3'.list;obtain⟨a4,c4,rfl,h4⟩:=Bl.list;obtain⟨a5,c5,rfl,h5⟩:=h5'.list;clear h3' Bl h5'
 have As:(exs [e0]).length=1:=by simp[aJ]
 refine M939 ?_;intro hbl hel;rw[As,hbl,hel];simp only[agg];obtain⟨b4,o4,rfl⟩:=h3.addr V24
 obtain⟨cc,rfl⟩:∃cc,c3=cc+1:=⟨c3-1,by have:=h3.cap;rw[As]at this;omega⟩
 obtain⟨us0,hv0,Ah⟩:=(h3.el (i:=0) rfl).vals
 obtain⟨u00,u01,u02,u03,u04,rfl⟩:∃a b c d e,us0=[a,b,c,d,e]:=by
  exact U27
 refine M912 ?_;intro Ba Az Ay Ax Aw;clear Ah;refine M9223 ?_;intro hoks hk0
 have he:prS (.mk 0 n name [e0] bs es)=(name++[32])++([58,61,32])++(prE e0)++([59,10]):=by simp[prS,kC,fK]
 refine M9205 ?_;clear Bb he;intro Bb HE hloc;have hnm:=lJ hloc V7;have hpn:=cD (g:=false) h2.2.1 hnm;have hokb:=(bG hok).2.2.1;have hoke:=(bG hok).2.2.2;clear hok;refine M915 ?_;intro hgl An Bd;have x0:=Blk.new w 129 [.int .i64 0,.int .i64 n,.slice a2 name.length c2,.slice (some ⟨b4,o4,none⟩) 1 (cc+1),.slice a4 bs.length c4,.slice a5 es.length c5]
 have hw:aL base (some g) w (w.alloc (.cells #[.int .i64 0,.int .i64 n,.slice a2 name.length c2,.slice (some ⟨b4,o4,none⟩) 1 (cc+1),.slice a4 bs.length c4,.slice a5 es.length c5] 129 (0,0))):=aL.of (aC w _ none)
 replace hb:Below w0.heap.size w0 (w.alloc (.cells #[.int .i64 0,.int .i64 n,.slice a2 name.length c2,.slice (some ⟨b4,o4,none⟩) 1 (cc+1),.slice a4 bs.length c4,.slice a5 es.length c5] 129 (0,0))):=hb.alloc hb.size _
 replace hp:=hp.grown (aC w (.cells #[.int .i64 0,.int .i64 n,.slice a2 name.length c2,.slice (some ⟨b4,o4,none⟩) 1 (cc+1),.slice a4 bs.length c4,.slice a5 es.length c5] 129 (0,0)) none);go_enter Tryz.func236,Tryz.ntmps236;have q3:=x0.k 3;go_upto_region 2 with fail;clear q3;generalize w.alloc (.cells #[.int .i64 0,.int .i64 n,.slice a2 name.length c2,.slice (some ⟨b4,o4,none⟩) 1 (cc+1),.slice a4 bs.length c4,.slice a5 es.length c5] 129 (0,0))=w1 at *;generalize w.heap.size=gx at *;have q0:=x0.k 0;have hF:=(hT.below hb).st 0 V6;refine M931 ?_;intro z0 z1 z2 z3 z4;have HQ:=fZ (stF 0) (iQ 0) w1 (hT.below hb);rw[aNg]at HQ;unfold Fm.val at HQ;clear hF;simp only[Nat.reduceMul,Nat.reduceAdd,Nat.zero_mul,zK0]at z0 z1 z2 z3 z4;go_wp2_with fail;refine HQ.mono ?_;rintro e w2 ⟨gw,rfl,wb,hgw',hq⟩;clear HQ q0 z0 z1 z2 z3 z4;refine M916 ?_;clear x0 hb hw hp;intro Aq x0 hb hw hp;clear hq hgw' hgl;simp only[rP,zI0,List.map_nil,zB1,zC3]at wb ⊢;obtain⟨q0,q1,q2,q3,q4,q5⟩:=x0.c6;obtain⟨d0,d1,d2,d3⟩:=wb.c4;go_wp2_with fail;refine zH2 5 ?_;refine M9247 ?_;intro kc HQ;go_wp2_with fail;refine HQ.mono ?_;rintro e w3 ⟨rfl,⟨v',Bs⟩,hq⟩;clear q0 q1 q2 q3 q4 q5 d0 d1 d2 d3;replace hq:=(aL.of (aC w2 (.cells #[.string (strOfNums name)] 9) none)).trans hq;clear HQ hp;refine M9180 ?_;clear Bs x0 wb hb hw;intro hp x0 wb hb hw;clear hq;obtain⟨q0,q1,q2,q3,q4,q5⟩:=x0.c6;obtain⟨d0,d1,d2,d3⟩:=wb.c4;rw[hpn]at hp;clear kc;go_wp2_with fail;rw[zE2]
 have HQ:=eW [⟨#[58,61]⟩] w3.heap.size 1 1 (w3.alloc (.cells #[.string ⟨#[58,61]⟩] 9)) base g _ _ (hp.grown (aC w3 _ none)) rfl (Blk.new w3 9 [.string ⟨#[58,61]⟩]) V12 (by rw[lN];simp only[zA1,zB1,zC3];omega) hg
 go_wp2_with fail;refine HQ.mono ?_;rintro e w4 ⟨rfl,⟨v',Bs⟩,hq⟩;clear q0 q1 q2 q3 q4 q5 d0 d1 d2 d3;replace hq:=(aL.of (aC w3 (.cells #[.string ⟨#[58,61]⟩] 9) none)).trans hq;clear HQ hp;refine M9180 ?_;clear Bs x0 wb hb hw;intro hp x0 wb hb hw;clear hq;obtain⟨q0,q1,q2,q3,q4,q5⟩:=x0.c6;obtain⟨d0,d1,d2,d3⟩:=wb.c4;rw[lN]at hp;go_wp2_with fail;refine M9217 ?_;intro HQ t0 t1 t2 t3 t4;go_wp2_with fail;refine HQ.mono ?_;rintro e w5 ⟨rfl,⟨v',Bs⟩,hq⟩;clear t0 t1 t2 t3 t4;clear q0 q1 q2 q3 q4 q5 d0 d1 d2 d3;clear HQ hp;refine M9180 ?_;clear Bs x0 wb hb hw;intro hp x0 wb hb hw;clear hq;obtain⟨q0,q1,q2,q3,q4,q5⟩:=x0.c6;obtain⟨d0,d1,d2,d3⟩:=wb.c4
 rcases cc with _|cc
 all_goals
  go_wp2_with fail;refine M9253 ?_;intro HQ;go_wp2_with fail;refine HQ.mono ?_;rintro e w6 ⟨rfl,⟨v',Bs⟩,hq⟩;clear q0 q1 q2 q3 q4 q5 d0 d1 d2 d3;replace hq:=(aL.of (aC w5 (.cells #[.string ⟨#[59]⟩] 9) none)).trans hq;clear HQ hp;refine M9180 ?_;clear Bs x0 wb hb hw;intro hp x0 wb hb hw;clear hq;obtain⟨q0,q1,q2,q3,q4,q5⟩:=x0.c6;obtain⟨d0,d1,d2,d3⟩:=wb.c4;rw[dP]at hp;go_wp2_with fail;rw[zE2];go_wp2_with fail
  have Bq:∃v',Pg w6 base g (l++prS (.mk 0 n name [e0] bs es)) v':=⟨_,by rw[HE.out];simpa [zD0] using hp⟩
  exact U10
theorem aLx (n:Int)(name:List Int)(e0:Ex)(S0:nX e0)(e1:Ex)(S1:nX e1)(bs es:List St)(Sb:jZ bs)(Se:jZ es):aPc (.mk 1 n name [e0,e1] bs es):=by
 intro w0 w vs base g l v hT hr hb h0 hg hp hok Bb;unfold St.fl at hr;obtain⟨y0,_,rfl,rfl,y1,_,rfl,rfl,y2,_,rfl,⟨a2,c2,rfl,h2,hc2,_⟩,y3,_,rfl,h3',y4,_,rfl,Bl,y5,_,rfl,h5',rfl⟩:=hr;obtain⟨a3,c3,rfl,h3⟩:=h3'.list;obtain⟨a4,c4,rfl,h4⟩:=Bl.list;obtain⟨a5,c5,rfl,h5⟩:=h5'.list;clear h3' Bl h5'
 have As:(exs [e0,e1]).length=2:=by simp[aJ]
 refine M939 ?_;intro hbl hel;rw[As,hbl,hel];simp only[agg];obtain⟨b4,o4,rfl⟩:=h3.addr V24
 obtain⟨cc,rfl⟩:∃cc,c3=cc+2:=⟨c3-2,by have:=h3.cap;rw[As]at this;omega⟩
 obtain⟨us0,hv0,Ah⟩:=(h3.el (i:=0) rfl).vals
 obtain⟨u00,u01,u02,u03,u04,rfl⟩:∃a b c d e,us0=[a,b,c,d,e]:=by
  exact U27
 refine M912 ?_;intro Ba Az Ay Ax Aw;clear Ah;obtain⟨us1,hv1,hcl1⟩:=(h3.el (i:=1) rfl).vals
 obtain⟨u10,u11,u12,u13,u14,rfl⟩:∃a b c d e,us1=[a,b,c,d,e]:=by
  exact U152
 refine M997 ?_;intro hc10 hc11 hc12 hc13 hc14;clear hcl1;have hoks:=(bG hok).2.1;simp only[dR,zC0,and_true]at hoks;have hk0:=hoks.1;have hk1:=hoks.2
 have he:prS (.mk 1 n name [e0,e1] bs es)=(name++[32])++([91,32])++(prE e0)++([93,32])++([58,61,32])++(prE e1)++([59,10]):=by simp[prS,kC,fK]
 refine M9205 ?_;clear Bb he;intro Bb HE hloc;have hnm:=lJ hloc V7;have hpn:=cD (g:=false) h2.2.1 hnm;have hokb:=(bG hok).2.2.1;have hoke:=(bG hok).2.2.2;clear hok;refine M915 ?_;intro hgl An Bd;have x0:=Blk.new w 129 [.int .i64 1,.int .i64 n,.slice a2 name.length c2,.slice (some ⟨b4,o4,none⟩) 2 (cc+2),.slice a4 bs.length c4,.slice a5 es.length c5]
 have hw:aL base (some g) w (w.alloc (.cells #[.int .i64 1,.int .i64 n,.slice a2 name.length c2,.slice (some ⟨b4,o4,none⟩) 2 (cc+2),.slice a4 bs.length c4,.slice a5 es.length c5] 129 (0,0))):=aL.of (aC w _ none)
 replace hb:Below w0.heap.size w0 (w.alloc (.cells #[.int .i64 1,.int .i64 n,.slice a2 name.length c2,.slice (some ⟨b4,o4,none⟩) 2 (cc+2),.slice a4 bs.length c4,.slice a5 es.length c5] 129 (0,0))):=hb.alloc hb.size _
 replace hp:=hp.grown (aC w (.cells #[.int .i64 1,.int .i64 n,.slice a2 name.length c2,.slice (some ⟨b4,o4,none⟩) 2 (cc+2),.slice a4 bs.length c4,.slice a5 es.length c5] 129 (0,0)) none);go_enter Tryz.func236,Tryz.ntmps236;have q3:=x0.k 3;go_upto_region 2 with fail;clear q3;generalize w.alloc (.cells #[.int .i64 1,.int .i64 n,.slice a2 name.length c2,.slice (some ⟨b4,o4,none⟩) 2 (cc+2),.slice a4 bs.length c4,.slice a5 es.length c5] 129 (0,0))=w1 at *;generalize w.heap.size=gx at *;have q0:=x0.k 0;have hF:=(hT.below hb).st 1 V6;refine M931 ?_;intro z0 z1 z2 z3 z4;have HQ:=fZ (stF 1) (iQ 1) w1 (hT.below hb);rw[aNf]at HQ;unfold Fm.val at HQ;clear hF;simp only[Nat.reduceMul,Nat.reduceAdd,Nat.zero_mul,zK0]at z0 z1 z2 z3 z4;go_wp2_with fail;refine HQ.mono ?_;rintro e w2 ⟨gw,rfl,wb,hgw',hq⟩;clear HQ q0 z0 z1 z2 z3 z4;refine M916 ?_;clear x0 hb hw hp;intro Aq x0 hb hw hp;clear hq hgw' hgl;simp only[rP,zI0,List.map_nil,zB1,zC3]at wb ⊢;refine M9187 ?_;intro q0 q1 q2 q3 q4 q5 d0 d1 d2 d3 d4 d5 d6;go_wp2_with fail;refine zH2 8 ?_;refine M9247 ?_;intro kc HQ;go_wp2_with fail;refine HQ.mono ?_;rintro e w3 ⟨rfl,⟨v',Bs⟩,hq⟩;clear q0 q1 q2 q3 q4 q5 d0 d1 d2 d3 d4 d5 d6;replace hq:=(aL.of (aC w2 (.cells #[.string (strOfNums name)] 9) none)).trans hq;clear HQ hp;refine M9180 ?_;clear Bs x0 wb hb hw;intro hp x0 wb hb hw;clear hq;refine M9187 ?_;intro q0 q1 q2 q3 q4 q5 d0 d1 d2 d3 d4 d5 d6;rw[hpn]at hp;clear kc;go_wp2_with fail;refine M9249 ?_;intro HQ;go_wp2_with fail;refine HQ.mono ?_;rintro e w4 ⟨rfl,⟨v',Bs⟩,hq⟩;clear q0 q1 q2 q3 q4 q5 d0 d1 d2 d3 d4 d5 d6;replace hq:=(aL.of (aC w3 (.cells #[.string ⟨#[91]⟩] 9) none)).trans hq;clear HQ hp;refine M9180 ?_;clear Bs x0 wb hb hw;intro hp x0 wb hb hw;clear hq;refine M9187 ?_;intro q0 q1 q2 q3 q4 q5 d0 d1 d2 d3 d4 d5 d6;rw[sG]at hp;go_wp2_with fail;refine M9217 ?_;intro HQ t0 t1 t2 t3 t4;go_wp2_with fail;refine HQ.mono ?_;rintro e w5 ⟨rfl,⟨v',Bs⟩,hq⟩;clear t0 t1 t2 t3 t4;clear q0 q1 q2 q3 q4 q5 d0 d1 d2 d3 d4 d5 d6;clear HQ hp;refine M9180 ?_;clear Bs x0 wb hb hw;intro hp x0 wb hb hw;clear hq;refine M9187 ?_;intro q0 q1 q2 q3 q4 q5 d0 d1 d2 d3 d4 d5 d6;go_wp2_with fail;refine M9248 ?_;intro HQ;go_wp2_with fail;refine HQ.mono ?_;rintro e w6 ⟨rfl,⟨v',Bs⟩,hq⟩;clear q0 q1 q2 q3 q4 q5 d0 d1 d2 d3 d4 d5 d6;replace hq:=(aL.of (aC w5 (.cells #[.string ⟨#[93]⟩] 9) none)).trans hq;clear HQ hp;refine M9180 ?_;clear Bs x0 wb hb hw;intro hp x0 wb hb hw;clear hq;refine M9187 ?_;intro q0 q1 q2 q3 q4 q5 d0 d1 d2 d3 d4 d5 d6;rw[aOt]at hp;go_wp2_with fail;rw[zE2]
 have HQ:=eW [⟨#[58,61]⟩] w6.heap.size 1 1 (w6.alloc (.cells #[.string ⟨#[58,61]⟩] 9)) base g _ _ (hp.grown (aC w6 _ none)) rfl (Blk.new w6 9 [.string ⟨#[58,61]⟩]) V12 (by rw[lN];simp only[zA1,zB1,zC3];omega) hg
 go_wp2_with fail;refine HQ.mono ?_;rintro e w7 ⟨rfl,⟨v',Bs⟩,hq⟩;clear q0 q1 q2 q3 q4 q5 d0 d1 d2 d3 d4 d5 d6;replace hq:=(aL.of (aC w6 (.cells #[.string ⟨#[58,61]⟩] 9) none)).trans hq;clear HQ hp;refine M9180 ?_;clear Bs x0 wb hb hw;intro hp x0 wb hb hw;clear hq;refine M9187 ?_;intro q0 q1 q2 q3 q4 q5 d0 d1 d2 d3 d4 d5 d6;rw[lN]at hp;go_wp2_with fail;rw[zE2];have HQ:=S1 w0 w7 [u10,u11,u12,u13,u14] base g _ _ hT hv1 hb h0 hg hp hk1 V103;simp only[agg]at HQ;have t0:=aB hc10 hb;have t1:=aB hc11 hb;have t2:=aB hc12 hb;have t3:=aB hc13 hb;have t4:=aB hc14 hb;go_wp2_with fail;refine HQ.mono ?_;rintro e w8 ⟨rfl,⟨v',Bs⟩,hq⟩;clear t0 t1 t2 t3 t4;clear q0 q1 q2 q3 q4 q5 d0 d1 d2 d3 d4 d5 d6;clear HQ hp;refine M9180 ?_;clear Bs x0 wb hb hw;intro hp x0 wb hb hw;clear hq;refine M9187 ?_;intro q0 q1 q2 q3 q4 q5 d0 d1 d2 d3 d4 d5 d6
 rcases cc with _|cc
 all_goals
  go_wp2_with fail;rw[zE2];have HQ:=eW [⟨#[59]⟩] w8.heap.size 1 1 (w8.alloc (.cells #[.string ⟨#[59]⟩] 9)) base g _ _ (hp.grown (aC w8 _ none)) rfl (Blk.new w8 9 [.string ⟨#[59]⟩]) V12 V105 hg;go_wp2_with fail;refine HQ.mono ?_;rintro e w9 ⟨rfl,⟨v',Bs⟩,hq⟩;clear q0 q1 q2 q3 q4 q5 d0 d1 d2 d3 d4 d5 d6;replace hq:=(aL.of (aC w8 (.cells #[.string ⟨#[59]⟩] 9) none)).trans hq;clear HQ hp;refine M9180 ?_;clear Bs x0 wb hb hw;intro hp x0 wb hb hw;clear hq;refine M9187 ?_;intro q0 q1 q2 q3 q4 q5 d0 d1 d2 d3 d4 d5 d6;rw[dP]at hp;go_wp2_with fail;rw[zE2];go_wp2_with fail
  have Bq:∃v',Pg w9 base g (l++prS (.mk 1 n name [e0,e1] bs es)) v':=⟨_,by rw[HE.out];simpa [zD0] using hp⟩
  exact U10
theorem aLw (n:Int)(name:List Int)(e0:Ex)(S0:nX e0)(bs es:List St)(Sb:jZ bs)(Se:jZ es):aPc (.mk 2 n name [e0] bs es):=by
 intro w0 w vs base g l v hT hr hb h0 hg hp hok Bb;unfold St.fl at hr;obtain⟨y0,_,rfl,rfl,y1,_,rfl,rfl,y2,_,rfl,⟨a2,c2,rfl,h2,hc2,_⟩,y3,_,rfl,h3',y4,_,rfl,Bl,y5,_,rfl,h5',rfl⟩:=hr;obtain⟨a3,c3,rfl,h3⟩:=h3'.list;obtain⟨a4,c4,rfl,h4⟩:=Bl.list;obtain⟨a5,c5,rfl,h5⟩:=h5'.list;clear h3' Bl h5'
 have As:(exs [e0]).length=1:=by simp[aJ]
 refine M939 ?_;intro hbl hel;rw[As,hbl,hel];simp only[agg];obtain⟨b4,o4,rfl⟩:=h3.addr V24
 obtain⟨cc,rfl⟩:∃cc,c3=cc+1:=⟨c3-1,by have:=h3.cap;rw[As]at this;omega⟩
 obtain⟨us0,hv0,Ah⟩:=(h3.el (i:=0) rfl).vals
 obtain⟨u00,u01,u02,u03,u04,rfl⟩:∃a b c d e,us0=[a,b,c,d,e]:=by
  exact U27
 refine M912 ?_;intro Ba Az Ay Ax Aw;clear Ah;refine M9223 ?_;intro hoks hk0
 have he:prS (.mk 2 n name [e0] bs es)=([73,70,32])++(prE e0)++([84,72,69,78,10])++(prB bs)++([69,76,83,69,10])++(prB es)++([69,78,68,32])++([59,10]):=by simp[prS,kC,fK]
 refine M9205 ?_;clear Bb he;intro Bb HE hloc;have hokb:=(bG hok).2.2.1;have hoke:=(bG hok).2.2.2;clear hok;refine M915 ?_;intro hgl An Bd;have x0:=Blk.new w 129 [.int .i64 2,.int .i64 n,.slice a2 name.length c2,.slice (some ⟨b4,o4,none⟩) 1 (cc+1),.slice a4 bs.length c4,.slice a5 es.length c5]
 have hw:aL base (some g) w (w.alloc (.cells #[.int .i64 2,.int .i64 n,.slice a2 name.length c2,.slice (some ⟨b4,o4,none⟩) 1 (cc+1),.slice a4 bs.length c4,.slice a5 es.length c5] 129 (0,0))):=aL.of (aC w _ none)
 replace hb:Below w0.heap.size w0 (w.alloc (.cells #[.int .i64 2,.int .i64 n,.slice a2 name.length c2,.slice (some ⟨b4,o4,none⟩) 1 (cc+1),.slice a4 bs.length c4,.slice a5 es.length c5] 129 (0,0))):=hb.alloc hb.size _
 replace hp:=hp.grown (aC w (.cells #[.int .i64 2,.int .i64 n,.slice a2 name.length c2,.slice (some ⟨b4,o4,none⟩) 1 (cc+1),.slice a4 bs.length c4,.slice a5 es.length c5] 129 (0,0)) none);go_enter Tryz.func236,Tryz.ntmps236;have q3:=x0.k 3;go_upto_region 2 with fail;clear q3;generalize w.alloc (.cells #[.int .i64 2,.int .i64 n,.slice a2 name.length c2,.slice (some ⟨b4,o4,none⟩) 1 (cc+1),.slice a4 bs.length c4,.slice a5 es.length c5] 129 (0,0))=w1 at *;generalize w.heap.size=gx at *;have q0:=x0.k 0;have hF:=(hT.below hb).st 2 V6;refine M931 ?_;intro z0 z1 z2 z3 z4;have HQ:=fZ (stF 2) (iQ 2) w1 (hT.below hb);rw[aNe]at HQ;unfold Fm.val at HQ;clear hF;simp only[Nat.reduceMul,Nat.reduceAdd,Nat.zero_mul,zK0]at z0 z1 z2 z3 z4;go_wp2_with fail;refine HQ.mono ?_;rintro e w2 ⟨gw,rfl,wb,hgw',hq⟩;clear HQ q0 z0 z1 z2 z3 z4;refine M916 ?_;clear x0 hb hw hp;intro Aq x0 hb hw hp;clear hq hgw' hgl;simp only[rP,zI0,List.map_nil,zB1,zC3]at wb ⊢;refine M9187 ?_;intro q0 q1 q2 q3 q4 q5 d0 d1 d2 d3 d4 d5 d6;have d7:=wb.k 7;go_wp2_with fail;refine zH2 9 ?_;rw[zE2]
 have HQ:=eW [⟨#[73,70]⟩] w2.heap.size 1 1 (w2.alloc (.cells #[.string ⟨#[73,70]⟩] 9)) base g _ _ (hp.grown (aC w2 _ none)) rfl (Blk.new w2 9 [.string ⟨#[73,70]⟩]) V12 (by rw[sJ];simp only[zA1,zB1,zC3];omega) hg
 go_wp2_with fail;refine HQ.mono ?_;rintro e w3 ⟨rfl,⟨v',Bs⟩,hq⟩;clear q0 q1 q2 q3 q4 q5 d0 d1 d2 d3 d4 d5 d6 d7;replace hq:=(aL.of (aC w2 (.cells #[.string ⟨#[73,70]⟩] 9) none)).trans hq;clear HQ hp;refine M9180 ?_;clear Bs x0 wb hb hw;intro hp x0 wb hb hw;clear hq;refine M9187 ?_;intro q0 q1 q2 q3 q4 q5 d0 d1 d2 d3 d4 d5 d6;have d7:=wb.k 7;rw[sJ]at hp;go_wp2_with fail;refine M9193 ?_;intro HQ t0 t1 t2 t3 t4;go_wp2_with fail;refine HQ.mono ?_;rintro e w4 ⟨rfl,⟨v',Bs⟩,hq⟩;clear t0 t1 t2 t3 t4;clear q0 q1 q2 q3 q4 q5 d0 d1 d2 d3 d4 d5 d6 d7;clear HQ hp;refine M9180 ?_;clear Bs x0 wb hb hw;intro hp x0 wb hb hw;clear hq;refine M9187 ?_;intro q0 q1 q2 q3 q4 q5 d0 d1 d2 d3 d4 d5 d6;have d7:=wb.k 7
 rcases cc with _|cc
 all_goals
  go_wp2_with fail;rw[zE2]
  have HQ:=eW [⟨#[84,72,69,78]⟩] w4.heap.size 1 1 (w4.alloc (.cells #[.string ⟨#[84,72,69,78]⟩] 9)) base g _ _ (hp.grown (aC w4 _ none)) rfl (Blk.new w4 9 [.string ⟨#[84,72,69,78]⟩]) V12 (by rw[jK];simp only[zA1,zB1,zC3];omega) hg
  go_wp2_with fail;refine HQ.mono ?_;rintro e w5 ⟨rfl,⟨v',Bs⟩,hq⟩;clear q0 q1 q2 q3 q4 q5 d0 d1 d2 d3 d4 d5 d6 d7;replace hq:=(aL.of (aC w4 (.cells #[.string ⟨#[84,72,69,78]⟩] 9) none)).trans hq;clear HQ hp;refine M9180 ?_;clear Bs x0 wb hb hw;intro hp x0 wb hb hw;clear hq;refine M9187 ?_;intro q0 q1 q2 q3 q4 q5 d0 d1 d2 d3 d4 d5 d6;have d7:=wb.k 7;rw[jK]at hp;go_wp2_with fail;rw[zE2];have HQ:=Sb w0 w5 a4 c4 base g _ _ hT h4 hb h0 hg hp hokb V103;go_wp2_with fail;refine HQ.mono ?_;rintro e w6 ⟨rfl,⟨v',Bs⟩,hq⟩;clear q0 q1 q2 q3 q4 q5 d0 d1 d2 d3 d4 d5 d6 d7;clear HQ hp;refine M9180 ?_;clear Bs x0 wb hb hw;intro hp x0 wb hb hw;clear hq;refine M9187 ?_;intro q0 q1 q2 q3 q4 q5 d0 d1 d2 d3 d4 d5 d6;have d7:=wb.k 7;go_wp2_with fail;rw[zE2]
  have HQ:=eW [⟨#[69,76,83,69]⟩] w6.heap.size 1 1 (w6.alloc (.cells #[.string ⟨#[69,76,83,69]⟩] 9)) base g _ _ (hp.grown (aC w6 _ none)) rfl (Blk.new w6 9 [.string ⟨#[69,76,83,69]⟩]) V12 (by rw[jN];simp only[zA1,zB1,zC3];omega) hg
  go_wp2_with fail;refine HQ.mono ?_;rintro e w7 ⟨rfl,⟨v',Bs⟩,hq⟩;clear q0 q1 q2 q3 q4 q5 d0 d1 d2 d3 d4 d5 d6 d7;replace hq:=(aL.of (aC w6 (.cells #[.string ⟨#[69,76,83,69]⟩] 9) none)).trans hq;clear HQ hp;refine M9180 ?_;clear Bs x0 wb hb hw;intro hp x0 wb hb hw;clear hq;refine M9187 ?_;intro q0 q1 q2 q3 q4 q5 d0 d1 d2 d3 d4 d5 d6;have d7:=wb.k 7;rw[jN]at hp;go_wp2_with fail;rw[zE2];have HQ:=Se w0 w7 a5 c5 base g _ _ hT h5 hb h0 hg hp hoke V103;go_wp2_with fail;refine HQ.mono ?_;rintro e w8 ⟨rfl,⟨v',Bs⟩,hq⟩;clear q0 q1 q2 q3 q4 q5 d0 d1 d2 d3 d4 d5 d6 d7;clear HQ hp;refine M9180 ?_;clear Bs x0 wb hb hw;intro hp x0 wb hb hw;clear hq;refine M9187 ?_;intro q0 q1 q2 q3 q4 q5 d0 d1 d2 d3 d4 d5 d6;have d7:=wb.k 7;go_wp2_with fail;rw[zE2]
  have HQ:=eW [⟨#[69,78,68]⟩] w8.heap.size 1 1 (w8.alloc (.cells #[.string ⟨#[69,78,68]⟩] 9)) base g _ _ (hp.grown (aC w8 _ none)) rfl (Blk.new w8 9 [.string ⟨#[69,78,68]⟩]) V12 (by rw[eM];simp only[zA1,zB1,zC3];omega) hg
  go_wp2_with fail;refine HQ.mono ?_;rintro e w9 ⟨rfl,⟨v',Bs⟩,hq⟩;clear q0 q1 q2 q3 q4 q5 d0 d1 d2 d3 d4 d5 d6 d7;replace hq:=(aL.of (aC w8 (.cells #[.string ⟨#[69,78,68]⟩] 9) none)).trans hq;clear HQ hp;refine M9180 ?_;clear Bs x0 wb hb hw;intro hp x0 wb hb hw;clear hq;refine M9187 ?_;intro q0 q1 q2 q3 q4 q5 d0 d1 d2 d3 d4 d5 d6;have d7:=wb.k 7;rw[eM]at hp;go_wp2_with fail;rw[zE2];have HQ:=eW [⟨#[59]⟩] w9.heap.size 1 1 (w9.alloc (.cells #[.string ⟨#[59]⟩] 9)) base g _ _ (hp.grown (aC w9 _ none)) rfl (Blk.new w9 9 [.string ⟨#[59]⟩]) V12 V105 hg;go_wp2_with fail;refine HQ.mono ?_;rintro e w10 ⟨rfl,⟨v',Bs⟩,hq⟩;clear q0 q1 q2 q3 q4 q5 d0 d1 d2 d3 d4 d5 d6 d7;replace hq:=(aL.of (aC w9 (.cells #[.string ⟨#[59]⟩] 9) none)).trans hq;clear HQ hp;refine M9180 ?_;clear Bs x0 wb hb hw;intro hp x0 wb hb hw;clear hq;refine M9187 ?_;intro q0 q1 q2 q3 q4 q5 d0 d1 d2 d3 d4 d5 d6;have d7:=wb.k 7;rw[dP]at hp;go_wp2_with fail;rw[zE2];go_wp2_with fail
  have Bq:∃v',Pg w10 base g (l++prS (.mk 2 n name [e0] bs es)) v':=⟨_,by rw[HE.out];simpa [zD0] using hp⟩
  exact U10
theorem aLv (n:Int)(name:List Int)(e0:Ex)(S0:nX e0)(bs es:List St)(Sb:jZ bs)(Se:jZ es):aPc (.mk 3 n name [e0] bs es):=by
 intro w0 w vs base g l v hT hr hb h0 hg hp hok Bb;unfold St.fl at hr;obtain⟨y0,_,rfl,rfl,y1,_,rfl,rfl,y2,_,rfl,⟨a2,c2,rfl,h2,hc2,_⟩,y3,_,rfl,h3',y4,_,rfl,Bl,y5,_,rfl,h5',rfl⟩:=hr;obtain⟨a3,c3,rfl,h3⟩:=h3'.list;obtain⟨a4,c4,rfl,h4⟩:=Bl.list;obtain⟨a5,c5,rfl,h5⟩:=h5'.list;clear h3' Bl h5'
 have As:(exs [e0]).length=1:=by simp[aJ]
 refine M939 ?_;intro hbl hel;rw[As,hbl,hel];simp only[agg];obtain⟨b4,o4,rfl⟩:=h3.addr V24
 obtain⟨cc,rfl⟩:∃cc,c3=cc+1:=⟨c3-1,by have:=h3.cap;rw[As]at this;omega⟩
 obtain⟨us0,hv0,Ah⟩:=(h3.el (i:=0) rfl).vals
 obtain⟨u00,u01,u02,u03,u04,rfl⟩:∃a b c d e,us0=[a,b,c,d,e]:=by
  exact U27
 refine M912 ?_;intro Ba Az Ay Ax Aw;clear Ah;refine M9223 ?_;intro hoks hk0
 have he:prS (.mk 3 n name [e0] bs es)=([87,72,73,76,69,32])++(prE e0)++([68,79,10])++(prB bs)++([69,78,68,32])++([59,10]):=by simp[prS,kC,fK]
 refine M9205 ?_;clear Bb he;intro Bb HE hloc;have hokb:=(bG hok).2.2.1;have hoke:=(bG hok).2.2.2;clear hok;refine M915 ?_;intro hgl An Bd;have x0:=Blk.new w 129 [.int .i64 3,.int .i64 n,.slice a2 name.length c2,.slice (some ⟨b4,o4,none⟩) 1 (cc+1),.slice a4 bs.length c4,.slice a5 es.length c5]
 have hw:aL base (some g) w (w.alloc (.cells #[.int .i64 3,.int .i64 n,.slice a2 name.length c2,.slice (some ⟨b4,o4,none⟩) 1 (cc+1),.slice a4 bs.length c4,.slice a5 es.length c5] 129 (0,0))):=aL.of (aC w _ none)
 replace hb:Below w0.heap.size w0 (w.alloc (.cells #[.int .i64 3,.int .i64 n,.slice a2 name.length c2,.slice (some ⟨b4,o4,none⟩) 1 (cc+1),.slice a4 bs.length c4,.slice a5 es.length c5] 129 (0,0))):=hb.alloc hb.size _
 replace hp:=hp.grown (aC w (.cells #[.int .i64 3,.int .i64 n,.slice a2 name.length c2,.slice (some ⟨b4,o4,none⟩) 1 (cc+1),.slice a4 bs.length c4,.slice a5 es.length c5] 129 (0,0)) none);go_enter Tryz.func236,Tryz.ntmps236;have q3:=x0.k 3;go_upto_region 2 with fail;clear q3;generalize w.alloc (.cells #[.int .i64 3,.int .i64 n,.slice a2 name.length c2,.slice (some ⟨b4,o4,none⟩) 1 (cc+1),.slice a4 bs.length c4,.slice a5 es.length c5] 129 (0,0))=w1 at *;generalize w.heap.size=gx at *;have q0:=x0.k 0;have hF:=(hT.below hb).st 3 V6;refine M931 ?_;intro z0 z1 z2 z3 z4;have HQ:=fZ (stF 3) (iQ 3) w1 (hT.below hb);rw[aNd]at HQ;unfold Fm.val at HQ;clear hF;simp only[Nat.reduceMul,Nat.reduceAdd,Nat.zero_mul,zK0]at z0 z1 z2 z3 z4;go_wp2_with fail;refine HQ.mono ?_;rintro e w2 ⟨gw,rfl,wb,hgw',hq⟩;clear HQ q0 z0 z1 z2 z3 z4;refine M916 ?_;clear x0 hb hw hp;intro Aq x0 hb hw hp;clear hq hgw' hgl;simp only[rP,zI0,List.map_nil,zB1,zC3]at wb ⊢;obtain⟨q0,q1,q2,q3,q4,q5⟩:=x0.c6;obtain⟨d0,d1,d2,d3,d4,d5⟩:=wb.c6;go_wp2_with fail;refine zH2 7 ?_;rw[zE2]
 have HQ:=eW [⟨#[87,72,73,76,69]⟩] w2.heap.size 1 1 (w2.alloc (.cells #[.string ⟨#[87,72,73,76,69]⟩] 9)) base g _ _ (hp.grown (aC w2 _ none)) rfl (Blk.new w2 9 [.string ⟨#[87,72,73,76,69]⟩]) V12 (by rw[iA];simp only[zA1,zB1,zC3];omega) hg
 go_wp2_with fail;refine HQ.mono ?_;rintro e w3 ⟨rfl,⟨v',Bs⟩,hq⟩;clear q0 q1 q2 q3 q4 q5 d0 d1 d2 d3 d4 d5;replace hq:=(aL.of (aC w2 (.cells #[.string ⟨#[87,72,73,76,69]⟩] 9) none)).trans hq;clear HQ hp;refine M9180 ?_;clear Bs x0 wb hb hw;intro hp x0 wb hb hw;clear hq;obtain⟨q0,q1,q2,q3,q4,q5⟩:=x0.c6;obtain⟨d0,d1,d2,d3,d4,d5⟩:=wb.c6;rw[iA]at hp;go_wp2_with fail;refine M9193 ?_;intro HQ t0 t1 t2 t3 t4;go_wp2_with fail;refine HQ.mono ?_;rintro e w4 ⟨rfl,⟨v',Bs⟩,hq⟩;clear t0 t1 t2 t3 t4;clear q0 q1 q2 q3 q4 q5 d0 d1 d2 d3 d4 d5;clear HQ hp;refine M9180 ?_;clear Bs x0 wb hb hw;intro hp x0 wb hb hw;clear hq;obtain⟨q0,q1,q2,q3,q4,q5⟩:=x0.c6;obtain⟨d0,d1,d2,d3,d4,d5⟩:=wb.c6
 rcases cc with _|cc
 all_goals
  go_wp2_with fail;rw[zE2]
  have HQ:=eW [⟨#[68,79]⟩] w4.heap.size 1 1 (w4.alloc (.cells #[.string ⟨#[68,79]⟩] 9)) base g _ _ (hp.grown (aC w4 _ none)) rfl (Blk.new w4 9 [.string ⟨#[68,79]⟩]) V12 (by rw[sK];simp only[zA1,zB1,zC3];omega) hg
  go_wp2_with fail;refine HQ.mono ?_;rintro e w5 ⟨rfl,⟨v',Bs⟩,hq⟩;clear q0 q1 q2 q3 q4 q5 d0 d1 d2 d3 d4 d5;replace hq:=(aL.of (aC w4 (.cells #[.string ⟨#[68,79]⟩] 9) none)).trans hq;clear HQ hp;refine M9180 ?_;clear Bs x0 wb hb hw;intro hp x0 wb hb hw;clear hq;obtain⟨q0,q1,q2,q3,q4,q5⟩:=x0.c6;obtain⟨d0,d1,d2,d3,d4,d5⟩:=wb.c6;rw[sK]at hp;go_wp2_with fail;rw[zE2];have HQ:=Sb w0 w5 a4 c4 base g _ _ hT h4 hb h0 hg hp hokb V103;go_wp2_with fail;refine HQ.mono ?_;rintro e w6 ⟨rfl,⟨v',Bs⟩,hq⟩;clear q0 q1 q2 q3 q4 q5 d0 d1 d2 d3 d4 d5;clear HQ hp;refine M9180 ?_;clear Bs x0 wb hb hw;intro hp x0 wb hb hw;clear hq;obtain⟨q0,q1,q2,q3,q4,q5⟩:=x0.c6;obtain⟨d0,d1,d2,d3,d4,d5⟩:=wb.c6;go_wp2_with fail;rw[zE2]
  have HQ:=eW [⟨#[69,78,68]⟩] w6.heap.size 1 1 (w6.alloc (.cells #[.string ⟨#[69,78,68]⟩] 9)) base g _ _ (hp.grown (aC w6 _ none)) rfl (Blk.new w6 9 [.string ⟨#[69,78,68]⟩]) V12 (by rw[eM];simp only[zA1,zB1,zC3];omega) hg
  go_wp2_with fail;refine HQ.mono ?_;rintro e w7 ⟨rfl,⟨v',Bs⟩,hq⟩;clear q0 q1 q2 q3 q4 q5 d0 d1 d2 d3 d4 d5;replace hq:=(aL.of (aC w6 (.cells #[.string ⟨#[69,78,68]⟩] 9) none)).trans hq;clear HQ hp;refine M9180 ?_;clear Bs x0 wb hb hw;intro hp x0 wb hb hw;clear hq;obtain⟨q0,q1,q2,q3,q4,q5⟩:=x0.c6;obtain⟨d0,d1,d2,d3,d4,d5⟩:=wb.c6;rw[eM]at hp;go_wp2_with fail;rw[zE2];have HQ:=eW [⟨#[59]⟩] w7.heap.size 1 1 (w7.alloc (.cells #[.string ⟨#[59]⟩] 9)) base g _ _ (hp.grown (aC w7 _ none)) rfl (Blk.new w7 9 [.string ⟨#[59]⟩]) V12 V105 hg;go_wp2_with fail;refine HQ.mono ?_;rintro e w8 ⟨rfl,⟨v',Bs⟩,hq⟩;clear q0 q1 q2 q3 q4 q5 d0 d1 d2 d3 d4 d5;replace hq:=(aL.of (aC w7 (.cells #[.string ⟨#[59]⟩] 9) none)).trans hq;clear HQ hp;refine M9180 ?_;clear Bs x0 wb hb hw;intro hp x0 wb hb hw;clear hq;obtain⟨q0,q1,q2,q3,q4,q5⟩:=x0.c6;obtain⟨d0,d1,d2,d3,d4,d5⟩:=wb.c6;rw[dP]at hp;go_wp2_with fail;rw[zE2];go_wp2_with fail
  have Bq:∃v',Pg w8 base g (l++prS (.mk 3 n name [e0] bs es)) v':=⟨_,by rw[HE.out];simpa [zD0] using hp⟩
  exact U10
theorem aLu (n:Int)(name:List Int)(e0:Ex)(S0:nX e0)(bs es:List St)(Sb:jZ bs)(Se:jZ es):aPc (.mk 4 n name [e0] bs es):=by
 intro w0 w vs base g l v hT hr hb h0 hg hp hok Bb;unfold St.fl at hr;obtain⟨y0,_,rfl,rfl,y1,_,rfl,rfl,y2,_,rfl,⟨a2,c2,rfl,h2,hc2,_⟩,y3,_,rfl,h3',y4,_,rfl,Bl,y5,_,rfl,h5',rfl⟩:=hr;obtain⟨a3,c3,rfl,h3⟩:=h3'.list;obtain⟨a4,c4,rfl,h4⟩:=Bl.list;obtain⟨a5,c5,rfl,h5⟩:=h5'.list;clear h3' Bl h5'
 have As:(exs [e0]).length=1:=by simp[aJ]
 refine M939 ?_;intro hbl hel;rw[As,hbl,hel];simp only[agg];obtain⟨b4,o4,rfl⟩:=h3.addr V24
 obtain⟨cc,rfl⟩:∃cc,c3=cc+1:=⟨c3-1,by have:=h3.cap;rw[As]at this;omega⟩
 obtain⟨us0,hv0,Ah⟩:=(h3.el (i:=0) rfl).vals
 obtain⟨u00,u01,u02,u03,u04,rfl⟩:∃a b c d e,us0=[a,b,c,d,e]:=by
  exact U27
 refine M912 ?_;intro Ba Az Ay Ax Aw;clear Ah;refine M9223 ?_;intro hoks hk0
 have he:prS (.mk 4 n name [e0] bs es)=([82,69,84,85,82,78,32])++(prE e0)++([59,10]):=by simp[prS,kC,fK]
 refine M9205 ?_;clear Bb he;intro Bb HE hloc;have hokb:=(bG hok).2.2.1;have hoke:=(bG hok).2.2.2;clear hok;refine M915 ?_;intro hgl An Bd;have x0:=Blk.new w 129 [.int .i64 4,.int .i64 n,.slice a2 name.length c2,.slice (some ⟨b4,o4,none⟩) 1 (cc+1),.slice a4 bs.length c4,.slice a5 es.length c5]
 have hw:aL base (some g) w (w.alloc (.cells #[.int .i64 4,.int .i64 n,.slice a2 name.length c2,.slice (some ⟨b4,o4,none⟩) 1 (cc+1),.slice a4 bs.length c4,.slice a5 es.length c5] 129 (0,0))):=aL.of (aC w _ none)
 replace hb:Below w0.heap.size w0 (w.alloc (.cells #[.int .i64 4,.int .i64 n,.slice a2 name.length c2,.slice (some ⟨b4,o4,none⟩) 1 (cc+1),.slice a4 bs.length c4,.slice a5 es.length c5] 129 (0,0))):=hb.alloc hb.size _
 replace hp:=hp.grown (aC w (.cells #[.int .i64 4,.int .i64 n,.slice a2 name.length c2,.slice (some ⟨b4,o4,none⟩) 1 (cc+1),.slice a4 bs.length c4,.slice a5 es.length c5] 129 (0,0)) none);go_enter Tryz.func236,Tryz.ntmps236;have q3:=x0.k 3;go_upto_region 2 with fail;clear q3;generalize w.alloc (.cells #[.int .i64 4,.int .i64 n,.slice a2 name.length c2,.slice (some ⟨b4,o4,none⟩) 1 (cc+1),.slice a4 bs.length c4,.slice a5 es.length c5] 129 (0,0))=w1 at *;generalize w.heap.size=gx at *;have q0:=x0.k 0;have hF:=(hT.below hb).st 4 V6;refine M931 ?_;intro z0 z1 z2 z3 z4;have HQ:=fZ (stF 4) (iQ 4) w1 (hT.below hb);rw[aNc]at HQ;unfold Fm.val at HQ;clear hF;simp only[Nat.reduceMul,Nat.reduceAdd,Nat.zero_mul,zK0]at z0 z1 z2 z3 z4;go_wp2_with fail;refine HQ.mono ?_;rintro e w2 ⟨gw,rfl,wb,hgw',hq⟩;clear HQ q0 z0 z1 z2 z3 z4;refine M916 ?_;clear x0 hb hw hp;intro Aq x0 hb hw hp;clear hq hgw' hgl;simp only[rP,zI0,List.map_nil,zB1,zC3]at wb ⊢;refine M940 ?_;intro q0 q1 q2 q3 q4 q5 d0 d1 d2;go_wp2_with fail;refine zH2 4 ?_;rw[zE2]
 have HQ:=eW [⟨#[82,69,84,85,82,78]⟩] w2.heap.size 1 1 (w2.alloc (.cells #[.string ⟨#[82,69,84,85,82,78]⟩] 9)) base g _ _ (hp.grown (aC w2 _ none)) rfl (Blk.new w2 9 [.string ⟨#[82,69,84,85,82,78]⟩]) V12 (by rw[aN5];simp only[zA1,zB1,zC3];omega) hg
 go_wp2_with fail;refine HQ.mono ?_;rintro e w3 ⟨rfl,⟨v',Bs⟩,hq⟩;clear q0 q1 q2 q3 q4 q5 d0 d1 d2;replace hq:=(aL.of (aC w2 (.cells #[.string ⟨#[82,69,84,85,82,78]⟩] 9) none)).trans hq;clear HQ hp;refine M9180 ?_;clear Bs x0 wb hb hw;intro hp x0 wb hb hw;clear hq;refine M940 ?_;intro q0 q1 q2 q3 q4 q5 d0 d1 d2;rw[aN5]at hp;go_wp2_with fail;refine M9193 ?_;intro HQ t0 t1 t2 t3 t4;go_wp2_with fail;refine HQ.mono ?_;rintro e w4 ⟨rfl,⟨v',Bs⟩,hq⟩;clear t0 t1 t2 t3 t4;clear q0 q1 q2 q3 q4 q5 d0 d1 d2;clear HQ hp;refine M9180 ?_;clear Bs x0 wb hb hw;intro hp x0 wb hb hw;clear hq;refine M940 ?_;intro q0 q1 q2 q3 q4 q5 d0 d1 d2
 rcases cc with _|cc
 all_goals
  go_wp2_with fail;refine M9220 ?_;intro HQ;go_wp2_with fail;refine M9226 ?_;clear q0 q1 q2 q3 q4 q5 d0 d1 d2;intro w5 v' Bs hq;clear HQ hp;refine M9180 ?_;clear Bs x0 wb hb hw;intro hp x0 wb hb hw;clear hq;refine M940 ?_;intro q0 q1 q2 q3 q4 q5 d0 d1 d2;rw[dP]at hp;go_wp2_with fail;rw[zE2];go_wp2_with fail
  have Bq:∃v',Pg w5 base g (l++prS (.mk 4 n name [e0] bs es)) v':=⟨_,by rw[HE.out];simpa [zD0] using hp⟩
  exact U10
theorem aLt (n:Int)(name:List Int)(e0:Ex)(S0:nX e0)(bs es:List St)(Sb:jZ bs)(Se:jZ es):aPc (.mk 5 n name [e0] bs es):=by
 intro w0 w vs base g l v hT hr hb h0 hg hp hok Bb;unfold St.fl at hr;obtain⟨y0,_,rfl,rfl,y1,_,rfl,rfl,y2,_,rfl,⟨a2,c2,rfl,h2,hc2,_⟩,y3,_,rfl,h3',y4,_,rfl,Bl,y5,_,rfl,h5',rfl⟩:=hr;obtain⟨a3,c3,rfl,h3⟩:=h3'.list;obtain⟨a4,c4,rfl,h4⟩:=Bl.list;obtain⟨a5,c5,rfl,h5⟩:=h5'.list;clear h3' Bl h5'
 have As:(exs [e0]).length=1:=by simp[aJ]
 refine M939 ?_;intro hbl hel;rw[As,hbl,hel];simp only[agg];obtain⟨b4,o4,rfl⟩:=h3.addr V24
 obtain⟨cc,rfl⟩:∃cc,c3=cc+1:=⟨c3-1,by have:=h3.cap;rw[As]at this;omega⟩
 obtain⟨us0,hv0,Ah⟩:=(h3.el (i:=0) rfl).vals
 obtain⟨u00,u01,u02,u03,u04,rfl⟩:∃a b c d e,us0=[a,b,c,d,e]:=by
  exact U27
 refine M912 ?_;intro Ba Az Ay Ax Aw;clear Ah;refine M9223 ?_;intro hoks hk0
 have he:prS (.mk 5 n name [e0] bs es)=([79,85,84,32])++(prE e0)++([59,10]):=by simp[prS,kC,fK]
 refine M9205 ?_;clear Bb he;intro Bb HE hloc;have hokb:=(bG hok).2.2.1;have hoke:=(bG hok).2.2.2;clear hok;refine M915 ?_;intro hgl An Bd;have x0:=Blk.new w 129 [.int .i64 5,.int .i64 n,.slice a2 name.length c2,.slice (some ⟨b4,o4,none⟩) 1 (cc+1),.slice a4 bs.length c4,.slice a5 es.length c5]
 have hw:aL base (some g) w (w.alloc (.cells #[.int .i64 5,.int .i64 n,.slice a2 name.length c2,.slice (some ⟨b4,o4,none⟩) 1 (cc+1),.slice a4 bs.length c4,.slice a5 es.length c5] 129 (0,0))):=aL.of (aC w _ none)
 replace hb:Below w0.heap.size w0 (w.alloc (.cells #[.int .i64 5,.int .i64 n,.slice a2 name.length c2,.slice (some ⟨b4,o4,none⟩) 1 (cc+1),.slice a4 bs.length c4,.slice a5 es.length c5] 129 (0,0))):=hb.alloc hb.size _
 replace hp:=hp.grown (aC w (.cells #[.int .i64 5,.int .i64 n,.slice a2 name.length c2,.slice (some ⟨b4,o4,none⟩) 1 (cc+1),.slice a4 bs.length c4,.slice a5 es.length c5] 129 (0,0)) none);go_enter Tryz.func236,Tryz.ntmps236;have q3:=x0.k 3;go_upto_region 2 with fail;clear q3;generalize w.alloc (.cells #[.int .i64 5,.int .i64 n,.slice a2 name.length c2,.slice (some ⟨b4,o4,none⟩) 1 (cc+1),.slice a4 bs.length c4,.slice a5 es.length c5] 129 (0,0))=w1 at *;generalize w.heap.size=gx at *;have q0:=x0.k 0;have hF:=(hT.below hb).st 5 V6;refine M931 ?_;intro z0 z1 z2 z3 z4;have HQ:=fZ (stF 5) (iQ 5) w1 (hT.below hb);rw[aNb]at HQ;unfold Fm.val at HQ;clear hF;simp only[Nat.reduceMul,Nat.reduceAdd,Nat.zero_mul,zK0]at z0 z1 z2 z3 z4;go_wp2_with fail;refine HQ.mono ?_;rintro e w2 ⟨gw,rfl,wb,hgw',hq⟩;clear HQ q0 z0 z1 z2 z3 z4;refine M916 ?_;clear x0 hb hw hp;intro Aq x0 hb hw hp;clear hq hgw' hgl;simp only[rP,zI0,List.map_nil,zB1,zC3]at wb ⊢;refine M940 ?_;intro q0 q1 q2 q3 q4 q5 d0 d1 d2;go_wp2_with fail;refine zH2 4 ?_;rw[zE2]
 have HQ:=eW [⟨#[79,85,84]⟩] w2.heap.size 1 1 (w2.alloc (.cells #[.string ⟨#[79,85,84]⟩] 9)) base g _ _ (hp.grown (aC w2 _ none)) rfl (Blk.new w2 9 [.string ⟨#[79,85,84]⟩]) V12 (by rw[mV];simp only[zA1,zB1,zC3];omega) hg
 go_wp2_with fail;refine HQ.mono ?_;rintro e w3 ⟨rfl,⟨v',Bs⟩,hq⟩;clear q0 q1 q2 q3 q4 q5 d0 d1 d2;replace hq:=(aL.of (aC w2 (.cells #[.string ⟨#[79,85,84]⟩] 9) none)).trans hq;clear HQ hp;refine M9180 ?_;clear Bs x0 wb hb hw;intro hp x0 wb hb hw;clear hq;refine M940 ?_;intro q0 q1 q2 q3 q4 q5 d0 d1 d2;rw[mV]at hp;go_wp2_with fail;refine M9193 ?_;intro HQ t0 t1 t2 t3 t4;go_wp2_with fail;refine HQ.mono ?_;rintro e w4 ⟨rfl,⟨v',Bs⟩,hq⟩;clear t0 t1 t2 t3 t4;clear q0 q1 q2 q3 q4 q5 d0 d1 d2;clear HQ hp;refine M9180 ?_;clear Bs x0 wb hb hw;intro hp x0 wb hb hw;clear hq;refine M940 ?_;intro q0 q1 q2 q3 q4 q5 d0 d1 d2
 rcases cc with _|cc
 all_goals
  go_wp2_with fail;refine M9220 ?_;intro HQ;go_wp2_with fail;refine M9226 ?_;clear q0 q1 q2 q3 q4 q5 d0 d1 d2;intro w5 v' Bs hq;clear HQ hp;refine M9180 ?_;clear Bs x0 wb hb hw;intro hp x0 wb hb hw;clear hq;refine M940 ?_;intro q0 q1 q2 q3 q4 q5 d0 d1 d2;rw[dP]at hp;go_wp2_with fail;rw[zE2];go_wp2_with fail
  have Bq:∃v',Pg w5 base g (l++prS (.mk 5 n name [e0] bs es)) v':=⟨_,by rw[HE.out];simpa [zD0] using hp⟩
  exact U10
theorem aLs (n:Int)(name:List Int)  (bs es:List St) (Sb:jZ bs) (Se:jZ es):aPc (.mk 6 n name [] bs es):=by
 intro w0 w vs base g l v hT hr hb h0 hg hp hok Bb;unfold St.fl at hr;obtain⟨y0,_,rfl,rfl,y1,_,rfl,rfl,y2,_,rfl,⟨a2,c2,rfl,h2,hc2,_⟩,y3,_,rfl,h3',y4,_,rfl,Bl,y5,_,rfl,h5',rfl⟩:=hr;obtain⟨a3,c3,rfl,h3⟩:=h3'.list;obtain⟨a4,c4,rfl,h4⟩:=Bl.list;obtain⟨a5,c5,rfl,h5⟩:=h5'.list;clear h3' Bl h5'
 have As:(exs []).length=0:=by simp[aJ]
 refine M939 ?_;intro hbl hel;rw[As,hbl,hel];simp only[agg]
 have he:prS (.mk 6 n name [] bs es)=([84,82,65,80,32])++(fI n++[32])++([59,10]):=by simp[prS,kC,fK]
 refine M9205 ?_;clear Bb he;intro Bb HE hloc
 have hnb:0<=n/\n<=99:=by have:=lK hloc;simp[dA]at this;omega
 have hokb:=(bG hok).2.2.1;have hoke:=(bG hok).2.2.2;clear hok;refine M915 ?_;intro hgl An Bd;have x0:=Blk.new w 129 [.int .i64 6,.int .i64 n,.slice a2 name.length c2,.slice a3 0 c3,.slice a4 bs.length c4,.slice a5 es.length c5]
 have hw:aL base (some g) w (w.alloc (.cells #[.int .i64 6,.int .i64 n,.slice a2 name.length c2,.slice a3 0 c3,.slice a4 bs.length c4,.slice a5 es.length c5] 129 (0,0))):=aL.of (aC w _ none)
 replace hb:Below w0.heap.size w0 (w.alloc (.cells #[.int .i64 6,.int .i64 n,.slice a2 name.length c2,.slice a3 0 c3,.slice a4 bs.length c4,.slice a5 es.length c5] 129 (0,0))):=hb.alloc hb.size _
 replace hp:=hp.grown (aC w (.cells #[.int .i64 6,.int .i64 n,.slice a2 name.length c2,.slice a3 0 c3,.slice a4 bs.length c4,.slice a5 es.length c5] 129 (0,0)) none);go_enter Tryz.func236,Tryz.ntmps236;have q3:=x0.k 3;go_upto_region 2 with fail;clear q3;generalize w.alloc (.cells #[.int .i64 6,.int .i64 n,.slice a2 name.length c2,.slice a3 0 c3,.slice a4 bs.length c4,.slice a5 es.length c5] 129 (0,0))=w1 at *;generalize w.heap.size=gx at *;have q0:=x0.k 0;have hF:=(hT.below hb).st 6 V6;refine M931 ?_;intro z0 z1 z2 z3 z4;have HQ:=fZ (stF 6) (iQ 6) w1 (hT.below hb);rw[aNa]at HQ;unfold Fm.val at HQ;clear hF;simp only[Nat.reduceMul,Nat.reduceAdd,Nat.zero_mul,zK0]at z0 z1 z2 z3 z4;go_wp2_with fail;refine HQ.mono ?_;rintro e w2 ⟨gw,rfl,wb,hgw',hq⟩;clear HQ q0 z0 z1 z2 z3 z4;refine M916 ?_;clear x0 hb hw hp;intro Aq x0 hb hw hp;clear hq hgw' hgl;simp only[rP,zI0,List.map_nil,zB1,zC3]at wb ⊢;refine M940 ?_;intro q0 q1 q2 q3 q4 q5 d0 d1 d2;go_wp2_with fail;refine zH2 4 ?_;rw[zE2]
 have HQ:=eW [⟨#[84,82,65,80]⟩] w2.heap.size 1 1 (w2.alloc (.cells #[.string ⟨#[84,82,65,80]⟩] 9)) base g _ _ (hp.grown (aC w2 _ none)) rfl (Blk.new w2 9 [.string ⟨#[84,82,65,80]⟩]) V12 (by rw[jJ];simp only[zA1,zB1,zC3];omega) hg
 go_wp2_with fail;refine HQ.mono ?_;rintro e w3 ⟨rfl,⟨v',Bs⟩,hq⟩;clear q0 q1 q2 q3 q4 q5 d0 d1 d2;replace hq:=(aL.of (aC w2 (.cells #[.string ⟨#[84,82,65,80]⟩] 9) none)).trans hq;clear HQ hp;refine M9180 ?_;clear Bs x0 wb hb hw;intro hp x0 wb hb hw;clear hq;refine M940 ?_;intro q0 q1 q2 q3 q4 q5 d0 d1 d2;rw[jJ]at hp;go_wp2_with fail;rw[zE2];have HQ:=aIm n V6 V6 w3 (hT.below hb);go_wp2_with fail;refine HQ.mono ?_;rintro e w4 ⟨rfl,hq⟩;clear HQ;clear q0 q1 q2 q3 q4 q5 d0 d1 d2;replace hp:=hp.grown hq
 replace hq:aL base (some g) w3 w4:=aL.of hq
 replace x0:=hq.blk x0 V7 An;replace wb:=hq.blk wb V7 Aq;replace hb:=hq.below hb h0 Bd;replace hw:=hw.trans hq;clear hq;refine M940 ?_;intro q0 q1 q2 q3 q4 q5 d0 d1 d2
 have HQ:=eW [⟨(Lib.itoa n).toArray⟩] w4.heap.size 1 1 (w4.alloc (.cells #[.string ⟨(Lib.itoa n).toArray⟩] 9)) base g _ _ (hp.grown (aC w4 _ none)) rfl (Blk.new w4 9 [.string ⟨(Lib.itoa n).toArray⟩]) V12 (by rw[gU];simp only[zA1,zB1,zC3];omega) hg
 go_wp2_with fail;refine HQ.mono ?_;rintro e w5 ⟨rfl,⟨v',Bs⟩,hq⟩;clear q0 q1 q2 q3 q4 q5 d0 d1 d2;replace hq:=(aL.of (aC w4 (.cells #[.string ⟨(Lib.itoa n).toArray⟩] 9) none)).trans hq;clear HQ hp;refine M9180 ?_;clear Bs x0 wb hb hw;intro hp x0 wb hb hw;clear hq;refine M940 ?_;intro q0 q1 q2 q3 q4 q5 d0 d1 d2;rw[gU]at hp;go_wp2_with fail;refine M9253 ?_;intro HQ;go_wp2_with fail;refine HQ.mono ?_;rintro e w6 ⟨rfl,⟨v',Bs⟩,hq⟩;clear q0 q1 q2 q3 q4 q5 d0 d1 d2;replace hq:=(aL.of (aC w5 (.cells #[.string ⟨#[59]⟩] 9) none)).trans hq;clear HQ hp;refine M9180 ?_;clear Bs x0 wb hb hw;intro hp x0 wb hb hw;clear hq;refine M940 ?_;intro q0 q1 q2 q3 q4 q5 d0 d1 d2;rw[dP]at hp;go_wp2_with fail;rw[zE2];go_wp2_with fail
 have Bq:∃v',Pg w6 base g (l++prS (.mk 6 n name [] bs es)) v':=⟨_,by rw[HE.out];simpa [zD0] using hp⟩
 exact U10
theorem aLr (n:Int)(name:List Int)(e0:Ex)(S0:nX e0)(bs es:List St)(Sb:jZ bs)(Se:jZ es):aPc (.mk 7 n name [e0] bs es):=by
 intro w0 w vs base g l v hT hr hb h0 hg hp hok Bb;unfold St.fl at hr;obtain⟨y0,_,rfl,rfl,y1,_,rfl,rfl,y2,_,rfl,⟨a2,c2,rfl,h2,hc2,_⟩,y3,_,rfl,h3',y4,_,rfl,Bl,y5,_,rfl,h5',rfl⟩:=hr;obtain⟨a3,c3,rfl,h3⟩:=h3'.list;obtain⟨a4,c4,rfl,h4⟩:=Bl.list;obtain⟨a5,c5,rfl,h5⟩:=h5'.list;clear h3' Bl h5'
 have As:(exs [e0]).length=1:=by simp[aJ]
 refine M939 ?_;intro hbl hel;rw[As,hbl,hel];simp only[agg];obtain⟨b4,o4,rfl⟩:=h3.addr V24
 obtain⟨cc,rfl⟩:∃cc,c3=cc+1:=⟨c3-1,by have:=h3.cap;rw[As]at this;omega⟩
 obtain⟨us0,hv0,Ah⟩:=(h3.el (i:=0) rfl).vals
 obtain⟨u00,u01,u02,u03,u04,rfl⟩:∃a b c d e,us0=[a,b,c,d,e]:=by
  exact U27
 refine M912 ?_;intro Ba Az Ay Ax Aw;clear Ah;refine M9223 ?_;intro hoks hk0
 have he:prS (.mk 7 n name [e0] bs es)=([67,65,76,76,32])++(prE e0)++([59,10]):=by simp[prS,kC,fK]
 refine M9205 ?_;clear Bb he;intro Bb HE hloc;have hokb:=(bG hok).2.2.1;have hoke:=(bG hok).2.2.2;clear hok;refine M915 ?_;intro hgl An Bd;have x0:=Blk.new w 129 [.int .i64 7,.int .i64 n,.slice a2 name.length c2,.slice (some ⟨b4,o4,none⟩) 1 (cc+1),.slice a4 bs.length c4,.slice a5 es.length c5]
 have hw:aL base (some g) w (w.alloc (.cells #[.int .i64 7,.int .i64 n,.slice a2 name.length c2,.slice (some ⟨b4,o4,none⟩) 1 (cc+1),.slice a4 bs.length c4,.slice a5 es.length c5] 129 (0,0))):=aL.of (aC w _ none)
 replace hb:Below w0.heap.size w0 (w.alloc (.cells #[.int .i64 7,.int .i64 n,.slice a2 name.length c2,.slice (some ⟨b4,o4,none⟩) 1 (cc+1),.slice a4 bs.length c4,.slice a5 es.length c5] 129 (0,0))):=hb.alloc hb.size _
 replace hp:=hp.grown (aC w (.cells #[.int .i64 7,.int .i64 n,.slice a2 name.length c2,.slice (some ⟨b4,o4,none⟩) 1 (cc+1),.slice a4 bs.length c4,.slice a5 es.length c5] 129 (0,0)) none);go_enter Tryz.func236,Tryz.ntmps236;have q3:=x0.k 3;go_upto_region 2 with fail;clear q3;generalize w.alloc (.cells #[.int .i64 7,.int .i64 n,.slice a2 name.length c2,.slice (some ⟨b4,o4,none⟩) 1 (cc+1),.slice a4 bs.length c4,.slice a5 es.length c5] 129 (0,0))=w1 at *;generalize w.heap.size=gx at *;have q0:=x0.k 0;have hF:=(hT.below hb).st 7 V6;refine M931 ?_;intro z0 z1 z2 z3 z4;have HQ:=fZ (stF 7) (iQ 7) w1 (hT.below hb);rw[aM9]at HQ;unfold Fm.val at HQ;clear hF;simp only[Nat.reduceMul,Nat.reduceAdd,Nat.zero_mul,zK0]at z0 z1 z2 z3 z4;go_wp2_with fail;refine HQ.mono ?_;rintro e w2 ⟨gw,rfl,wb,hgw',hq⟩;clear HQ q0 z0 z1 z2 z3 z4;refine M916 ?_;clear x0 hb hw hp;intro Aq x0 hb hw hp;clear hq hgw' hgl;simp only[rP,zI0,List.map_nil,zB1,zC3]at wb ⊢;refine M940 ?_;intro q0 q1 q2 q3 q4 q5 d0 d1 d2;go_wp2_with fail;refine zH2 4 ?_;rw[zE2]
 have HQ:=eW [⟨#[67,65,76,76]⟩] w2.heap.size 1 1 (w2.alloc (.cells #[.string ⟨#[67,65,76,76]⟩] 9)) base g _ _ (hp.grown (aC w2 _ none)) rfl (Blk.new w2 9 [.string ⟨#[67,65,76,76]⟩]) V12 (by rw[jO];simp only[zA1,zB1,zC3];omega) hg
 go_wp2_with fail;refine HQ.mono ?_;rintro e w3 ⟨rfl,⟨v',Bs⟩,hq⟩;clear q0 q1 q2 q3 q4 q5 d0 d1 d2;replace hq:=(aL.of (aC w2 (.cells #[.string ⟨#[67,65,76,76]⟩] 9) none)).trans hq;clear HQ hp;refine M9180 ?_;clear Bs x0 wb hb hw;intro hp x0 wb hb hw;clear hq;refine M940 ?_;intro q0 q1 q2 q3 q4 q5 d0 d1 d2;rw[jO]at hp;go_wp2_with fail;refine M9193 ?_;intro HQ t0 t1 t2 t3 t4;go_wp2_with fail;refine HQ.mono ?_;rintro e w4 ⟨rfl,⟨v',Bs⟩,hq⟩;clear t0 t1 t2 t3 t4;clear q0 q1 q2 q3 q4 q5 d0 d1 d2;clear HQ hp;refine M9180 ?_;clear Bs x0 wb hb hw;intro hp x0 wb hb hw;clear hq;refine M940 ?_;intro q0 q1 q2 q3 q4 q5 d0 d1 d2
 rcases cc with _|cc
 all_goals
  go_wp2_with fail;refine M9220 ?_;intro HQ;go_wp2_with fail;refine M9226 ?_;clear q0 q1 q2 q3 q4 q5 d0 d1 d2;intro w5 v' Bs hq;clear HQ hp;refine M9180 ?_;clear Bs x0 wb hb hw;intro hp x0 wb hb hw;clear hq;refine M940 ?_;intro q0 q1 q2 q3 q4 q5 d0 d1 d2;rw[dP]at hp;go_wp2_with fail;rw[zE2];go_wp2_with fail
  have Bq:∃v',Pg w5 base g (l++prS (.mk 7 n name [e0] bs es)) v':=⟨_,by rw[HE.out];simpa [zD0] using hp⟩
  exact U10
end Go.Proofs.YtegkhlkjfeafjaaGreatDoor

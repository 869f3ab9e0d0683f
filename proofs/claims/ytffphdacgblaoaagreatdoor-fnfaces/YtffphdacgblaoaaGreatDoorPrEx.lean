import Derived.Test.YtffphdacgblaoaaGreatDoorPackN
namespace Go.Proofs.YtffphdacgblaoaaGreatDoor
set_option maxHeartbeats 4000000
open Go.RowKit
set_option linter.unusedVariables false
set_option linter.unusedSimpArgs false
set_option maxRecDepth 100000
theorem Q8{p:Prop}(h:p:=by have:=hp.blk.lt;omega):p:=h
theorem Q13{p:Prop}(h:p:=by simp only[zA1,zB1,zC3];omega):p:=h
theorem Q18{p:Prop}(h:p:=by rw[An];omega):p:=h
theorem Q32{p:Prop}(h:p:=by rw[hpn];simp only[zA1,zB1,zC3];omega):p:=h
theorem U7{p:Prop}(h:p:=by
 exact bodyPost_end (results_none rfl _ _ _) rfl ⟨rfl,Bh,hw⟩):p:=h
theorem U11{p:Prop}(h:p:=by
 have hl:=hv0.len
 rw[cF]at hl
 match us0,hl with
 | [a,b,c,d,e],_=>exact⟨a,b,c,d,e,rfl⟩):p:=h
theorem U95{p:Prop}(h:p:=by
 have hl:=hv1.len
 rw[cF]at hl
 match us1,hl with
 | [a,b,c,d,e],_=>exact⟨a,b,c,d,e,rfl⟩):p:=h
theorem M90{p q:Prop}(k:q)(h:Kx q->p:=by
 intro kQ
 have hp:=Ae
 replace x0:=hq.blk x0 Q5 Al
 replace wb:=hq.blk wb Q5 Bf
 replace hb:=hq.below hb h0 Ao
 replace hw:=hw.trans hq
 revert hw;revert hb;revert wb;revert x0;revert hp
 exact kQ.o):p:=h ⟨k⟩
theorem M94{p q:Prop}(k:q)(h:Kx q->p:=by
 intro kQ
 have Au:w0.cell? ⟨b4,o4,none⟩=some u00:=by have:=Af 0 _ rfl;simpa using this
 have As:w0.cell? ⟨b4,o4+1,none⟩=some u01:=by have:=Af 1 _ rfl;simpa using this
 have Ar:w0.cell? ⟨b4,o4+2,none⟩=some u02:=by have:=Af 2 _ rfl;simpa using this
 have Aq:w0.cell? ⟨b4,o4+3,none⟩=some u03:=by have:=Af 3 _ rfl;simpa using this
 have Ap:w0.cell? ⟨b4,o4+4,none⟩=some u04:=by have:=Af 4 _ rfl;simpa using this
 revert Ap;revert Aq;revert Ar;revert As;revert Au
 exact kQ.o):p:=h ⟨k⟩
theorem M95{p q:Prop}(k:q)(h:Kx q->p:=by
 intro kQ
 replace hb:=hq.below hb h0 Ao
 replace hw:=hw.trans hq
 obtain⟨q0,q1,q2,q3,q4⟩:=x0.c5
 revert q4;revert q3;revert q2;revert q1;revert q0;revert hw;revert hb
 exact kQ.o):p:=h ⟨k⟩
theorem M96{p q:Prop}(k:q)(h:Kx q->p:=by
 intro kQ
 have Bf:some gw ≠ some g:=by have:=hp.blk.lt;simp;omega
 replace x0:=x0.below (aA hq) x0.lt
 replace hb:=hb.trans ((aA hq).mono hb.size)
 replace hw:=hw.trans (aG.of hq)
 replace hp:=hp.grown hq
 revert hp;revert hw;revert hb;revert x0;revert Bf
 exact kQ.o):p:=h ⟨k⟩
theorem M97{p q:Prop}(k:q)(h:Kx q->p:=by
 intro kQ
 have hgl:=hp.blk.lt
 have Al:some w.heap.size ≠ some g:=by simp;omega
 have Ao:∀k,some g=some k->w0.heap.size<=k:=by intro k e;cases e;omega
 revert Ao;revert Al;revert hgl
 exact kQ.o):p:=h ⟨k⟩
theorem M928{p q:Prop}(k:q)(h:Kx q->p:=by
 intro kQ
 rw[zE2]
 have HQ:=S0 w0 w3 [u00,u01,u02,u03,u04] base g _ _ hT hv0 hb h0 hg hp hk0 Q13
 simp only[agg]at HQ
 have t0:=aC Au hb
 have t1:=aC As hb
 have t2:=aC Ar hb
 have t3:=aC Aq hb
 have t4:=aC Ap hb
 revert t4;revert t3;revert t2;revert t1;revert t0;revert HQ
 exact kQ.o):p:=h ⟨k⟩
theorem M933{p q:Prop}(k:q)(h:Kx q->p:=by
 intro kQ
 have An:(exs ks).length=ks.length:=by simp[aQ]
 rw[An]
 simp only[agg]
 revert An
 exact kQ.o):p:=h ⟨k⟩
theorem M947{p q:Prop}(k:q)(h:Kx q->p:=by
 intro kQ
 rw[he]at Am
 simp only[zA1,zB1,zC3]at Am
 have HE:=hid he
 have hloc:=(cW hok).1
 revert hloc;revert HE;revert Am
 exact kQ.o):p:=h ⟨k⟩
theorem M953{p q:Prop}(k:q)(h:Kx q->p:=by
 intro kQ
 rw[zE2]
 have kc:=bP c3 (h3.below hb)
 have HQ:=fH [(strOfNums name)] w3.heap.size 1 1 (w3.alloc (.cells #[.string (strOfNums name)] 9)) base g _ _ (hp.grown (aB w3 _ none)) rfl (Blk.new w3 9 [.string (strOfNums name)]) Q8 Q32 hg
 revert HQ;revert kc
 exact kQ.o):p:=h ⟨k⟩
theorem M954{p q:Prop}(k:q)(h:Kx q->p:=by
 intro kQ
 have hc10:w0.cell? ⟨b4,o4+5,none⟩=some u10:=by have:=hcl1 0 _ rfl;simpa using this
 have hc11:w0.cell? ⟨b4,o4+5+1,none⟩=some u11:=by have:=hcl1 1 _ rfl;simpa using this
 have hc12:w0.cell? ⟨b4,o4+5+2,none⟩=some u12:=by have:=hcl1 2 _ rfl;simpa using this
 have hc13:w0.cell? ⟨b4,o4+5+3,none⟩=some u13:=by have:=hcl1 3 _ rfl;simpa using this
 have hc14:w0.cell? ⟨b4,o4+5+4,none⟩=some u14:=by have:=hcl1 4 _ rfl;simpa using this
 revert hc14;revert hc13;revert hc12;revert hc11;revert hc10
 exact kQ.o):p:=h ⟨k⟩
theorem M959{p q:Prop}(k:q)(h:Kx q->p:=by
 intro kQ
 rw[zE2]
 have HQ:=S0 w0 w4 [u00,u01,u02,u03,u04] base g _ _ hT hv0 hb h0 hg hp hk0 Q13
 simp only[agg]at HQ
 have t0:=aC Au hb
 have t1:=aC As hb
 have t2:=aC Ar hb
 have t3:=aC Aq hb
 have t4:=aC Ap hb
 revert t4;revert t3;revert t2;revert t1;revert t0;revert HQ
 exact kQ.o):p:=h ⟨k⟩
theorem M983{p q:Prop}(k:q)(h:Kx q->p:=by
 intro kQ
 rw[zE2]
 have kc:=bP c3 (h3.below hb)
 have HQ:=fH [(strOfNums name)] w2.heap.size 1 1 (w2.alloc (.cells #[.string (strOfNums name)] 9)) base g _ _ (hp.grown (aB w2 _ none)) rfl (Blk.new w2 9 [.string (strOfNums name)]) Q8 Q32 hg
 revert HQ;revert kc
 exact kQ.o):p:=h ⟨k⟩
theorem M985{p q:Prop}(k:q)(h:Kx q->p:=by
 intro kQ
 rw[zE2]
 have HQ:=fH [⟨#[93]⟩] w5.heap.size 1 1 (w5.alloc (.cells #[.string ⟨#[93]⟩] 9)) base g _ _ (hp.grown (aB w5 _ none)) rfl (Blk.new w5 9 [.string ⟨#[93]⟩]) Q8 (by rw[uP];simp only[zA1,zB1,zC3];omega) hg
 revert HQ
 exact kQ.o):p:=h ⟨k⟩
theorem M986{p q:Prop}(k:q)(h:Kx q->p:=by
 intro kQ
 rw[zE2]
 have HQ:=fH [⟨#[91]⟩] w3.heap.size 1 1 (w3.alloc (.cells #[.string ⟨#[91]⟩] 9)) base g _ _ (hp.grown (aB w3 _ none)) rfl (Blk.new w3 9 [.string ⟨#[91]⟩]) Q8 (by rw[uQ];simp only[zA1,zB1,zC3];omega) hg
 revert HQ
 exact kQ.o):p:=h ⟨k⟩
def pE (x:Ex):Prop:=∀(w0 w:World) (vs:List Value) (base g:Nat) (l:List Int) (v:Value),nF w0->cC w0 x.fl vs->Below w0.heap.size w0 w->w0.heap.size<=base->base<=g->Pg w base g l v->qN x=true->l.length+(prE x).length<=1000000000 →
 Calls Tryz.prog 158 #[.pointer (some ⟨g,0,none⟩),agg vs] w fun e w'=>e=.returned (.tuple #[])/\(∃v',Pg w' base g (l++prE x) v')/\aG base (some g) w w'
def Six (n:Int):Prop:=n=0\/n=1\/n=2\/n=3\/n=4\/n=5
def opS (n:Int):ByteArray:=if n=0 then ⟨#[43]⟩ else if n=1 then ⟨#[45]⟩ else if n=2 then ⟨#[42]⟩ else if n=3 then ⟨#[47]⟩ else if n=4 then ⟨#[60]⟩ else ⟨#[61]⟩
theorem aEd {n:Int}(h:Six n):aM [opS n]=opI n++[32]:=by
 rcases h with rfl|rfl|rfl|rfl|rfl|rfl <;> simp[opS,opI,aOa,aN9,aJ0,aN7,aN6,aN5]
theorem aNr {n:Int}(h:Six n)(w:World):(Instr.slice 9 (.string ⟨#[43,45,42,47,60,61]⟩) (some (.int .i64 n)) (some (.int .i64 (wrap64 (n+1)))) none).run Tryz.prog w=.ok (.string (opS n)) w:=by
 rcases h with rfl|rfl|rfl|rfl|rfl|rfl
 .
  rw[show wrap64 (0+1)=1 by unfold wrap64;omega];go_simp;rfl
 .
  rw[show wrap64 (1+1)=2 by unfold wrap64;omega];go_simp;rfl
 .
  rw[show wrap64 (2+1)=3 by unfold wrap64;omega];go_simp;rfl
 .
  rw[show wrap64 (3+1)=4 by unfold wrap64;omega];go_simp;rfl
 .
  rw[show wrap64 (4+1)=5 by unfold wrap64;omega];go_simp;rfl
 .
  rw[show wrap64 (5+1)=6 by unfold wrap64;omega];go_simp;rfl
theorem cW {k n:Int}{mod name:List Int}{ks:List Ex}(h:qN (.mk k n mod name ks)=true):iW k n mod name ks.length=true/\eI ks=true:=by
 unfold qN at h;simp only[zC0]at h;exact⟨h.1.1,h.2⟩
theorem gV {k n:Int}{mod name:List Int}{nk:Nat}(h:iW k n mod name nk=true)(hk:dP k=true):aK name false=true:=by
 unfold iW at h;simp only[zC0]at h;rw[hk]at h;exact h.1.2.2
theorem aQ2 (n:Int)(mod name:List Int)(ks:List Ex):pE (.mk 0 n mod name ks):=by
 intro w0 w vs base g l v hT hr hb h0 hg hp hok Am;unfold Ex.fl at hr;obtain⟨y0,_,rfl,rfl,y1,_,rfl,rfl,y2,_,rfl,⟨a2,c2,rfl,h2,hc2,_⟩,y3,_,rfl,⟨a3,c3,rfl,h3,hc3,_⟩,y4,_,rfl,Be,rfl⟩:=hr;obtain⟨a4,c4,rfl,h4⟩:=Be.list;clear Be;refine M933 ?_;intro An
 have he:prE (.mk 0 n mod name ks)=(gL n++[32]):=by simp[prE,lE,jP]
 refine M947 ?_;clear Am he;intro Am HE hloc
 have hnb:-2147483648<=n/\n<=2147483647:=by simp[iW,inB,fD,dF]at hloc;omega
 clear hok;refine M97 ?_;intro hgl Al Ao;have x0:=Blk.new w 119 [.int .i64 0,.int .i64 n,.slice a2 mod.length c2,.slice a3 name.length c3,.slice a4 ks.length c4]
 have hw:aG base (some g) w (w.alloc (.cells #[.int .i64 0,.int .i64 n,.slice a2 mod.length c2,.slice a3 name.length c3,.slice a4 ks.length c4] 119 (0,0))):=aG.of (aB w _ none)
 replace hb:Below w0.heap.size w0 (w.alloc (.cells #[.int .i64 0,.int .i64 n,.slice a2 mod.length c2,.slice a3 name.length c3,.slice a4 ks.length c4] 119 (0,0))):=hb.alloc hb.size _
 replace hp:=hp.grown (aB w (.cells #[.int .i64 0,.int .i64 n,.slice a2 mod.length c2,.slice a3 name.length c3,.slice a4 ks.length c4] 119 (0,0)) none);go_enter Tryz.func158,Tryz.ntmps158;have q4:=x0.k 4;go_upto_region 2 with fail;clear q4;generalize w.alloc (.cells #[.int .i64 0,.int .i64 n,.slice a2 mod.length c2,.slice a3 name.length c3,.slice a4 ks.length c4] 119 (0,0))=w1 at *;generalize w.heap.size=gx at *;have q0:=x0.k 0;have hF:=(hT.below hb).ex 0 Q0;refine M919 ?_;intro z0 z1 z2 z3 z4;have HQ:=hH (exF 0) (kA 0) w1 (hT.below hb);rw[aTa]at HQ;unfold Fm.val at HQ;clear hF;simp only[Nat.reduceMul,Nat.reduceAdd,Nat.zero_mul,zJ2]at z0 z1 z2 z3 z4;go_wp2_with fail;refine HQ.mono ?_;rintro e w2 ⟨gw,rfl,wb,hgw',hq⟩;clear HQ q0 z0 z1 z2 z3 z4;refine M96 ?_;clear x0 hb hw hp;intro Bf x0 hb hw hp;clear hq hgw' hgl;simp only[tV,zH2,List.map_nil,zB1,zC3]at wb ⊢;obtain⟨q0,q1,q2,q3,q4⟩:=x0.c5;have d0:=wb.k 0;go_wp2_with fail;refine zH1 2 ?_;rw[zE2];have HQ:=aL7 n Q0 Q0 w2 (hT.below hb);go_wp2_with fail;refine HQ.mono ?_;rintro e w3 ⟨rfl,hq⟩;clear HQ;clear q0 q1 q2 q3 q4 d0;replace hp:=hp.grown hq
 replace hq:aG base (some g) w2 w3:=aG.of hq
 replace x0:=hq.blk x0 Q5 Al;replace wb:=hq.blk wb Q5 Bf;refine M95 ?_;clear hb hw hq;intro hb hw q0 q1 q2 q3 q4;have d0:=wb.k 0
 have HQ:=fH [⟨(Lib.itoa n).toArray⟩] w3.heap.size 1 1 (w3.alloc (.cells #[.string ⟨(Lib.itoa n).toArray⟩] 9)) base g _ _ (hp.grown (aB w3 _ none)) rfl (Blk.new w3 9 [.string ⟨(Lib.itoa n).toArray⟩]) Q8 (by rw[iQ];simp only[zA1,zB1,zC3];omega) hg
 go_wp2_with fail;refine HQ.mono ?_;rintro e w4 ⟨rfl,⟨v',Ae⟩,hq⟩;clear q0 q1 q2 q3 q4 d0;replace hq:=(aG.of (aB w3 (.cells #[.string ⟨(Lib.itoa n).toArray⟩] 9) none)).trans hq;clear HQ hp;refine M90 ?_;clear Ae x0 wb hb hw;intro hp x0 wb hb hw;clear hq;obtain⟨q0,q1,q2,q3,q4⟩:=x0.c5;have d0:=wb.k 0;rw[iQ]at hp;go_wp2_with fail;rw[zE2];go_wp2_with fail
 have Bh:∃v',Pg w4 base g (l++prE (.mk 0 n mod name ks)) v':=⟨_,by rw[HE.out];simpa [zD0] using hp⟩
 exact U7
theorem aQ1 (n:Int)(mod name:List Int)(ks:List Ex):pE (.mk 1 n mod name ks):=by
 intro w0 w vs base g l v hT hr hb h0 hg hp hok Am;unfold Ex.fl at hr;obtain⟨y0,_,rfl,rfl,y1,_,rfl,rfl,y2,_,rfl,⟨a2,c2,rfl,h2,hc2,_⟩,y3,_,rfl,⟨a3,c3,rfl,h3,hc3,_⟩,y4,_,rfl,Be,rfl⟩:=hr;obtain⟨a4,c4,rfl,h4⟩:=Be.list;clear Be;refine M933 ?_;intro An
 have he:prE (.mk 1 n mod name ks)=(name++[32]):=by simp[prE,lE,jP]
 refine M947 ?_;clear Am he;intro Am HE hloc;have hnm:=gV hloc Q5;have hpn:=cE (g:=false) h3.2.1 hnm;clear hok;refine M97 ?_;intro hgl Al Ao;have x0:=Blk.new w 119 [.int .i64 1,.int .i64 n,.slice a2 mod.length c2,.slice a3 name.length c3,.slice a4 ks.length c4]
 have hw:aG base (some g) w (w.alloc (.cells #[.int .i64 1,.int .i64 n,.slice a2 mod.length c2,.slice a3 name.length c3,.slice a4 ks.length c4] 119 (0,0))):=aG.of (aB w _ none)
 replace hb:Below w0.heap.size w0 (w.alloc (.cells #[.int .i64 1,.int .i64 n,.slice a2 mod.length c2,.slice a3 name.length c3,.slice a4 ks.length c4] 119 (0,0))):=hb.alloc hb.size _
 replace hp:=hp.grown (aB w (.cells #[.int .i64 1,.int .i64 n,.slice a2 mod.length c2,.slice a3 name.length c3,.slice a4 ks.length c4] 119 (0,0)) none);go_enter Tryz.func158,Tryz.ntmps158;have q4:=x0.k 4;go_upto_region 2 with fail;clear q4;generalize w.alloc (.cells #[.int .i64 1,.int .i64 n,.slice a2 mod.length c2,.slice a3 name.length c3,.slice a4 ks.length c4] 119 (0,0))=w1 at *;generalize w.heap.size=gx at *;have q0:=x0.k 0;have hF:=(hT.below hb).ex 1 Q0;refine M919 ?_;intro z0 z1 z2 z3 z4;have HQ:=hH (exF 1) (kA 1) w1 (hT.below hb);rw[aS9]at HQ;unfold Fm.val at HQ;clear hF;simp only[Nat.reduceMul,Nat.reduceAdd,Nat.zero_mul,zJ2]at z0 z1 z2 z3 z4;go_wp2_with fail;refine HQ.mono ?_;rintro e w2 ⟨gw,rfl,wb,hgw',hq⟩;clear HQ q0 z0 z1 z2 z3 z4;refine M96 ?_;clear x0 hb hw hp;intro Bf x0 hb hw hp;clear hq hgw' hgl;simp only[tV,zH2,List.map_nil,zB1,zC3]at wb ⊢;obtain⟨q0,q1,q2,q3,q4⟩:=x0.c5;have d0:=wb.k 0;go_wp2_with fail;refine zH1 2 ?_;refine M983 ?_;intro kc HQ;go_wp2_with fail;refine HQ.mono ?_;rintro e w3 ⟨rfl,⟨v',Ae⟩,hq⟩;clear q0 q1 q2 q3 q4 d0;replace hq:=(aG.of (aB w2 (.cells #[.string (strOfNums name)] 9) none)).trans hq;clear HQ hp;refine M90 ?_;clear Ae x0 wb hb hw;intro hp x0 wb hb hw;clear hq;obtain⟨q0,q1,q2,q3,q4⟩:=x0.c5;have d0:=wb.k 0;rw[hpn]at hp;clear kc;go_wp2_with fail;rw[zE2];go_wp2_with fail
 have Bh:∃v',Pg w3 base g (l++prE (.mk 1 n mod name ks)) v':=⟨_,by rw[HE.out];simpa [zD0] using hp⟩
 exact U7
theorem aQ0 (n:Int)(mod name:List Int)(e0:Ex)(S0:pE e0):pE (.mk 2 n mod name [e0]):=by
 intro w0 w vs base g l v hT hr hb h0 hg hp hok Am;unfold Ex.fl at hr;obtain⟨y0,_,rfl,rfl,y1,_,rfl,rfl,y2,_,rfl,⟨a2,c2,rfl,h2,hc2,_⟩,y3,_,rfl,⟨a3,c3,rfl,h3,hc3,_⟩,y4,_,rfl,Be,rfl⟩:=hr;obtain⟨a4,c4,rfl,h4⟩:=Be.list;clear Be
 have An:(exs [e0]).length=1:=by simp[aQ]
 rw[An];simp only[agg];obtain⟨b4,o4,rfl⟩:=h4.addr Q18
 obtain⟨cc,rfl⟩:∃cc,c4=cc+1:=⟨c4-1,by have:=h4.cap;rw[An]at this;omega⟩
 obtain⟨us0,hv0,Af⟩:=(h4.el (i:=0) rfl).vals
 obtain⟨u00,u01,u02,u03,u04,rfl⟩:∃a b c d e,us0=[a,b,c,d,e]:=by
  exact U11
 refine M94 ?_;intro Au As Ar Aq Ap;clear Af;have hoks:=(cW hok).2;simp only[eI,zC0,and_true]at hoks;have hk0:=hoks
 have he:prE (.mk 2 n mod name [e0])=(name++[32])++([91,32])++(prE e0)++([93,32]):=by simp[prE,lE,jP]
 refine M947 ?_;clear Am he;intro Am HE hloc;have hnm:=gV hloc Q5;have hpn:=cE (g:=false) h3.2.1 hnm;clear hok;refine M97 ?_;intro hgl Al Ao;have x0:=Blk.new w 119 [.int .i64 2,.int .i64 n,.slice a2 mod.length c2,.slice a3 name.length c3,.slice (some ⟨b4,o4,none⟩) 1 (cc+1)]
 have hw:aG base (some g) w (w.alloc (.cells #[.int .i64 2,.int .i64 n,.slice a2 mod.length c2,.slice a3 name.length c3,.slice (some ⟨b4,o4,none⟩) 1 (cc+1)] 119 (0,0))):=aG.of (aB w _ none)
 replace hb:Below w0.heap.size w0 (w.alloc (.cells #[.int .i64 2,.int .i64 n,.slice a2 mod.length c2,.slice a3 name.length c3,.slice (some ⟨b4,o4,none⟩) 1 (cc+1)] 119 (0,0))):=hb.alloc hb.size _
 replace hp:=hp.grown (aB w (.cells #[.int .i64 2,.int .i64 n,.slice a2 mod.length c2,.slice a3 name.length c3,.slice (some ⟨b4,o4,none⟩) 1 (cc+1)] 119 (0,0)) none);go_enter Tryz.func158,Tryz.ntmps158;have q4:=x0.k 4;go_upto_region 2 with fail;clear q4;generalize w.alloc (.cells #[.int .i64 2,.int .i64 n,.slice a2 mod.length c2,.slice a3 name.length c3,.slice (some ⟨b4,o4,none⟩) 1 (cc+1)] 119 (0,0))=w1 at *;generalize w.heap.size=gx at *;have q0:=x0.k 0;have hF:=(hT.below hb).ex 2 Q0;refine M919 ?_;intro z0 z1 z2 z3 z4;have HQ:=hH (exF 2) (kA 2) w1 (hT.below hb);rw[aS8]at HQ;unfold Fm.val at HQ;clear hF;simp only[Nat.reduceMul,Nat.reduceAdd,Nat.zero_mul,zJ2]at z0 z1 z2 z3 z4;go_wp2_with fail;refine HQ.mono ?_;rintro e w2 ⟨gw,rfl,wb,hgw',hq⟩;clear HQ q0 z0 z1 z2 z3 z4;refine M96 ?_;clear x0 hb hw hp;intro Bf x0 hb hw hp;clear hq hgw' hgl;simp only[tV,zH2,List.map_nil,zB1,zC3]at wb ⊢;obtain⟨q0,q1,q2,q3,q4⟩:=x0.c5;obtain⟨d0,d1,d2,d3⟩:=wb.c4;go_wp2_with fail;refine zH1 5 ?_;refine M983 ?_;intro kc HQ;go_wp2_with fail;refine HQ.mono ?_;rintro e w3 ⟨rfl,⟨v',Ae⟩,hq⟩;clear q0 q1 q2 q3 q4 d0 d1 d2 d3;replace hq:=(aG.of (aB w2 (.cells #[.string (strOfNums name)] 9) none)).trans hq;clear HQ hp;refine M90 ?_;clear Ae x0 wb hb hw;intro hp x0 wb hb hw;clear hq;obtain⟨q0,q1,q2,q3,q4⟩:=x0.c5;obtain⟨d0,d1,d2,d3⟩:=wb.c4;rw[hpn]at hp;clear kc;go_wp2_with fail;refine M986 ?_;intro HQ;go_wp2_with fail;refine HQ.mono ?_;rintro e w4 ⟨rfl,⟨v',Ae⟩,hq⟩;clear q0 q1 q2 q3 q4 d0 d1 d2 d3;replace hq:=(aG.of (aB w3 (.cells #[.string ⟨#[91]⟩] 9) none)).trans hq;clear HQ hp;refine M90 ?_;clear Ae x0 wb hb hw;intro hp x0 wb hb hw;clear hq;obtain⟨q0,q1,q2,q3,q4⟩:=x0.c5;obtain⟨d0,d1,d2,d3⟩:=wb.c4;rw[uQ]at hp;go_wp2_with fail;refine M959 ?_;intro HQ t0 t1 t2 t3 t4;go_wp2_with fail;refine HQ.mono ?_;rintro e w5 ⟨rfl,⟨v',Ae⟩,hq⟩;clear t0 t1 t2 t3 t4;clear q0 q1 q2 q3 q4 d0 d1 d2 d3;clear HQ hp;refine M90 ?_;clear Ae x0 wb hb hw;intro hp x0 wb hb hw;clear hq;obtain⟨q0,q1,q2,q3,q4⟩:=x0.c5;obtain⟨d0,d1,d2,d3⟩:=wb.c4
 rcases cc with _|cc
 all_goals
  go_wp2_with fail;refine M985 ?_;intro HQ;go_wp2_with fail;refine HQ.mono ?_;rintro e w6 ⟨rfl,⟨v',Ae⟩,hq⟩;clear q0 q1 q2 q3 q4 d0 d1 d2 d3;replace hq:=(aG.of (aB w5 (.cells #[.string ⟨#[93]⟩] 9) none)).trans hq;clear HQ hp;refine M90 ?_;clear Ae x0 wb hb hw;intro hp x0 wb hb hw;clear hq;obtain⟨q0,q1,q2,q3,q4⟩:=x0.c5;obtain⟨d0,d1,d2,d3⟩:=wb.c4;rw[uP]at hp;go_wp2_with fail;rw[zE2];go_wp2_with fail
  have Bh:∃v',Pg w6 base g (l++prE (.mk 2 n mod name [e0])) v':=⟨_,by rw[HE.out];simpa [zD0] using hp⟩
  exact U7
theorem aQz (n:Int)(hsix:Six n)(mod name:List Int)(e0:Ex)(S0:pE e0)(e1:Ex)(S1:pE e1):pE (.mk 3 n mod name [e0,e1]):=by
 intro w0 w vs base g l v hT hr hb h0 hg hp hok Am;unfold Ex.fl at hr;obtain⟨y0,_,rfl,rfl,y1,_,rfl,rfl,y2,_,rfl,⟨a2,c2,rfl,h2,hc2,_⟩,y3,_,rfl,⟨a3,c3,rfl,h3,hc3,_⟩,y4,_,rfl,Be,rfl⟩:=hr;obtain⟨a4,c4,rfl,h4⟩:=Be.list;clear Be
 have An:(exs [e0,e1]).length=2:=by simp[aQ]
 rw[An];simp only[agg];obtain⟨b4,o4,rfl⟩:=h4.addr Q18
 obtain⟨cc,rfl⟩:∃cc,c4=cc+2:=⟨c4-2,by have:=h4.cap;rw[An]at this;omega⟩
 obtain⟨us0,hv0,Af⟩:=(h4.el (i:=0) rfl).vals
 obtain⟨u00,u01,u02,u03,u04,rfl⟩:∃a b c d e,us0=[a,b,c,d,e]:=by
  exact U11
 refine M94 ?_;intro Au As Ar Aq Ap;clear Af;obtain⟨us1,hv1,hcl1⟩:=(h4.el (i:=1) rfl).vals
 obtain⟨u10,u11,u12,u13,u14,rfl⟩:∃a b c d e,us1=[a,b,c,d,e]:=by
  exact U95
 refine M954 ?_;intro hc10 hc11 hc12 hc13 hc14;clear hcl1;have hoks:=(cW hok).2;simp only[eI,zC0,and_true]at hoks;have hk0:=hoks.1;have hk1:=hoks.2
 have he:prE (.mk 3 n mod name [e0,e1])=([40,32])++(prE e0)++(opI n++[32])++(prE e1)++([41,32]):=by simp[prE,lE,jP]
 refine M947 ?_;clear Am he;intro Am HE hloc;clear hok;refine M97 ?_;intro hgl Al Ao;have x0:=Blk.new w 119 [.int .i64 3,.int .i64 n,.slice a2 mod.length c2,.slice a3 name.length c3,.slice (some ⟨b4,o4,none⟩) 2 (cc+2)]
 have hw:aG base (some g) w (w.alloc (.cells #[.int .i64 3,.int .i64 n,.slice a2 mod.length c2,.slice a3 name.length c3,.slice (some ⟨b4,o4,none⟩) 2 (cc+2)] 119 (0,0))):=aG.of (aB w _ none)
 replace hb:Below w0.heap.size w0 (w.alloc (.cells #[.int .i64 3,.int .i64 n,.slice a2 mod.length c2,.slice a3 name.length c3,.slice (some ⟨b4,o4,none⟩) 2 (cc+2)] 119 (0,0))):=hb.alloc hb.size _
 replace hp:=hp.grown (aB w (.cells #[.int .i64 3,.int .i64 n,.slice a2 mod.length c2,.slice a3 name.length c3,.slice (some ⟨b4,o4,none⟩) 2 (cc+2)] 119 (0,0)) none);go_enter Tryz.func158,Tryz.ntmps158;have q4:=x0.k 4;go_upto_region 2 with fail;clear q4;generalize w.alloc (.cells #[.int .i64 3,.int .i64 n,.slice a2 mod.length c2,.slice a3 name.length c3,.slice (some ⟨b4,o4,none⟩) 2 (cc+2)] 119 (0,0))=w1 at *;generalize w.heap.size=gx at *;have q0:=x0.k 0;have hF:=(hT.below hb).ex 3 Q0;refine M919 ?_;intro z0 z1 z2 z3 z4;have HQ:=hH (exF 3) (kA 3) w1 (hT.below hb);rw[aS7]at HQ;unfold Fm.val at HQ;clear hF;simp only[Nat.reduceMul,Nat.reduceAdd,Nat.zero_mul,zJ2]at z0 z1 z2 z3 z4;go_wp2_with fail;refine HQ.mono ?_;rintro e w2 ⟨gw,rfl,wb,hgw',hq⟩;clear HQ q0 z0 z1 z2 z3 z4;refine M96 ?_;clear x0 hb hw hp;intro Bf x0 hb hw hp;clear hq hgw' hgl;simp only[tV,zH2,List.map_nil,zB1,zC3]at wb ⊢;obtain⟨q0,q1,q2,q3,q4⟩:=x0.c5;obtain⟨d0,d1,d2,d3,d4⟩:=wb.c5;go_wp2_with fail;refine zH1 6 ?_;rw[zE2]
 have HQ:=fH [⟨#[40]⟩] w2.heap.size 1 1 (w2.alloc (.cells #[.string ⟨#[40]⟩] 9)) base g _ _ (hp.grown (aB w2 _ none)) rfl (Blk.new w2 9 [.string ⟨#[40]⟩]) Q8 (by rw[rG];simp only[zA1,zB1,zC3];omega) hg
 go_wp2_with fail;refine HQ.mono ?_;rintro e w3 ⟨rfl,⟨v',Ae⟩,hq⟩;clear q0 q1 q2 q3 q4 d0 d1 d2 d3 d4;replace hq:=(aG.of (aB w2 (.cells #[.string ⟨#[40]⟩] 9) none)).trans hq;clear HQ hp;refine M90 ?_;clear Ae x0 wb hb hw;intro hp x0 wb hb hw;clear hq;obtain⟨q0,q1,q2,q3,q4⟩:=x0.c5;obtain⟨d0,d1,d2,d3,d4⟩:=wb.c5;rw[rG]at hp;go_wp2_with fail;refine M928 ?_;intro HQ t0 t1 t2 t3 t4;go_wp2_with fail;refine HQ.mono ?_;rintro e w4 ⟨rfl,⟨v',Ae⟩,hq⟩;clear t0 t1 t2 t3 t4;clear q0 q1 q2 q3 q4 d0 d1 d2 d3 d4;clear HQ hp;refine M90 ?_;clear Ae x0 wb hb hw;intro hp x0 wb hb hw;clear hq;obtain⟨q0,q1,q2,q3,q4⟩:=x0.c5;obtain⟨d0,d1,d2,d3,d4⟩:=wb.c5;go_wp2_with fail;rw[zE2];have ksl:=aNr hsix w4
 have HQ:=fH [(opS n)] w4.heap.size 1 1 (w4.alloc (.cells #[.string (opS n)] 9)) base g _ _ (hp.grown (aB w4 _ none)) rfl (Blk.new w4 9 [.string (opS n)]) Q8 (by rw[aEd hsix];simp only[zA1,zB1,zC3];omega) hg
 go_wp2_with fail;refine HQ.mono ?_;rintro e w5 ⟨rfl,⟨v',Ae⟩,hq⟩;clear q0 q1 q2 q3 q4 d0 d1 d2 d3 d4;replace hq:=(aG.of (aB w4 (.cells #[.string (opS n)] 9) none)).trans hq;clear HQ hp;refine M90 ?_;clear Ae x0 wb hb hw;intro hp x0 wb hb hw;clear hq;obtain⟨q0,q1,q2,q3,q4⟩:=x0.c5;obtain⟨d0,d1,d2,d3,d4⟩:=wb.c5;clear ksl;rw[aEd hsix]at hp;go_wp2_with fail;rw[zE2];have HQ:=S1 w0 w5 [u10,u11,u12,u13,u14] base g _ _ hT hv1 hb h0 hg hp hk1 Q13;simp only[agg]at HQ;have t0:=aC hc10 hb;have t1:=aC hc11 hb;have t2:=aC hc12 hb;have t3:=aC hc13 hb;have t4:=aC hc14 hb;go_wp2_with fail;refine HQ.mono ?_;rintro e w6 ⟨rfl,⟨v',Ae⟩,hq⟩;clear t0 t1 t2 t3 t4;clear q0 q1 q2 q3 q4 d0 d1 d2 d3 d4;clear HQ hp;refine M90 ?_;clear Ae x0 wb hb hw;intro hp x0 wb hb hw;clear hq;obtain⟨q0,q1,q2,q3,q4⟩:=x0.c5;obtain⟨d0,d1,d2,d3,d4⟩:=wb.c5
 rcases cc with _|cc
 all_goals
  go_wp2_with fail;rw[zE2]
  have HQ:=fH [⟨#[41]⟩] w6.heap.size 1 1 (w6.alloc (.cells #[.string ⟨#[41]⟩] 9)) base g _ _ (hp.grown (aB w6 _ none)) rfl (Blk.new w6 9 [.string ⟨#[41]⟩]) Q8 (by rw[rF];simp only[zA1,zB1,zC3];omega) hg
  go_wp2_with fail;refine HQ.mono ?_;rintro e w7 ⟨rfl,⟨v',Ae⟩,hq⟩;clear q0 q1 q2 q3 q4 d0 d1 d2 d3 d4;replace hq:=(aG.of (aB w6 (.cells #[.string ⟨#[41]⟩] 9) none)).trans hq;clear HQ hp;refine M90 ?_;clear Ae x0 wb hb hw;intro hp x0 wb hb hw;clear hq;obtain⟨q0,q1,q2,q3,q4⟩:=x0.c5;obtain⟨d0,d1,d2,d3,d4⟩:=wb.c5;rw[rF]at hp;go_wp2_with fail;rw[zE2];go_wp2_with fail
  have Bh:∃v',Pg w7 base g (l++prE (.mk 3 n mod name [e0,e1])) v':=⟨_,by rw[HE.out];simpa [zD0] using hp⟩
  exact U7
theorem aQy (n:Int)(mod name:List Int)(ks:List Ex):pE (.mk 4 n mod name ks):=by
 intro w0 w vs base g l v hT hr hb h0 hg hp hok Am;unfold Ex.fl at hr;obtain⟨y0,_,rfl,rfl,y1,_,rfl,rfl,y2,_,rfl,⟨a2,c2,rfl,h2,hc2,_⟩,y3,_,rfl,⟨a3,c3,rfl,h3,hc3,_⟩,y4,_,rfl,Be,rfl⟩:=hr;obtain⟨a4,c4,rfl,h4⟩:=Be.list;clear Be;refine M933 ?_;intro An
 have he:prE (.mk 4 n mod name ks)=([73,78,32]):=by simp[prE,lE,jP]
 refine M947 ?_;clear Am he;intro Am HE hloc;clear hok;refine M97 ?_;intro hgl Al Ao;have x0:=Blk.new w 119 [.int .i64 4,.int .i64 n,.slice a2 mod.length c2,.slice a3 name.length c3,.slice a4 ks.length c4]
 have hw:aG base (some g) w (w.alloc (.cells #[.int .i64 4,.int .i64 n,.slice a2 mod.length c2,.slice a3 name.length c3,.slice a4 ks.length c4] 119 (0,0))):=aG.of (aB w _ none)
 replace hb:Below w0.heap.size w0 (w.alloc (.cells #[.int .i64 4,.int .i64 n,.slice a2 mod.length c2,.slice a3 name.length c3,.slice a4 ks.length c4] 119 (0,0))):=hb.alloc hb.size _
 replace hp:=hp.grown (aB w (.cells #[.int .i64 4,.int .i64 n,.slice a2 mod.length c2,.slice a3 name.length c3,.slice a4 ks.length c4] 119 (0,0)) none);go_enter Tryz.func158,Tryz.ntmps158;have q4:=x0.k 4;go_upto_region 2 with fail;clear q4;generalize w.alloc (.cells #[.int .i64 4,.int .i64 n,.slice a2 mod.length c2,.slice a3 name.length c3,.slice a4 ks.length c4] 119 (0,0))=w1 at *;generalize w.heap.size=gx at *;have q0:=x0.k 0;have hF:=(hT.below hb).ex 4 Q0;refine M919 ?_;intro z0 z1 z2 z3 z4;have HQ:=hH (exF 4) (kA 4) w1 (hT.below hb);rw[aS6]at HQ;unfold Fm.val at HQ;clear hF;simp only[Nat.reduceMul,Nat.reduceAdd,Nat.zero_mul,zJ2]at z0 z1 z2 z3 z4;go_wp2_with fail;refine HQ.mono ?_;rintro e w2 ⟨gw,rfl,wb,hgw',hq⟩;clear HQ q0 z0 z1 z2 z3 z4;refine M96 ?_;clear x0 hb hw hp;intro Bf x0 hb hw hp;clear hq hgw' hgl;simp only[tV,zH2,List.map_nil,zB1,zC3]at wb ⊢;obtain⟨q0,q1,q2,q3,q4⟩:=x0.c5;have d0:=wb.k 0;go_wp2_with fail;refine zH1 2 ?_;rw[zE2]
 have HQ:=fH [⟨#[73,78]⟩] w2.heap.size 1 1 (w2.alloc (.cells #[.string ⟨#[73,78]⟩] 9)) base g _ _ (hp.grown (aB w2 _ none)) rfl (Blk.new w2 9 [.string ⟨#[73,78]⟩]) Q8 (by rw[uR];simp only[zA1,zB1,zC3];omega) hg
 go_wp2_with fail;refine HQ.mono ?_;rintro e w3 ⟨rfl,⟨v',Ae⟩,hq⟩;clear q0 q1 q2 q3 q4 d0;replace hq:=(aG.of (aB w2 (.cells #[.string ⟨#[73,78]⟩] 9) none)).trans hq;clear HQ hp;refine M90 ?_;clear Ae x0 wb hb hw;intro hp x0 wb hb hw;clear hq;obtain⟨q0,q1,q2,q3,q4⟩:=x0.c5;have d0:=wb.k 0;rw[uR]at hp;go_wp2_with fail;rw[zE2];go_wp2_with fail
 have Bh:∃v',Pg w3 base g (l++prE (.mk 4 n mod name ks)) v':=⟨_,by rw[HE.out];simpa [zD0] using hp⟩
 exact U7
theorem aQx (n:Int)(mod name:List Int)(ks:List Ex):pE (.mk 5 n mod name ks):=by
 intro w0 w vs base g l v hT hr hb h0 hg hp hok Am;unfold Ex.fl at hr;obtain⟨y0,_,rfl,rfl,y1,_,rfl,rfl,y2,_,rfl,⟨a2,c2,rfl,h2,hc2,_⟩,y3,_,rfl,⟨a3,c3,rfl,h3,hc3,_⟩,y4,_,rfl,Be,rfl⟩:=hr;obtain⟨a4,c4,rfl,h4⟩:=Be.list;clear Be;refine M933 ?_;intro An
 have he:prE (.mk 5 n mod name ks)=([76,69,78,32])++(name++[32]):=by simp[prE,lE,jP]
 refine M947 ?_;clear Am he;intro Am HE hloc;have hnm:=gV hloc Q5;have hpn:=cE (g:=false) h3.2.1 hnm;clear hok;refine M97 ?_;intro hgl Al Ao;have x0:=Blk.new w 119 [.int .i64 5,.int .i64 n,.slice a2 mod.length c2,.slice a3 name.length c3,.slice a4 ks.length c4]
 have hw:aG base (some g) w (w.alloc (.cells #[.int .i64 5,.int .i64 n,.slice a2 mod.length c2,.slice a3 name.length c3,.slice a4 ks.length c4] 119 (0,0))):=aG.of (aB w _ none)
 replace hb:Below w0.heap.size w0 (w.alloc (.cells #[.int .i64 5,.int .i64 n,.slice a2 mod.length c2,.slice a3 name.length c3,.slice a4 ks.length c4] 119 (0,0))):=hb.alloc hb.size _
 replace hp:=hp.grown (aB w (.cells #[.int .i64 5,.int .i64 n,.slice a2 mod.length c2,.slice a3 name.length c3,.slice a4 ks.length c4] 119 (0,0)) none);go_enter Tryz.func158,Tryz.ntmps158;have q4:=x0.k 4;go_upto_region 2 with fail;clear q4;generalize w.alloc (.cells #[.int .i64 5,.int .i64 n,.slice a2 mod.length c2,.slice a3 name.length c3,.slice a4 ks.length c4] 119 (0,0))=w1 at *;generalize w.heap.size=gx at *;have q0:=x0.k 0;have hF:=(hT.below hb).ex 5 Q0;refine M919 ?_;intro z0 z1 z2 z3 z4;have HQ:=hH (exF 5) (kA 5) w1 (hT.below hb);rw[aS5]at HQ;unfold Fm.val at HQ;clear hF;simp only[Nat.reduceMul,Nat.reduceAdd,Nat.zero_mul,zJ2]at z0 z1 z2 z3 z4;go_wp2_with fail;refine HQ.mono ?_;rintro e w2 ⟨gw,rfl,wb,hgw',hq⟩;clear HQ q0 z0 z1 z2 z3 z4;refine M96 ?_;clear x0 hb hw hp;intro Bf x0 hb hw hp;clear hq hgw' hgl;simp only[tV,zH2,List.map_nil,zB1,zC3]at wb ⊢;obtain⟨q0,q1,q2,q3,q4⟩:=x0.c5;obtain⟨d0,d1⟩:=wb.c2;go_wp2_with fail;refine zH1 3 ?_;rw[zE2]
 have HQ:=fH [⟨#[76,69,78]⟩] w2.heap.size 1 1 (w2.alloc (.cells #[.string ⟨#[76,69,78]⟩] 9)) base g _ _ (hp.grown (aB w2 _ none)) rfl (Blk.new w2 9 [.string ⟨#[76,69,78]⟩]) Q8 (by rw[oE];simp only[zA1,zB1,zC3];omega) hg
 go_wp2_with fail;refine HQ.mono ?_;rintro e w3 ⟨rfl,⟨v',Ae⟩,hq⟩;clear q0 q1 q2 q3 q4 d0 d1;replace hq:=(aG.of (aB w2 (.cells #[.string ⟨#[76,69,78]⟩] 9) none)).trans hq;clear HQ hp;refine M90 ?_;clear Ae x0 wb hb hw;intro hp x0 wb hb hw;clear hq;obtain⟨q0,q1,q2,q3,q4⟩:=x0.c5;obtain⟨d0,d1⟩:=wb.c2;rw[oE]at hp;go_wp2_with fail;refine M953 ?_;intro kc HQ;go_wp2_with fail;refine HQ.mono ?_;rintro e w4 ⟨rfl,⟨v',Ae⟩,hq⟩;clear q0 q1 q2 q3 q4 d0 d1;replace hq:=(aG.of (aB w3 (.cells #[.string (strOfNums name)] 9) none)).trans hq;clear HQ hp;refine M90 ?_;clear Ae x0 wb hb hw;intro hp x0 wb hb hw;clear hq;obtain⟨q0,q1,q2,q3,q4⟩:=x0.c5;obtain⟨d0,d1⟩:=wb.c2;rw[hpn]at hp;clear kc;go_wp2_with fail;rw[zE2];go_wp2_with fail
 have Bh:∃v',Pg w4 base g (l++prE (.mk 5 n mod name ks)) v':=⟨_,by rw[HE.out];simpa [zD0] using hp⟩
 exact U7
theorem aQv (n:Int)(mod name:List Int)(ks:List Ex):pE (.mk 7 n mod name ks):=by
 intro w0 w vs base g l v hT hr hb h0 hg hp hok Am;unfold Ex.fl at hr;obtain⟨y0,_,rfl,rfl,y1,_,rfl,rfl,y2,_,rfl,⟨a2,c2,rfl,h2,hc2,_⟩,y3,_,rfl,⟨a3,c3,rfl,h3,hc3,_⟩,y4,_,rfl,Be,rfl⟩:=hr;obtain⟨a4,c4,rfl,h4⟩:=Be.list;clear Be;refine M933 ?_;intro An
 have he:prE (.mk 7 n mod name ks)=([64,32])++(name++[32]):=by simp[prE,lE,jP]
 refine M947 ?_;clear Am he;intro Am HE hloc;have hnm:=gV hloc Q5;have hpn:=cE (g:=false) h3.2.1 hnm;clear hok;refine M97 ?_;intro hgl Al Ao;have x0:=Blk.new w 119 [.int .i64 7,.int .i64 n,.slice a2 mod.length c2,.slice a3 name.length c3,.slice a4 ks.length c4]
 have hw:aG base (some g) w (w.alloc (.cells #[.int .i64 7,.int .i64 n,.slice a2 mod.length c2,.slice a3 name.length c3,.slice a4 ks.length c4] 119 (0,0))):=aG.of (aB w _ none)
 replace hb:Below w0.heap.size w0 (w.alloc (.cells #[.int .i64 7,.int .i64 n,.slice a2 mod.length c2,.slice a3 name.length c3,.slice a4 ks.length c4] 119 (0,0))):=hb.alloc hb.size _
 replace hp:=hp.grown (aB w (.cells #[.int .i64 7,.int .i64 n,.slice a2 mod.length c2,.slice a3 name.length c3,.slice a4 ks.length c4] 119 (0,0)) none);go_enter Tryz.func158,Tryz.ntmps158;have q4:=x0.k 4;go_upto_region 2 with fail;clear q4;generalize w.alloc (.cells #[.int .i64 7,.int .i64 n,.slice a2 mod.length c2,.slice a3 name.length c3,.slice a4 ks.length c4] 119 (0,0))=w1 at *;generalize w.heap.size=gx at *;have q0:=x0.k 0;have hF:=(hT.below hb).ex 7 Q0;refine M919 ?_;intro z0 z1 z2 z3 z4;have HQ:=hH (exF 7) (kA 7) w1 (hT.below hb);rw[aS3]at HQ;unfold Fm.val at HQ;clear hF;simp only[Nat.reduceMul,Nat.reduceAdd,Nat.zero_mul,zJ2]at z0 z1 z2 z3 z4;go_wp2_with fail;refine HQ.mono ?_;rintro e w2 ⟨gw,rfl,wb,hgw',hq⟩;clear HQ q0 z0 z1 z2 z3 z4;refine M96 ?_;clear x0 hb hw hp;intro Bf x0 hb hw hp;clear hq hgw' hgl;simp only[tV,zH2,List.map_nil,zB1,zC3]at wb ⊢;obtain⟨q0,q1,q2,q3,q4⟩:=x0.c5;obtain⟨d0,d1⟩:=wb.c2;go_wp2_with fail;refine zH1 3 ?_;rw[zE2]
 have HQ:=fH [⟨#[64]⟩] w2.heap.size 1 1 (w2.alloc (.cells #[.string ⟨#[64]⟩] 9)) base g _ _ (hp.grown (aB w2 _ none)) rfl (Blk.new w2 9 [.string ⟨#[64]⟩]) Q8 (by rw[aEg];simp only[zA1,zB1,zC3];omega) hg
 go_wp2_with fail;refine HQ.mono ?_;rintro e w3 ⟨rfl,⟨v',Ae⟩,hq⟩;clear q0 q1 q2 q3 q4 d0 d1;replace hq:=(aG.of (aB w2 (.cells #[.string ⟨#[64]⟩] 9) none)).trans hq;clear HQ hp;refine M90 ?_;clear Ae x0 wb hb hw;intro hp x0 wb hb hw;clear hq;obtain⟨q0,q1,q2,q3,q4⟩:=x0.c5;obtain⟨d0,d1⟩:=wb.c2;rw[aEg]at hp;go_wp2_with fail;refine M953 ?_;intro kc HQ;go_wp2_with fail;refine HQ.mono ?_;rintro e w4 ⟨rfl,⟨v',Ae⟩,hq⟩;clear q0 q1 q2 q3 q4 d0 d1;replace hq:=(aG.of (aB w3 (.cells #[.string (strOfNums name)] 9) none)).trans hq;clear HQ hp;refine M90 ?_;clear Ae x0 wb hb hw;intro hp x0 wb hb hw;clear hq;obtain⟨q0,q1,q2,q3,q4⟩:=x0.c5;obtain⟨d0,d1⟩:=wb.c2;rw[hpn]at hp;clear kc;go_wp2_with fail;rw[zE2];go_wp2_with fail
 have Bh:∃v',Pg w4 base g (l++prE (.mk 7 n mod name ks)) v':=⟨_,by rw[HE.out];simpa [zD0] using hp⟩
 exact U7
end Go.Proofs.YtffphdacgblaoaaGreatDoor

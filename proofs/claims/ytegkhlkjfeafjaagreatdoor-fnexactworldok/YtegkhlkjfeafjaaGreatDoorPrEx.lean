import Derived.Test.YtegkhlkjfeafjaaGreatDoorPackN
namespace Go.Proofs.YtegkhlkjfeafjaaGreatDoor
set_option maxHeartbeats 4000000
open Go.RowKit
set_option linter.unusedVariables false
set_option linter.unusedSimpArgs false
set_option maxRecDepth 100000
theorem V12{p:Prop}(h:p:=by have:=hp.blk.lt;omega):p:=h
theorem V103{p:Prop}(h:p:=by simp only[zA1,zB1,zC3];omega):p:=h
theorem V24{p:Prop}(h:p:=by rw[As];omega):p:=h
theorem V106{p:Prop}(h:p:=by rw[hpn];simp only[zA1,zB1,zC3];omega):p:=h
theorem U10{p:Prop}(h:p:=by
 exact bodyPost_end (results_none rfl _ _ _) rfl ⟨rfl,Bq,hw⟩):p:=h
theorem U27{p:Prop}(h:p:=by
 have hl:=hv0.len
 rw[cE]at hl
 match us0,hl with
 | [a,b,c,d,e],_=>exact⟨a,b,c,d,e,rfl⟩):p:=h
theorem U152{p:Prop}(h:p:=by
 have hl:=hv1.len
 rw[cE]at hl
 match us1,hl with
 | [a,b,c,d,e],_=>exact⟨a,b,c,d,e,rfl⟩):p:=h
theorem M9180{p q:Prop}(k:q)(h:Kx q->p:=by
 intro kQ
 have hp:=Bs
 replace x0:=hq.blk x0 V7 An
 replace wb:=hq.blk wb V7 Aq
 replace hb:=hq.below hb h0 Bd
 replace hw:=hw.trans hq
 revert hw;revert hb;revert wb;revert x0;revert hp
 exact kQ.o):p:=h ⟨k⟩
theorem M912{p q:Prop}(k:q)(h:Kx q->p:=by
 intro kQ
 have Ba:w0.cell? ⟨b4,o4,none⟩=some u00:=by have:=Ah 0 _ rfl;simpa using this
 have Az:w0.cell? ⟨b4,o4+1,none⟩=some u01:=by have:=Ah 1 _ rfl;simpa using this
 have Ay:w0.cell? ⟨b4,o4+2,none⟩=some u02:=by have:=Ah 2 _ rfl;simpa using this
 have Ax:w0.cell? ⟨b4,o4+3,none⟩=some u03:=by have:=Ah 3 _ rfl;simpa using this
 have Aw:w0.cell? ⟨b4,o4+4,none⟩=some u04:=by have:=Ah 4 _ rfl;simpa using this
 revert Aw;revert Ax;revert Ay;revert Az;revert Ba
 exact kQ.o):p:=h ⟨k⟩
theorem M9184{p q:Prop}(k:q)(h:Kx q->p:=by
 intro kQ
 replace hb:=hq.below hb h0 Bd
 replace hw:=hw.trans hq
 obtain⟨q0,q1,q2,q3,q4⟩:=x0.c5
 revert q4;revert q3;revert q2;revert q1;revert q0;revert hw;revert hb
 exact kQ.o):p:=h ⟨k⟩
theorem M916{p q:Prop}(k:q)(h:Kx q->p:=by
 intro kQ
 have Aq:some gw ≠ some g:=by have:=hp.blk.lt;simp;omega
 replace x0:=x0.below (aA hq) x0.lt
 replace hb:=hb.trans ((aA hq).mono hb.size)
 replace hw:=hw.trans (aL.of hq)
 replace hp:=hp.grown hq
 revert hp;revert hw;revert hb;revert x0;revert Aq
 exact kQ.o):p:=h ⟨k⟩
theorem M915{p q:Prop}(k:q)(h:Kx q->p:=by
 intro kQ
 have hgl:=hp.blk.lt
 have An:some w.heap.size ≠ some g:=by simp;omega
 have Bd:∀k,some g=some k->w0.heap.size<=k:=by intro k e;cases e;omega
 revert Bd;revert An;revert hgl
 exact kQ.o):p:=h ⟨k⟩
theorem M9193{p q:Prop}(k:q)(h:Kx q->p:=by
 intro kQ
 rw[zE2]
 have HQ:=S0 w0 w3 [u00,u01,u02,u03,u04] base g _ _ hT hv0 hb h0 hg hp hk0 V103
 simp only[agg]at HQ
 have t0:=aB Ba hb
 have t1:=aB Az hb
 have t2:=aB Ay hb
 have t3:=aB Ax hb
 have t4:=aB Aw hb
 revert t4;revert t3;revert t2;revert t1;revert t0;revert HQ
 exact kQ.o):p:=h ⟨k⟩
theorem M962{p q:Prop}(k:q)(h:Kx q->p:=by
 intro kQ
 have As:(exs ks).length=ks.length:=by simp[aJ]
 rw[As]
 simp only[agg]
 revert As
 exact kQ.o):p:=h ⟨k⟩
theorem M9204{p q:Prop}(k:q)(h:Kx q->p:=by
 intro kQ
 rw[he]at Bb
 simp only[zA1,zB1,zC3]at Bb
 have HE:=hid he
 have hloc:=(cM hok).1
 revert hloc;revert HE;revert Bb
 exact kQ.o):p:=h ⟨k⟩
theorem M9214{p q:Prop}(k:q)(h:Kx q->p:=by
 intro kQ
 rw[zE2]
 have kc:=aT c3 (h3.below hb)
 have HQ:=eW [(strOfNums name)] w3.heap.size 1 1 (w3.alloc (.cells #[.string (strOfNums name)] 9)) base g _ _ (hp.grown (aC w3 _ none)) rfl (Blk.new w3 9 [.string (strOfNums name)]) V12 V106 hg
 revert HQ;revert kc
 exact kQ.o):p:=h ⟨k⟩
theorem M997{p q:Prop}(k:q)(h:Kx q->p:=by
 intro kQ
 have hc10:w0.cell? ⟨b4,o4+5,none⟩=some u10:=by have:=hcl1 0 _ rfl;simpa using this
 have hc11:w0.cell? ⟨b4,o4+5+1,none⟩=some u11:=by have:=hcl1 1 _ rfl;simpa using this
 have hc12:w0.cell? ⟨b4,o4+5+2,none⟩=some u12:=by have:=hcl1 2 _ rfl;simpa using this
 have hc13:w0.cell? ⟨b4,o4+5+3,none⟩=some u13:=by have:=hcl1 3 _ rfl;simpa using this
 have hc14:w0.cell? ⟨b4,o4+5+4,none⟩=some u14:=by have:=hcl1 4 _ rfl;simpa using this
 revert hc14;revert hc13;revert hc12;revert hc11;revert hc10
 exact kQ.o):p:=h ⟨k⟩
theorem M9217{p q:Prop}(k:q)(h:Kx q->p:=by
 intro kQ
 rw[zE2]
 have HQ:=S0 w0 w4 [u00,u01,u02,u03,u04] base g _ _ hT hv0 hb h0 hg hp hk0 V103
 simp only[agg]at HQ
 have t0:=aB Ba hb
 have t1:=aB Az hb
 have t2:=aB Ay hb
 have t3:=aB Ax hb
 have t4:=aB Aw hb
 revert t4;revert t3;revert t2;revert t1;revert t0;revert HQ
 exact kQ.o):p:=h ⟨k⟩
theorem M9246{p q:Prop}(k:q)(h:Kx q->p:=by
 intro kQ
 rw[zE2]
 have kc:=aT c3 (h3.below hb)
 have HQ:=eW [(strOfNums name)] w2.heap.size 1 1 (w2.alloc (.cells #[.string (strOfNums name)] 9)) base g _ _ (hp.grown (aC w2 _ none)) rfl (Blk.new w2 9 [.string (strOfNums name)]) V12 V106 hg
 revert HQ;revert kc
 exact kQ.o):p:=h ⟨k⟩
theorem M9248{p q:Prop}(k:q)(h:Kx q->p:=by
 intro kQ
 rw[zE2]
 have HQ:=eW [⟨#[93]⟩] w5.heap.size 1 1 (w5.alloc (.cells #[.string ⟨#[93]⟩] 9)) base g _ _ (hp.grown (aC w5 _ none)) rfl (Blk.new w5 9 [.string ⟨#[93]⟩]) V12 (by rw[aOt];simp only[zA1,zB1,zC3];omega) hg
 revert HQ
 exact kQ.o):p:=h ⟨k⟩
theorem M9249{p q:Prop}(k:q)(h:Kx q->p:=by
 intro kQ
 rw[zE2]
 have HQ:=eW [⟨#[91]⟩] w3.heap.size 1 1 (w3.alloc (.cells #[.string ⟨#[91]⟩] 9)) base g _ _ (hp.grown (aC w3 _ none)) rfl (Blk.new w3 9 [.string ⟨#[91]⟩]) V12 (by rw[sG];simp only[zA1,zB1,zC3];omega) hg
 revert HQ
 exact kQ.o):p:=h ⟨k⟩
def nX (x:Ex):Prop:=∀(w0 w:World) (vs:List Value) (base g:Nat) (l:List Int) (v:Value),kQ w0->aO w0 x.fl vs->Below w0.heap.size w0 w->w0.heap.size<=base->base<=g->Pg w base g l v->nQ x=true->l.length+(prE x).length<=1000000000 →
 Calls Tryz.prog 249 #[.pointer (some ⟨g,0,none⟩),agg vs] w fun e w'=>e=.returned (.tuple #[])/\(∃v',Pg w' base g (l++prE x) v')/\aL base (some g) w w'
def Six (n:Int):Prop:=n=0\/n=1\/n=2\/n=3\/n=4\/n=5
def opS (n:Int):ByteArray:=if n=0 then ⟨#[43]⟩ else if n=1 then ⟨#[45]⟩ else if n=2 then ⟨#[42]⟩ else if n=3 then ⟨#[47]⟩ else if n=4 then ⟨#[60]⟩ else ⟨#[61]⟩
theorem aBi {n:Int}(h:Six n):aR [opS n]=opI n++[32]:=by
 rcases h with rfl|rfl|rfl|rfl|rfl|rfl <;> simp[opS,opI,aKl,aKk,aF6,aKi,aKh,aKg]
theorem aJ3 {n:Int}(h:Six n)(w:World):(Instr.slice 9 (.string ⟨#[43,45,42,47,60,61]⟩) (some (.int .i64 n)) (some (.int .i64 (wrap64 (n+1)))) none).run Tryz.prog w=.ok (.string (opS n)) w:=by
 rcases h with rfl|rfl|rfl|rfl|rfl|rfl
 .
  rw[show wrap64 (0+1)=1 by unfold wrap64;omega];go_simp;rfl
 .
  rw[show wrap64 (1+1)=2 by unfold wrap64;omega];go_simp;rfl
 .
  rw[show wrap64 (2+1)=3 by unfold wrap64;omega];go_simp;rfl
 .
  rw[show wrap64 (3+1)=4 by unfold wrap64;omega];go_simp;rfl
 .
  rw[show wrap64 (4+1)=5 by unfold wrap64;omega];go_simp;rfl
 .
  rw[show wrap64 (5+1)=6 by unfold wrap64;omega];go_simp;rfl
theorem cM {k n:Int}{mod name:List Int}{ks:List Ex}(h:nQ (.mk k n mod name ks)=true):gE k n mod name ks.length=true/\dR ks=true:=by
 unfold nQ at h;simp only[zC0]at h;exact⟨h.1.1,h.2⟩
theorem fW {k n:Int}{mod name:List Int}{nk:Nat}(h:gE k n mod name nk=true)(hk:dK k=true):aK name false=true:=by
 unfold gE at h;simp only[zC0]at h;rw[hk]at h;exact h.1.2.2
theorem aL7 (n:Int)(mod name:List Int)(ks:List Ex):nX (.mk 0 n mod name ks):=by
 intro w0 w vs base g l v hT hr hb h0 hg hp hok Bb;unfold Ex.fl at hr;obtain⟨y0,_,rfl,rfl,y1,_,rfl,rfl,y2,_,rfl,⟨a2,c2,rfl,h2,hc2,_⟩,y3,_,rfl,⟨a3,c3,rfl,h3,hc3,_⟩,y4,_,rfl,Bl,rfl⟩:=hr;obtain⟨a4,c4,rfl,h4⟩:=Bl.list;clear Bl;refine M962 ?_;intro As
 have he:prE (.mk 0 n mod name ks)=(fI n++[32]):=by simp[prE,kC,iO]
 refine M9204 ?_;clear Bb he;intro Bb HE hloc
 have hnb:-2147483648<=n/\n<=2147483647:=by simp[gE,inB,eT,dB]at hloc;omega
 clear hok;refine M915 ?_;intro hgl An Bd;have x0:=Blk.new w 133 [.int .i64 0,.int .i64 n,.slice a2 mod.length c2,.slice a3 name.length c3,.slice a4 ks.length c4]
 have hw:aL base (some g) w (w.alloc (.cells #[.int .i64 0,.int .i64 n,.slice a2 mod.length c2,.slice a3 name.length c3,.slice a4 ks.length c4] 133 (0,0))):=aL.of (aC w _ none)
 replace hb:Below w0.heap.size w0 (w.alloc (.cells #[.int .i64 0,.int .i64 n,.slice a2 mod.length c2,.slice a3 name.length c3,.slice a4 ks.length c4] 133 (0,0))):=hb.alloc hb.size _
 replace hp:=hp.grown (aC w (.cells #[.int .i64 0,.int .i64 n,.slice a2 mod.length c2,.slice a3 name.length c3,.slice a4 ks.length c4] 133 (0,0)) none);go_enter Tryz.func249,Tryz.ntmps249;have q4:=x0.k 4;go_upto_region 2 with fail;clear q4;generalize w.alloc (.cells #[.int .i64 0,.int .i64 n,.slice a2 mod.length c2,.slice a3 name.length c3,.slice a4 ks.length c4] 133 (0,0))=w1 at *;generalize w.heap.size=gx at *;have q0:=x0.k 0;have hF:=(hT.below hb).ex 0 V6;refine M931 ?_;intro z0 z1 z2 z3 z4;have HQ:=fZ (exF 0) (iW 0) w1 (hT.below hb);rw[aNt]at HQ;unfold Fm.val at HQ;clear hF;simp only[Nat.reduceMul,Nat.reduceAdd,Nat.zero_mul,zK0]at z0 z1 z2 z3 z4;go_wp2_with fail;refine HQ.mono ?_;rintro e w2 ⟨gw,rfl,wb,hgw',hq⟩;clear HQ q0 z0 z1 z2 z3 z4;refine M916 ?_;clear x0 hb hw hp;intro Aq x0 hb hw hp;clear hq hgw' hgl;simp only[rP,zI0,List.map_nil,zB1,zC3]at wb ⊢;obtain⟨q0,q1,q2,q3,q4⟩:=x0.c5;have d0:=wb.k 0;go_wp2_with fail;refine zH2 2 ?_;rw[zE2];have HQ:=aIm n V6 V6 w2 (hT.below hb);go_wp2_with fail;refine HQ.mono ?_;rintro e w3 ⟨rfl,hq⟩;clear HQ;clear q0 q1 q2 q3 q4 d0;replace hp:=hp.grown hq
 replace hq:aL base (some g) w2 w3:=aL.of hq
 replace x0:=hq.blk x0 V7 An;replace wb:=hq.blk wb V7 Aq;refine M9184 ?_;clear hb hw hq;intro hb hw q0 q1 q2 q3 q4;have d0:=wb.k 0
 have HQ:=eW [⟨(Lib.itoa n).toArray⟩] w3.heap.size 1 1 (w3.alloc (.cells #[.string ⟨(Lib.itoa n).toArray⟩] 9)) base g _ _ (hp.grown (aC w3 _ none)) rfl (Blk.new w3 9 [.string ⟨(Lib.itoa n).toArray⟩]) V12 (by rw[gU];simp only[zA1,zB1,zC3];omega) hg
 go_wp2_with fail;refine HQ.mono ?_;rintro e w4 ⟨rfl,⟨v',Bs⟩,hq⟩;clear q0 q1 q2 q3 q4 d0;replace hq:=(aL.of (aC w3 (.cells #[.string ⟨(Lib.itoa n).toArray⟩] 9) none)).trans hq;clear HQ hp;refine M9180 ?_;clear Bs x0 wb hb hw;intro hp x0 wb hb hw;clear hq;obtain⟨q0,q1,q2,q3,q4⟩:=x0.c5;have d0:=wb.k 0;rw[gU]at hp;go_wp2_with fail;rw[zE2];go_wp2_with fail
 have Bq:∃v',Pg w4 base g (l++prE (.mk 0 n mod name ks)) v':=⟨_,by rw[HE.out];simpa [zD0] using hp⟩
 exact U10
theorem aL6 (n:Int)(mod name:List Int)(ks:List Ex):nX (.mk 1 n mod name ks):=by
 intro w0 w vs base g l v hT hr hb h0 hg hp hok Bb;unfold Ex.fl at hr;obtain⟨y0,_,rfl,rfl,y1,_,rfl,rfl,y2,_,rfl,⟨a2,c2,rfl,h2,hc2,_⟩,y3,_,rfl,⟨a3,c3,rfl,h3,hc3,_⟩,y4,_,rfl,Bl,rfl⟩:=hr;obtain⟨a4,c4,rfl,h4⟩:=Bl.list;clear Bl;refine M962 ?_;intro As
 have he:prE (.mk 1 n mod name ks)=(name++[32]):=by simp[prE,kC,iO]
 refine M9204 ?_;clear Bb he;intro Bb HE hloc;have hnm:=fW hloc V7;have hpn:=cD (g:=false) h3.2.1 hnm;clear hok;refine M915 ?_;intro hgl An Bd;have x0:=Blk.new w 133 [.int .i64 1,.int .i64 n,.slice a2 mod.length c2,.slice a3 name.length c3,.slice a4 ks.length c4]
 have hw:aL base (some g) w (w.alloc (.cells #[.int .i64 1,.int .i64 n,.slice a2 mod.length c2,.slice a3 name.length c3,.slice a4 ks.length c4] 133 (0,0))):=aL.of (aC w _ none)
 replace hb:Below w0.heap.size w0 (w.alloc (.cells #[.int .i64 1,.int .i64 n,.slice a2 mod.length c2,.slice a3 name.length c3,.slice a4 ks.length c4] 133 (0,0))):=hb.alloc hb.size _
 replace hp:=hp.grown (aC w (.cells #[.int .i64 1,.int .i64 n,.slice a2 mod.length c2,.slice a3 name.length c3,.slice a4 ks.length c4] 133 (0,0)) none);go_enter Tryz.func249,Tryz.ntmps249;have q4:=x0.k 4;go_upto_region 2 with fail;clear q4;generalize w.alloc (.cells #[.int .i64 1,.int .i64 n,.slice a2 mod.length c2,.slice a3 name.length c3,.slice a4 ks.length c4] 133 (0,0))=w1 at *;generalize w.heap.size=gx at *;have q0:=x0.k 0;have hF:=(hT.below hb).ex 1 V6;refine M931 ?_;intro z0 z1 z2 z3 z4;have HQ:=fZ (exF 1) (iW 1) w1 (hT.below hb);rw[aNs]at HQ;unfold Fm.val at HQ;clear hF;simp only[Nat.reduceMul,Nat.reduceAdd,Nat.zero_mul,zK0]at z0 z1 z2 z3 z4;go_wp2_with fail;refine HQ.mono ?_;rintro e w2 ⟨gw,rfl,wb,hgw',hq⟩;clear HQ q0 z0 z1 z2 z3 z4;refine M916 ?_;clear x0 hb hw hp;intro Aq x0 hb hw hp;clear hq hgw' hgl;simp only[rP,zI0,List.map_nil,zB1,zC3]at wb ⊢;obtain⟨q0,q1,q2,q3,q4⟩:=x0.c5;have d0:=wb.k 0;go_wp2_with fail;refine zH2 2 ?_;refine M9246 ?_;intro kc HQ;go_wp2_with fail;refine HQ.mono ?_;rintro e w3 ⟨rfl,⟨v',Bs⟩,hq⟩;clear q0 q1 q2 q3 q4 d0;replace hq:=(aL.of (aC w2 (.cells #[.string (strOfNums name)] 9) none)).trans hq;clear HQ hp;refine M9180 ?_;clear Bs x0 wb hb hw;intro hp x0 wb hb hw;clear hq;obtain⟨q0,q1,q2,q3,q4⟩:=x0.c5;have d0:=wb.k 0;rw[hpn]at hp;clear kc;go_wp2_with fail;rw[zE2];go_wp2_with fail
 have Bq:∃v',Pg w3 base g (l++prE (.mk 1 n mod name ks)) v':=⟨_,by rw[HE.out];simpa [zD0] using hp⟩
 exact U10
theorem aL5 (n:Int)(mod name:List Int)(e0:Ex)(S0:nX e0):nX (.mk 2 n mod name [e0]):=by
 intro w0 w vs base g l v hT hr hb h0 hg hp hok Bb;unfold Ex.fl at hr;obtain⟨y0,_,rfl,rfl,y1,_,rfl,rfl,y2,_,rfl,⟨a2,c2,rfl,h2,hc2,_⟩,y3,_,rfl,⟨a3,c3,rfl,h3,hc3,_⟩,y4,_,rfl,Bl,rfl⟩:=hr;obtain⟨a4,c4,rfl,h4⟩:=Bl.list;clear Bl
 have As:(exs [e0]).length=1:=by simp[aJ]
 rw[As];simp only[agg];obtain⟨b4,o4,rfl⟩:=h4.addr V24
 obtain⟨cc,rfl⟩:∃cc,c4=cc+1:=⟨c4-1,by have:=h4.cap;rw[As]at this;omega⟩
 obtain⟨us0,hv0,Ah⟩:=(h4.el (i:=0) rfl).vals
 obtain⟨u00,u01,u02,u03,u04,rfl⟩:∃a b c d e,us0=[a,b,c,d,e]:=by
  exact U27
 refine M912 ?_;intro Ba Az Ay Ax Aw;clear Ah;have hoks:=(cM hok).2;simp only[dR,zC0,and_true]at hoks;have hk0:=hoks
 have he:prE (.mk 2 n mod name [e0])=(name++[32])++([91,32])++(prE e0)++([93,32]):=by simp[prE,kC,iO]
 refine M9204 ?_;clear Bb he;intro Bb HE hloc;have hnm:=fW hloc V7;have hpn:=cD (g:=false) h3.2.1 hnm;clear hok;refine M915 ?_;intro hgl An Bd;have x0:=Blk.new w 133 [.int .i64 2,.int .i64 n,.slice a2 mod.length c2,.slice a3 name.length c3,.slice (some ⟨b4,o4,none⟩) 1 (cc+1)]
 have hw:aL base (some g) w (w.alloc (.cells #[.int .i64 2,.int .i64 n,.slice a2 mod.length c2,.slice a3 name.length c3,.slice (some ⟨b4,o4,none⟩) 1 (cc+1)] 133 (0,0))):=aL.of (aC w _ none)
 replace hb:Below w0.heap.size w0 (w.alloc (.cells #[.int .i64 2,.int .i64 n,.slice a2 mod.length c2,.slice a3 name.length c3,.slice (some ⟨b4,o4,none⟩) 1 (cc+1)] 133 (0,0))):=hb.alloc hb.size _
 replace hp:=hp.grown (aC w (.cells #[.int .i64 2,.int .i64 n,.slice a2 mod.length c2,.slice a3 name.length c3,.slice (some ⟨b4,o4,none⟩) 1 (cc+1)] 133 (0,0)) none);go_enter Tryz.func249,Tryz.ntmps249;have q4:=x0.k 4;go_upto_region 2 with fail;clear q4;generalize w.alloc (.cells #[.int .i64 2,.int .i64 n,.slice a2 mod.length c2,.slice a3 name.length c3,.slice (some ⟨b4,o4,none⟩) 1 (cc+1)] 133 (0,0))=w1 at *;generalize w.heap.size=gx at *;have q0:=x0.k 0;have hF:=(hT.below hb).ex 2 V6;refine M931 ?_;intro z0 z1 z2 z3 z4;have HQ:=fZ (exF 2) (iW 2) w1 (hT.below hb);rw[aNr]at HQ;unfold Fm.val at HQ;clear hF;simp only[Nat.reduceMul,Nat.reduceAdd,Nat.zero_mul,zK0]at z0 z1 z2 z3 z4;go_wp2_with fail;refine HQ.mono ?_;rintro e w2 ⟨gw,rfl,wb,hgw',hq⟩;clear HQ q0 z0 z1 z2 z3 z4;refine M916 ?_;clear x0 hb hw hp;intro Aq x0 hb hw hp;clear hq hgw' hgl;simp only[rP,zI0,List.map_nil,zB1,zC3]at wb ⊢;obtain⟨q0,q1,q2,q3,q4⟩:=x0.c5;obtain⟨d0,d1,d2,d3⟩:=wb.c4;go_wp2_with fail;refine zH2 5 ?_;refine M9246 ?_;intro kc HQ;go_wp2_with fail;refine HQ.mono ?_;rintro e w3 ⟨rfl,⟨v',Bs⟩,hq⟩;clear q0 q1 q2 q3 q4 d0 d1 d2 d3;replace hq:=(aL.of (aC w2 (.cells #[.string (strOfNums name)] 9) none)).trans hq;clear HQ hp;refine M9180 ?_;clear Bs x0 wb hb hw;intro hp x0 wb hb hw;clear hq;obtain⟨q0,q1,q2,q3,q4⟩:=x0.c5;obtain⟨d0,d1,d2,d3⟩:=wb.c4;rw[hpn]at hp;clear kc;go_wp2_with fail;refine M9249 ?_;intro HQ;go_wp2_with fail;refine HQ.mono ?_;rintro e w4 ⟨rfl,⟨v',Bs⟩,hq⟩;clear q0 q1 q2 q3 q4 d0 d1 d2 d3;replace hq:=(aL.of (aC w3 (.cells #[.string ⟨#[91]⟩] 9) none)).trans hq;clear HQ hp;refine M9180 ?_;clear Bs x0 wb hb hw;intro hp x0 wb hb hw;clear hq;obtain⟨q0,q1,q2,q3,q4⟩:=x0.c5;obtain⟨d0,d1,d2,d3⟩:=wb.c4;rw[sG]at hp;go_wp2_with fail;refine M9217 ?_;intro HQ t0 t1 t2 t3 t4;go_wp2_with fail;refine HQ.mono ?_;rintro e w5 ⟨rfl,⟨v',Bs⟩,hq⟩;clear t0 t1 t2 t3 t4;clear q0 q1 q2 q3 q4 d0 d1 d2 d3;clear HQ hp;refine M9180 ?_;clear Bs x0 wb hb hw;intro hp x0 wb hb hw;clear hq;obtain⟨q0,q1,q2,q3,q4⟩:=x0.c5;obtain⟨d0,d1,d2,d3⟩:=wb.c4
 rcases cc with _|cc
 all_goals
  go_wp2_with fail;refine M9248 ?_;intro HQ;go_wp2_with fail;refine HQ.mono ?_;rintro e w6 ⟨rfl,⟨v',Bs⟩,hq⟩;clear q0 q1 q2 q3 q4 d0 d1 d2 d3;replace hq:=(aL.of (aC w5 (.cells #[.string ⟨#[93]⟩] 9) none)).trans hq;clear HQ hp;refine M9180 ?_;clear Bs x0 wb hb hw;intro hp x0 wb hb hw;clear hq;obtain⟨q0,q1,q2,q3,q4⟩:=x0.c5;obtain⟨d0,d1,d2,d3⟩:=wb.c4;rw[aOt]at hp;go_wp2_with fail;rw[zE2];go_wp2_with fail
  have Bq:∃v',Pg w6 base g (l++prE (.mk 2 n mod name [e0])) v':=⟨_,by rw[HE.out];simpa [zD0] using hp⟩
  exact U10
theorem aL4 (n:Int)(hsix:Six n)(mod name:List Int)(e0:Ex)(S0:nX e0)(e1:Ex)(S1:nX e1):nX (.mk 3 n mod name [e0,e1]):=by
 intro w0 w vs base g l v hT hr hb h0 hg hp hok Bb;unfold Ex.fl at hr;obtain⟨y0,_,rfl,rfl,y1,_,rfl,rfl,y2,_,rfl,⟨a2,c2,rfl,h2,hc2,_⟩,y3,_,rfl,⟨a3,c3,rfl,h3,hc3,_⟩,y4,_,rfl,Bl,rfl⟩:=hr;obtain⟨a4,c4,rfl,h4⟩:=Bl.list;clear Bl
 have As:(exs [e0,e1]).length=2:=by simp[aJ]
 rw[As];simp only[agg];obtain⟨b4,o4,rfl⟩:=h4.addr V24
 obtain⟨cc,rfl⟩:∃cc,c4=cc+2:=⟨c4-2,by have:=h4.cap;rw[As]at this;omega⟩
 obtain⟨us0,hv0,Ah⟩:=(h4.el (i:=0) rfl).vals
 obtain⟨u00,u01,u02,u03,u04,rfl⟩:∃a b c d e,us0=[a,b,c,d,e]:=by
  exact U27
 refine M912 ?_;intro Ba Az Ay Ax Aw;clear Ah;obtain⟨us1,hv1,hcl1⟩:=(h4.el (i:=1) rfl).vals
 obtain⟨u10,u11,u12,u13,u14,rfl⟩:∃a b c d e,us1=[a,b,c,d,e]:=by
  exact U152
 refine M997 ?_;intro hc10 hc11 hc12 hc13 hc14;clear hcl1;have hoks:=(cM hok).2;simp only[dR,zC0,and_true]at hoks;have hk0:=hoks.1;have hk1:=hoks.2
 have he:prE (.mk 3 n mod name [e0,e1])=([40,32])++(prE e0)++(opI n++[32])++(prE e1)++([41,32]):=by simp[prE,kC,iO]
 refine M9204 ?_;clear Bb he;intro Bb HE hloc;clear hok;refine M915 ?_;intro hgl An Bd;have x0:=Blk.new w 133 [.int .i64 3,.int .i64 n,.slice a2 mod.length c2,.slice a3 name.length c3,.slice (some ⟨b4,o4,none⟩) 2 (cc+2)]
 have hw:aL base (some g) w (w.alloc (.cells #[.int .i64 3,.int .i64 n,.slice a2 mod.length c2,.slice a3 name.length c3,.slice (some ⟨b4,o4,none⟩) 2 (cc+2)] 133 (0,0))):=aL.of (aC w _ none)
 replace hb:Below w0.heap.size w0 (w.alloc (.cells #[.int .i64 3,.int .i64 n,.slice a2 mod.length c2,.slice a3 name.length c3,.slice (some ⟨b4,o4,none⟩) 2 (cc+2)] 133 (0,0))):=hb.alloc hb.size _
 replace hp:=hp.grown (aC w (.cells #[.int .i64 3,.int .i64 n,.slice a2 mod.length c2,.slice a3 name.length c3,.slice (some ⟨b4,o4,none⟩) 2 (cc+2)] 133 (0,0)) none);go_enter Tryz.func249,Tryz.ntmps249;have q4:=x0.k 4;go_upto_region 2 with fail;clear q4;generalize w.alloc (.cells #[.int .i64 3,.int .i64 n,.slice a2 mod.length c2,.slice a3 name.length c3,.slice (some ⟨b4,o4,none⟩) 2 (cc+2)] 133 (0,0))=w1 at *;generalize w.heap.size=gx at *;have q0:=x0.k 0;have hF:=(hT.below hb).ex 3 V6;refine M931 ?_;intro z0 z1 z2 z3 z4;have HQ:=fZ (exF 3) (iW 3) w1 (hT.below hb);rw[aNq]at HQ;unfold Fm.val at HQ;clear hF;simp only[Nat.reduceMul,Nat.reduceAdd,Nat.zero_mul,zK0]at z0 z1 z2 z3 z4;go_wp2_with fail;refine HQ.mono ?_;rintro e w2 ⟨gw,rfl,wb,hgw',hq⟩;clear HQ q0 z0 z1 z2 z3 z4;refine M916 ?_;clear x0 hb hw hp;intro Aq x0 hb hw hp;clear hq hgw' hgl;simp only[rP,zI0,List.map_nil,zB1,zC3]at wb ⊢;obtain⟨q0,q1,q2,q3,q4⟩:=x0.c5;obtain⟨d0,d1,d2,d3,d4⟩:=wb.c5;go_wp2_with fail;refine zH2 6 ?_;rw[zE2]
 have HQ:=eW [⟨#[40]⟩] w2.heap.size 1 1 (w2.alloc (.cells #[.string ⟨#[40]⟩] 9)) base g _ _ (hp.grown (aC w2 _ none)) rfl (Blk.new w2 9 [.string ⟨#[40]⟩]) V12 (by rw[pQ];simp only[zA1,zB1,zC3];omega) hg
 go_wp2_with fail;refine HQ.mono ?_;rintro e w3 ⟨rfl,⟨v',Bs⟩,hq⟩;clear q0 q1 q2 q3 q4 d0 d1 d2 d3 d4;replace hq:=(aL.of (aC w2 (.cells #[.string ⟨#[40]⟩] 9) none)).trans hq;clear HQ hp;refine M9180 ?_;clear Bs x0 wb hb hw;intro hp x0 wb hb hw;clear hq;obtain⟨q0,q1,q2,q3,q4⟩:=x0.c5;obtain⟨d0,d1,d2,d3,d4⟩:=wb.c5;rw[pQ]at hp;go_wp2_with fail;refine M9193 ?_;intro HQ t0 t1 t2 t3 t4;go_wp2_with fail;refine HQ.mono ?_;rintro e w4 ⟨rfl,⟨v',Bs⟩,hq⟩;clear t0 t1 t2 t3 t4;clear q0 q1 q2 q3 q4 d0 d1 d2 d3 d4;clear HQ hp;refine M9180 ?_;clear Bs x0 wb hb hw;intro hp x0 wb hb hw;clear hq;obtain⟨q0,q1,q2,q3,q4⟩:=x0.c5;obtain⟨d0,d1,d2,d3,d4⟩:=wb.c5;go_wp2_with fail;rw[zE2];have ksl:=aJ3 hsix w4
 have HQ:=eW [(opS n)] w4.heap.size 1 1 (w4.alloc (.cells #[.string (opS n)] 9)) base g _ _ (hp.grown (aC w4 _ none)) rfl (Blk.new w4 9 [.string (opS n)]) V12 (by rw[aBi hsix];simp only[zA1,zB1,zC3];omega) hg
 go_wp2_with fail;refine HQ.mono ?_;rintro e w5 ⟨rfl,⟨v',Bs⟩,hq⟩;clear q0 q1 q2 q3 q4 d0 d1 d2 d3 d4;replace hq:=(aL.of (aC w4 (.cells #[.string (opS n)] 9) none)).trans hq;clear HQ hp;refine M9180 ?_;clear Bs x0 wb hb hw;intro hp x0 wb hb hw;clear hq;obtain⟨q0,q1,q2,q3,q4⟩:=x0.c5;obtain⟨d0,d1,d2,d3,d4⟩:=wb.c5;clear ksl;rw[aBi hsix]at hp;go_wp2_with fail;rw[zE2];have HQ:=S1 w0 w5 [u10,u11,u12,u13,u14] base g _ _ hT hv1 hb h0 hg hp hk1 V103;simp only[agg]at HQ;have t0:=aB hc10 hb;have t1:=aB hc11 hb;have t2:=aB hc12 hb;have t3:=aB hc13 hb;have t4:=aB hc14 hb;go_wp2_with fail;refine HQ.mono ?_;rintro e w6 ⟨rfl,⟨v',Bs⟩,hq⟩;clear t0 t1 t2 t3 t4;clear q0 q1 q2 q3 q4 d0 d1 d2 d3 d4;clear HQ hp;refine M9180 ?_;clear Bs x0 wb hb hw;intro hp x0 wb hb hw;clear hq;obtain⟨q0,q1,q2,q3,q4⟩:=x0.c5;obtain⟨d0,d1,d2,d3,d4⟩:=wb.c5
 rcases cc with _|cc
 all_goals
  go_wp2_with fail;rw[zE2]
  have HQ:=eW [⟨#[41]⟩] w6.heap.size 1 1 (w6.alloc (.cells #[.string ⟨#[41]⟩] 9)) base g _ _ (hp.grown (aC w6 _ none)) rfl (Blk.new w6 9 [.string ⟨#[41]⟩]) V12 (by rw[pP];simp only[zA1,zB1,zC3];omega) hg
  go_wp2_with fail;refine HQ.mono ?_;rintro e w7 ⟨rfl,⟨v',Bs⟩,hq⟩;clear q0 q1 q2 q3 q4 d0 d1 d2 d3 d4;replace hq:=(aL.of (aC w6 (.cells #[.string ⟨#[41]⟩] 9) none)).trans hq;clear HQ hp;refine M9180 ?_;clear Bs x0 wb hb hw;intro hp x0 wb hb hw;clear hq;obtain⟨q0,q1,q2,q3,q4⟩:=x0.c5;obtain⟨d0,d1,d2,d3,d4⟩:=wb.c5;rw[pP]at hp;go_wp2_with fail;rw[zE2];go_wp2_with fail
  have Bq:∃v',Pg w7 base g (l++prE (.mk 3 n mod name [e0,e1])) v':=⟨_,by rw[HE.out];simpa [zD0] using hp⟩
  exact U10
theorem aL3 (n:Int)(mod name:List Int)(ks:List Ex):nX (.mk 4 n mod name ks):=by
 intro w0 w vs base g l v hT hr hb h0 hg hp hok Bb;unfold Ex.fl at hr;obtain⟨y0,_,rfl,rfl,y1,_,rfl,rfl,y2,_,rfl,⟨a2,c2,rfl,h2,hc2,_⟩,y3,_,rfl,⟨a3,c3,rfl,h3,hc3,_⟩,y4,_,rfl,Bl,rfl⟩:=hr;obtain⟨a4,c4,rfl,h4⟩:=Bl.list;clear Bl;refine M962 ?_;intro As
 have he:prE (.mk 4 n mod name ks)=([73,78,32]):=by simp[prE,kC,iO]
 refine M9204 ?_;clear Bb he;intro Bb HE hloc;clear hok;refine M915 ?_;intro hgl An Bd;have x0:=Blk.new w 133 [.int .i64 4,.int .i64 n,.slice a2 mod.length c2,.slice a3 name.length c3,.slice a4 ks.length c4]
 have hw:aL base (some g) w (w.alloc (.cells #[.int .i64 4,.int .i64 n,.slice a2 mod.length c2,.slice a3 name.length c3,.slice a4 ks.length c4] 133 (0,0))):=aL.of (aC w _ none)
 replace hb:Below w0.heap.size w0 (w.alloc (.cells #[.int .i64 4,.int .i64 n,.slice a2 mod.length c2,.slice a3 name.length c3,.slice a4 ks.length c4] 133 (0,0))):=hb.alloc hb.size _
 replace hp:=hp.grown (aC w (.cells #[.int .i64 4,.int .i64 n,.slice a2 mod.length c2,.slice a3 name.length c3,.slice a4 ks.length c4] 133 (0,0)) none);go_enter Tryz.func249,Tryz.ntmps249;have q4:=x0.k 4;go_upto_region 2 with fail;clear q4;generalize w.alloc (.cells #[.int .i64 4,.int .i64 n,.slice a2 mod.length c2,.slice a3 name.length c3,.slice a4 ks.length c4] 133 (0,0))=w1 at *;generalize w.heap.size=gx at *;have q0:=x0.k 0;have hF:=(hT.below hb).ex 4 V6;refine M931 ?_;intro z0 z1 z2 z3 z4;have HQ:=fZ (exF 4) (iW 4) w1 (hT.below hb);rw[aNp]at HQ;unfold Fm.val at HQ;clear hF;simp only[Nat.reduceMul,Nat.reduceAdd,Nat.zero_mul,zK0]at z0 z1 z2 z3 z4;go_wp2_with fail;refine HQ.mono ?_;rintro e w2 ⟨gw,rfl,wb,hgw',hq⟩;clear HQ q0 z0 z1 z2 z3 z4;refine M916 ?_;clear x0 hb hw hp;intro Aq x0 hb hw hp;clear hq hgw' hgl;simp only[rP,zI0,List.map_nil,zB1,zC3]at wb ⊢;obtain⟨q0,q1,q2,q3,q4⟩:=x0.c5;have d0:=wb.k 0;go_wp2_with fail;refine zH2 2 ?_;rw[zE2]
 have HQ:=eW [⟨#[73,78]⟩] w2.heap.size 1 1 (w2.alloc (.cells #[.string ⟨#[73,78]⟩] 9)) base g _ _ (hp.grown (aC w2 _ none)) rfl (Blk.new w2 9 [.string ⟨#[73,78]⟩]) V12 (by rw[sH];simp only[zA1,zB1,zC3];omega) hg
 go_wp2_with fail;refine HQ.mono ?_;rintro e w3 ⟨rfl,⟨v',Bs⟩,hq⟩;clear q0 q1 q2 q3 q4 d0;replace hq:=(aL.of (aC w2 (.cells #[.string ⟨#[73,78]⟩] 9) none)).trans hq;clear HQ hp;refine M9180 ?_;clear Bs x0 wb hb hw;intro hp x0 wb hb hw;clear hq;obtain⟨q0,q1,q2,q3,q4⟩:=x0.c5;have d0:=wb.k 0;rw[sH]at hp;go_wp2_with fail;rw[zE2];go_wp2_with fail
 have Bq:∃v',Pg w3 base g (l++prE (.mk 4 n mod name ks)) v':=⟨_,by rw[HE.out];simpa [zD0] using hp⟩
 exact U10
theorem aL2 (n:Int)(mod name:List Int)(ks:List Ex):nX (.mk 5 n mod name ks):=by
 intro w0 w vs base g l v hT hr hb h0 hg hp hok Bb;unfold Ex.fl at hr;obtain⟨y0,_,rfl,rfl,y1,_,rfl,rfl,y2,_,rfl,⟨a2,c2,rfl,h2,hc2,_⟩,y3,_,rfl,⟨a3,c3,rfl,h3,hc3,_⟩,y4,_,rfl,Bl,rfl⟩:=hr;obtain⟨a4,c4,rfl,h4⟩:=Bl.list;clear Bl;refine M962 ?_;intro As
 have he:prE (.mk 5 n mod name ks)=([76,69,78,32])++(name++[32]):=by simp[prE,kC,iO]
 refine M9204 ?_;clear Bb he;intro Bb HE hloc;have hnm:=fW hloc V7;have hpn:=cD (g:=false) h3.2.1 hnm;clear hok;refine M915 ?_;intro hgl An Bd;have x0:=Blk.new w 133 [.int .i64 5,.int .i64 n,.slice a2 mod.length c2,.slice a3 name.length c3,.slice a4 ks.length c4]
 have hw:aL base (some g) w (w.alloc (.cells #[.int .i64 5,.int .i64 n,.slice a2 mod.length c2,.slice a3 name.length c3,.slice a4 ks.length c4] 133 (0,0))):=aL.of (aC w _ none)
 replace hb:Below w0.heap.size w0 (w.alloc (.cells #[.int .i64 5,.int .i64 n,.slice a2 mod.length c2,.slice a3 name.length c3,.slice a4 ks.length c4] 133 (0,0))):=hb.alloc hb.size _
 replace hp:=hp.grown (aC w (.cells #[.int .i64 5,.int .i64 n,.slice a2 mod.length c2,.slice a3 name.length c3,.slice a4 ks.length c4] 133 (0,0)) none);go_enter Tryz.func249,Tryz.ntmps249;have q4:=x0.k 4;go_upto_region 2 with fail;clear q4;generalize w.alloc (.cells #[.int .i64 5,.int .i64 n,.slice a2 mod.length c2,.slice a3 name.length c3,.slice a4 ks.length c4] 133 (0,0))=w1 at *;generalize w.heap.size=gx at *;have q0:=x0.k 0;have hF:=(hT.below hb).ex 5 V6;refine M931 ?_;intro z0 z1 z2 z3 z4;have HQ:=fZ (exF 5) (iW 5) w1 (hT.below hb);rw[aNo]at HQ;unfold Fm.val at HQ;clear hF;simp only[Nat.reduceMul,Nat.reduceAdd,Nat.zero_mul,zK0]at z0 z1 z2 z3 z4;go_wp2_with fail;refine HQ.mono ?_;rintro e w2 ⟨gw,rfl,wb,hgw',hq⟩;clear HQ q0 z0 z1 z2 z3 z4;refine M916 ?_;clear x0 hb hw hp;intro Aq x0 hb hw hp;clear hq hgw' hgl;simp only[rP,zI0,List.map_nil,zB1,zC3]at wb ⊢;obtain⟨q0,q1,q2,q3,q4⟩:=x0.c5;obtain⟨d0,d1⟩:=wb.c2;go_wp2_with fail;refine zH2 3 ?_;rw[zE2]
 have HQ:=eW [⟨#[76,69,78]⟩] w2.heap.size 1 1 (w2.alloc (.cells #[.string ⟨#[76,69,78]⟩] 9)) base g _ _ (hp.grown (aC w2 _ none)) rfl (Blk.new w2 9 [.string ⟨#[76,69,78]⟩]) V12 (by rw[mW];simp only[zA1,zB1,zC3];omega) hg
 go_wp2_with fail;refine HQ.mono ?_;rintro e w3 ⟨rfl,⟨v',Bs⟩,hq⟩;clear q0 q1 q2 q3 q4 d0 d1;replace hq:=(aL.of (aC w2 (.cells #[.string ⟨#[76,69,78]⟩] 9) none)).trans hq;clear HQ hp;refine M9180 ?_;clear Bs x0 wb hb hw;intro hp x0 wb hb hw;clear hq;obtain⟨q0,q1,q2,q3,q4⟩:=x0.c5;obtain⟨d0,d1⟩:=wb.c2;rw[mW]at hp;go_wp2_with fail;refine M9214 ?_;intro kc HQ;go_wp2_with fail;refine HQ.mono ?_;rintro e w4 ⟨rfl,⟨v',Bs⟩,hq⟩;clear q0 q1 q2 q3 q4 d0 d1;replace hq:=(aL.of (aC w3 (.cells #[.string (strOfNums name)] 9) none)).trans hq;clear HQ hp;refine M9180 ?_;clear Bs x0 wb hb hw;intro hp x0 wb hb hw;clear hq;obtain⟨q0,q1,q2,q3,q4⟩:=x0.c5;obtain⟨d0,d1⟩:=wb.c2;rw[hpn]at hp;clear kc;go_wp2_with fail;rw[zE2];go_wp2_with fail
 have Bq:∃v',Pg w4 base g (l++prE (.mk 5 n mod name ks)) v':=⟨_,by rw[HE.out];simpa [zD0] using hp⟩
 exact U10
theorem aL0 (n:Int)(mod name:List Int)(ks:List Ex):nX (.mk 7 n mod name ks):=by
 intro w0 w vs base g l v hT hr hb h0 hg hp hok Bb;unfold Ex.fl at hr;obtain⟨y0,_,rfl,rfl,y1,_,rfl,rfl,y2,_,rfl,⟨a2,c2,rfl,h2,hc2,_⟩,y3,_,rfl,⟨a3,c3,rfl,h3,hc3,_⟩,y4,_,rfl,Bl,rfl⟩:=hr;obtain⟨a4,c4,rfl,h4⟩:=Bl.list;clear Bl;refine M962 ?_;intro As
 have he:prE (.mk 7 n mod name ks)=([64,32])++(name++[32]):=by simp[prE,kC,iO]
 refine M9204 ?_;clear Bb he;intro Bb HE hloc;have hnm:=fW hloc V7;have hpn:=cD (g:=false) h3.2.1 hnm;clear hok;refine M915 ?_;intro hgl An Bd;have x0:=Blk.new w 133 [.int .i64 7,.int .i64 n,.slice a2 mod.length c2,.slice a3 name.length c3,.slice a4 ks.length c4]
 have hw:aL base (some g) w (w.alloc (.cells #[.int .i64 7,.int .i64 n,.slice a2 mod.length c2,.slice a3 name.length c3,.slice a4 ks.length c4] 133 (0,0))):=aL.of (aC w _ none)
 replace hb:Below w0.heap.size w0 (w.alloc (.cells #[.int .i64 7,.int .i64 n,.slice a2 mod.length c2,.slice a3 name.length c3,.slice a4 ks.length c4] 133 (0,0))):=hb.alloc hb.size _
 replace hp:=hp.grown (aC w (.cells #[.int .i64 7,.int .i64 n,.slice a2 mod.length c2,.slice a3 name.length c3,.slice a4 ks.length c4] 133 (0,0)) none);go_enter Tryz.func249,Tryz.ntmps249;have q4:=x0.k 4;go_upto_region 2 with fail;clear q4;generalize w.alloc (.cells #[.int .i64 7,.int .i64 n,.slice a2 mod.length c2,.slice a3 name.length c3,.slice a4 ks.length c4] 133 (0,0))=w1 at *;generalize w.heap.size=gx at *;have q0:=x0.k 0;have hF:=(hT.below hb).ex 7 V6;refine M931 ?_;intro z0 z1 z2 z3 z4;have HQ:=fZ (exF 7) (iW 7) w1 (hT.below hb);rw[aNm]at HQ;unfold Fm.val at HQ;clear hF;simp only[Nat.reduceMul,Nat.reduceAdd,Nat.zero_mul,zK0]at z0 z1 z2 z3 z4;go_wp2_with fail;refine HQ.mono ?_;rintro e w2 ⟨gw,rfl,wb,hgw',hq⟩;clear HQ q0 z0 z1 z2 z3 z4;refine M916 ?_;clear x0 hb hw hp;intro Aq x0 hb hw hp;clear hq hgw' hgl;simp only[rP,zI0,List.map_nil,zB1,zC3]at wb ⊢;obtain⟨q0,q1,q2,q3,q4⟩:=x0.c5;obtain⟨d0,d1⟩:=wb.c2;go_wp2_with fail;refine zH2 3 ?_;rw[zE2]
 have HQ:=eW [⟨#[64]⟩] w2.heap.size 1 1 (w2.alloc (.cells #[.string ⟨#[64]⟩] 9)) base g _ _ (hp.grown (aC w2 _ none)) rfl (Blk.new w2 9 [.string ⟨#[64]⟩]) V12 (by rw[aBj];simp only[zA1,zB1,zC3];omega) hg
 go_wp2_with fail;refine HQ.mono ?_;rintro e w3 ⟨rfl,⟨v',Bs⟩,hq⟩;clear q0 q1 q2 q3 q4 d0 d1;replace hq:=(aL.of (aC w2 (.cells #[.string ⟨#[64]⟩] 9) none)).trans hq;clear HQ hp;refine M9180 ?_;clear Bs x0 wb hb hw;intro hp x0 wb hb hw;clear hq;obtain⟨q0,q1,q2,q3,q4⟩:=x0.c5;obtain⟨d0,d1⟩:=wb.c2;rw[aBj]at hp;go_wp2_with fail;refine M9214 ?_;intro kc HQ;go_wp2_with fail;refine HQ.mono ?_;rintro e w4 ⟨rfl,⟨v',Bs⟩,hq⟩;clear q0 q1 q2 q3 q4 d0 d1;replace hq:=(aL.of (aC w3 (.cells #[.string (strOfNums name)] 9) none)).trans hq;clear HQ hp;refine M9180 ?_;clear Bs x0 wb hb hw;intro hp x0 wb hb hw;clear hq;obtain⟨q0,q1,q2,q3,q4⟩:=x0.c5;obtain⟨d0,d1⟩:=wb.c2;rw[hpn]at hp;clear kc;go_wp2_with fail;rw[zE2];go_wp2_with fail
 have Bq:∃v',Pg w4 base g (l++prE (.mk 7 n mod name ks)) v':=⟨_,by rw[HE.out];simpa [zD0] using hp⟩
 exact U10
end Go.Proofs.YtegkhlkjfeafjaaGreatDoor

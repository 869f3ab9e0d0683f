import Derived.Test.YtnelibmaancmkaaGreatDoorPrCall
namespace Go.Proofs.YtnelibmaancmkaaGreatDoor
set_option maxHeartbeats 4000000
open Go.RowKit
set_option linter.unusedVariables false
set_option linter.unusedSimpArgs false
set_option maxRecDepth 100000
theorem V18{p:Prop}(h:p:=by rw[dP];simp only[List.length_append,List.length_cons,List.length_nil];omega):p:=h
theorem V62{p:Prop}(h:p:=by rw[lN];simp only[List.length_append,List.length_cons,List.length_nil];omega):p:=h
theorem V63{p:Prop}(h:p:=by rw[eM];simp only[List.length_append,List.length_cons,List.length_nil];omega):p:=h
def xF (x:St):Prop:=∀(w0 w:World) (vs:List Value) (base g:Nat) (l:List Int) (v:Value),kQ w0->aO w0 x.fl vs->Below w0.heap.size w0 w->w0.heap.size<=base->base<=g->Pg w base g l v->sM x=true->l.length+(prS x).length<=1000000000 →
 Calls Tryz.prog 236 #[.pointer (some ⟨g,0,none⟩),agg vs] w fun e w'=>e=.returned (.tuple #[])/\(∃v',Pg w' base g (l++prS x) v')/\aL base (some g) w w'
def jZ (b:List St):Prop:=∀(w0 w:World) (a:Option Addr) (c base g:Nat) (l:List Int) (v:Value),kQ w0->aS w0 a c 6 (sts b)->Below w0.heap.size w0 w->w0.heap.size<=base->base<=g->Pg w base g l v->fC b=true->l.length+(prB b).length<=1000000000 →
 Calls Tryz.prog 220 #[.pointer (some ⟨g,0,none⟩),.slice a b.length c] w fun e w'=>e=.returned (.tuple #[])/\(∃v',Pg w' base g (l++prB b) v')/\aL base (some g) w w'
theorem bG {k n:Int}{name:List Int}{ks:List Ex}{bs es:List St}(h:sM (.mk k n name ks bs es)=true):mI k n name ks bs.length es.length=true/\dR ks=true/\fC bs=true/\fC es=true:=by
 unfold sM at h;simp only[Bool.and_eq_true]at h;exact⟨h.1.1.1,h.1.1.2,h.1.2,h.2⟩
theorem lJ {k n:Int}{name:List Int}{ks:List Ex}{nb ne:Nat}(h:mI k n name ks nb ne=true)(hk:dH k=true):aK name false=true:=by
 unfold mI at h;simp only[Bool.and_eq_true]at h;rw[hk]at h;exact h.1.1.1.1.2.2
theorem lK {k n:Int}{name:List Int}{ks:List Ex}{nb ne:Nat}(h:mI k n name ks nb ne=true):(ks.length:Int)=bS k/\0<=k/\k<=7/\0<=n/\n<=dA k:=by
 unfold mI at h;simp only[Bool.and_eq_true]at h;have h1:=h.1.1.1.1.2.1.2;have h2:=h.1.1.1.1.1;have h3:=h.1.1.1.1.2.1.1
 simp[inB]at h1 h2 h3
 omega
theorem aLy (n:Int)(name:List Int)(e0:Ex)(S0:nX e0)(bs es:List St)(Sb:jZ bs)(Se:jZ es):xF (.mk 0 n name [e0] bs es):=by
 intro w0 w vs base g l v hT hr hb h0 hg hp hok Bb;unfold St.fl at hr;obtain⟨y0,_,rfl,rfl,y1,_,rfl,rfl,y2,_,rfl,⟨a2,c2,rfl,h2,hc2,_⟩,y3,_,rfl,h3',y4,_,rfl,Bl,y5,_,rfl,h5',rfl⟩:=hr;obtain⟨a3,c3,rfl,h3⟩:=h3'.list;obtain⟨a4,c4,rfl,h4⟩:=Bl.list;obtain⟨a5,c5,rfl,h5⟩:=h5'.list;clear h3' Bl h5'
 have As:(exs [e0]).length=1:=by simp[aJ]
 have hbl:(sts bs).length=bs.length:=by simp[aM]
 have hel:(sts es).length=es.length:=by simp[aM]
 rw[As,hbl,hel];simp only[agg];obtain⟨b4,o4,rfl⟩:=h3.addr V24
 obtain⟨cc,rfl⟩:∃cc,c3=cc+1:=⟨c3-1,by have:=h3.cap;rw[As]at this;omega⟩
 obtain⟨us0,hv0,Ah⟩:=(h3.el (i:=0) rfl).vals
 obtain⟨u00,u01,u02,u03,u04,rfl⟩:∃a b c d e,us0=[a,b,c,d,e]:=by
  exact U27
 have Ba:w0.cell? ⟨b4,o4,none⟩=some u00:=by have:=Ah 0 _ rfl;simpa using this
 have Az:w0.cell? ⟨b4,o4+1,none⟩=some u01:=by have:=Ah 1 _ rfl;simpa using this
 have Ay:w0.cell? ⟨b4,o4+2,none⟩=some u02:=by have:=Ah 2 _ rfl;simpa using this
 have Ax:w0.cell? ⟨b4,o4+3,none⟩=some u03:=by have:=Ah 3 _ rfl;simpa using this
 have Aw:w0.cell? ⟨b4,o4+4,none⟩=some u04:=by have:=Ah 4 _ rfl;simpa using this
 clear Ah;have hoks:=(bG hok).2.1;simp only[dR,Bool.and_eq_true,and_true]at hoks;have hk0:=hoks
 have he:prS (.mk 0 n name [e0] bs es)=(name++[32])++([58,61,32])++(prE e0)++([59,10]):=by simp[prS,kC,fK]
 rw[he]at Bb;simp only[List.length_append,List.length_cons,List.length_nil]at Bb
 have HE:Hid (prS (.mk 0 n name [e0] bs es)=(name++[32])++([58,61,32])++(prE e0)++([59,10])):=he
 clear he;have hloc:=(bG hok).1
 skip
 have hnm:=lJ hloc V7;have hpn:=cD (g:=false) h2.2.1 hnm;have hokb:=(bG hok).2.2.1;have hoke:=(bG hok).2.2.2;clear hok;have hgl:=hp.blk.lt
 have An:some w.heap.size ≠ some g:=by simp;omega
 have Bd:∀k,some g=some k->w0.heap.size<=k:=by intro k e;cases e;omega
 have x0:=Blk.new w 131 [.int .i64 0,.int .i64 n,.slice a2 name.length c2,.slice (some ⟨b4,o4,none⟩) 1 (cc+1),.slice a4 bs.length c4,.slice a5 es.length c5]
 have hw:aL base (some g) w (w.alloc (.cells #[.int .i64 0,.int .i64 n,.slice a2 name.length c2,.slice (some ⟨b4,o4,none⟩) 1 (cc+1),.slice a4 bs.length c4,.slice a5 es.length c5] 131 (0,0))):=aL.of (aC w _ none)
 replace hb:Below w0.heap.size w0 (w.alloc (.cells #[.int .i64 0,.int .i64 n,.slice a2 name.length c2,.slice (some ⟨b4,o4,none⟩) 1 (cc+1),.slice a4 bs.length c4,.slice a5 es.length c5] 131 (0,0))):=hb.alloc hb.size _
 replace hp:=hp.grown (aC w (.cells #[.int .i64 0,.int .i64 n,.slice a2 name.length c2,.slice (some ⟨b4,o4,none⟩) 1 (cc+1),.slice a4 bs.length c4,.slice a5 es.length c5] 131 (0,0)) none);go_enter Tryz.func236,Tryz.ntmps236;have q3:=x0.cell (i:=3) rfl;go_upto_region 2 with fail;clear q3;generalize w.alloc (.cells #[.int .i64 0,.int .i64 n,.slice a2 name.length c2,.slice (some ⟨b4,o4,none⟩) 1 (cc+1),.slice a4 bs.length c4,.slice a5 es.length c5] 131 (0,0))=w1 at *;generalize w.heap.size=gx at *;have q0:=x0.cell (i:=0) rfl;have hF:=(hT.below hb).st 0 V6;have z0:=hF.c0;have z1:=hF.c1;have z2:=hF.c2;have z3:=hF.c3;have z4:=hF.c4;have HQ:=fZ (stF 0) (iQ 0) w1 (hT.below hb);rw[aNg]at HQ;unfold Fm.val at HQ;clear hF;simp only[Nat.reduceMul,Nat.reduceAdd,Nat.zero_mul,Nat.zero_add]at z0 z1 z2 z3 z4;go_wp2_with fail;refine HQ.mono ?_;rintro e w2 ⟨gw,rfl,wb,hgw',hq⟩;clear HQ q0 z0 z1 z2 z3 z4
 have Aq:some gw ≠ some g:=by have:=hp.blk.lt;simp;omega
 replace x0:=x0.below (aA hq) x0.lt;replace hb:=hb.trans ((aA hq).mono hb.size);replace hw:=hw.trans (aL.of hq);replace hp:=hp.grown hq;clear hq hgw' hgl;simp only[rP,List.map_cons,List.map_nil,List.length_cons,List.length_nil]at wb ⊢;obtain⟨q0,q1,q2,q3,q4,q5⟩:=x0.c6;obtain⟨d0,d1,d2,d3⟩:=wb.c4;go_wp2_with fail;refine wp_loop_rounds 5 ?_;rw[rounds_succ];have kc:=aT c2 (h2.below hb);have HQ:=eW [(strOfNums name)] w2.heap.size 1 1 (w2.alloc (.cells #[.string (strOfNums name)] 9)) base g _ _ (hp.grown (aC w2 _ none)) rfl (Blk.new w2 9 [.string (strOfNums name)]) V12 V21 hg;go_wp2_with fail;refine HQ.mono ?_;rintro e w3 ⟨rfl,⟨v',Ag⟩,hq⟩;clear q0 q1 q2 q3 q4 q5 d0 d1 d2 d3;replace hq:=(aL.of (aC w2 (.cells #[.string (strOfNums name)] 9) none)).trans hq;clear HQ hp;have hp:=Ag;clear Ag;replace x0:=hq.blk x0 V7 An;replace wb:=hq.blk wb V7 Aq;replace hb:=hq.below hb h0 Bd;replace hw:=hw.trans hq;clear hq;obtain⟨q0,q1,q2,q3,q4,q5⟩:=x0.c6;obtain⟨d0,d1,d2,d3⟩:=wb.c4;rw[hpn]at hp;clear kc;go_wp2_with fail;rw[rounds_succ];have HQ:=eW [⟨#[58,61]⟩] w3.heap.size 1 1 (w3.alloc (.cells #[.string ⟨#[58,61]⟩] 9)) base g _ _ (hp.grown (aC w3 _ none)) rfl (Blk.new w3 9 [.string ⟨#[58,61]⟩]) V12 V62 hg;go_wp2_with fail;refine HQ.mono ?_;rintro e w4 ⟨rfl,⟨v',Ag⟩,hq⟩;clear q0 q1 q2 q3 q4 q5 d0 d1 d2 d3;replace hq:=(aL.of (aC w3 (.cells #[.string ⟨#[58,61]⟩] 9) none)).trans hq;clear HQ hp;have hp:=Ag;clear Ag;replace x0:=hq.blk x0 V7 An;replace wb:=hq.blk wb V7 Aq;replace hb:=hq.below hb h0 Bd;replace hw:=hw.trans hq;clear hq;obtain⟨q0,q1,q2,q3,q4,q5⟩:=x0.c6;obtain⟨d0,d1,d2,d3⟩:=wb.c4;rw[lN]at hp;go_wp2_with fail;rw[rounds_succ];have HQ:=S0 w0 w4 [u00,u01,u02,u03,u04] base g _ _ hT hv0 hb h0 hg hp hk0 V10;simp only[agg]at HQ;have t0:=aB Ba hb;have t1:=aB Az hb;have t2:=aB Ay hb;have t3:=aB Ax hb;have t4:=aB Aw hb;go_wp2_with fail;refine HQ.mono ?_;rintro e w5 ⟨rfl,⟨v',Ag⟩,hq⟩;clear t0 t1 t2 t3 t4;clear q0 q1 q2 q3 q4 q5 d0 d1 d2 d3;clear HQ hp;have hp:=Ag;clear Ag;replace x0:=hq.blk x0 V7 An;replace wb:=hq.blk wb V7 Aq;replace hb:=hq.below hb h0 Bd;replace hw:=hw.trans hq;clear hq;obtain⟨q0,q1,q2,q3,q4,q5⟩:=x0.c6;obtain⟨d0,d1,d2,d3⟩:=wb.c4
 rcases cc with _|cc
 all_goals
  go_wp2_with fail;rw[rounds_succ];have HQ:=eW [⟨#[59]⟩] w5.heap.size 1 1 (w5.alloc (.cells #[.string ⟨#[59]⟩] 9)) base g _ _ (hp.grown (aC w5 _ none)) rfl (Blk.new w5 9 [.string ⟨#[59]⟩]) V12 V18 hg;go_wp2_with fail;refine HQ.mono ?_;rintro e w6 ⟨rfl,⟨v',Ag⟩,hq⟩;clear q0 q1 q2 q3 q4 q5 d0 d1 d2 d3;replace hq:=(aL.of (aC w5 (.cells #[.string ⟨#[59]⟩] 9) none)).trans hq;clear HQ hp;have hp:=Ag;clear Ag;replace x0:=hq.blk x0 V7 An;replace wb:=hq.blk wb V7 Aq;replace hb:=hq.below hb h0 Bd;replace hw:=hw.trans hq;clear hq;obtain⟨q0,q1,q2,q3,q4,q5⟩:=x0.c6;obtain⟨d0,d1,d2,d3⟩:=wb.c4;rw[dP]at hp;go_wp2_with fail;rw[rounds_succ];go_wp2_with fail
  have Bq:∃v',Pg w6 base g (l++prS (.mk 0 n name [e0] bs es)) v':=⟨_,by rw[HE.out];simpa [List.append_assoc] using hp⟩
  exact U10
theorem aLx (n:Int)(name:List Int)(e0:Ex)(S0:nX e0)(e1:Ex)(S1:nX e1)(bs es:List St)(Sb:jZ bs)(Se:jZ es):xF (.mk 1 n name [e0,e1] bs es):=by
 intro w0 w vs base g l v hT hr hb h0 hg hp hok Bb;unfold St.fl at hr;obtain⟨y0,_,rfl,rfl,y1,_,rfl,rfl,y2,_,rfl,⟨a2,c2,rfl,h2,hc2,_⟩,y3,_,rfl,h3',y4,_,rfl,Bl,y5,_,rfl,h5',rfl⟩:=hr;obtain⟨a3,c3,rfl,h3⟩:=h3'.list;obtain⟨a4,c4,rfl,h4⟩:=Bl.list;obtain⟨a5,c5,rfl,h5⟩:=h5'.list;clear h3' Bl h5'
 have As:(exs [e0,e1]).length=2:=by simp[aJ]
 have hbl:(sts bs).length=bs.length:=by simp[aM]
 have hel:(sts es).length=es.length:=by simp[aM]
 rw[As,hbl,hel];simp only[agg];obtain⟨b4,o4,rfl⟩:=h3.addr V24
 obtain⟨cc,rfl⟩:∃cc,c3=cc+2:=⟨c3-2,by have:=h3.cap;rw[As]at this;omega⟩
 obtain⟨us0,hv0,Ah⟩:=(h3.el (i:=0) rfl).vals
 obtain⟨u00,u01,u02,u03,u04,rfl⟩:∃a b c d e,us0=[a,b,c,d,e]:=by
  exact U27
 have Ba:w0.cell? ⟨b4,o4,none⟩=some u00:=by have:=Ah 0 _ rfl;simpa using this
 have Az:w0.cell? ⟨b4,o4+1,none⟩=some u01:=by have:=Ah 1 _ rfl;simpa using this
 have Ay:w0.cell? ⟨b4,o4+2,none⟩=some u02:=by have:=Ah 2 _ rfl;simpa using this
 have Ax:w0.cell? ⟨b4,o4+3,none⟩=some u03:=by have:=Ah 3 _ rfl;simpa using this
 have Aw:w0.cell? ⟨b4,o4+4,none⟩=some u04:=by have:=Ah 4 _ rfl;simpa using this
 clear Ah;obtain⟨us1,hv1,hcl1⟩:=(h3.el (i:=1) rfl).vals
 obtain⟨u10,u11,u12,u13,u14,rfl⟩:∃a b c d e,us1=[a,b,c,d,e]:=by
  exact U152
 have hc10:w0.cell? ⟨b4,o4+5,none⟩=some u10:=by have:=hcl1 0 _ rfl;simpa using this
 have hc11:w0.cell? ⟨b4,o4+5+1,none⟩=some u11:=by have:=hcl1 1 _ rfl;simpa using this
 have hc12:w0.cell? ⟨b4,o4+5+2,none⟩=some u12:=by have:=hcl1 2 _ rfl;simpa using this
 have hc13:w0.cell? ⟨b4,o4+5+3,none⟩=some u13:=by have:=hcl1 3 _ rfl;simpa using this
 have hc14:w0.cell? ⟨b4,o4+5+4,none⟩=some u14:=by have:=hcl1 4 _ rfl;simpa using this
 clear hcl1;have hoks:=(bG hok).2.1;simp only[dR,Bool.and_eq_true,and_true]at hoks;have hk0:=hoks.1;have hk1:=hoks.2
 have he:prS (.mk 1 n name [e0,e1] bs es)=(name++[32])++([91,32])++(prE e0)++([93,32])++([58,61,32])++(prE e1)++([59,10]):=by simp[prS,kC,fK]
 rw[he]at Bb;simp only[List.length_append,List.length_cons,List.length_nil]at Bb
 have HE:Hid (prS (.mk 1 n name [e0,e1] bs es)=(name++[32])++([91,32])++(prE e0)++([93,32])++([58,61,32])++(prE e1)++([59,10])):=he
 clear he;have hloc:=(bG hok).1
 skip
 have hnm:=lJ hloc V7;have hpn:=cD (g:=false) h2.2.1 hnm;have hokb:=(bG hok).2.2.1;have hoke:=(bG hok).2.2.2;clear hok;have hgl:=hp.blk.lt
 have An:some w.heap.size ≠ some g:=by simp;omega
 have Bd:∀k,some g=some k->w0.heap.size<=k:=by intro k e;cases e;omega
 have x0:=Blk.new w 131 [.int .i64 1,.int .i64 n,.slice a2 name.length c2,.slice (some ⟨b4,o4,none⟩) 2 (cc+2),.slice a4 bs.length c4,.slice a5 es.length c5]
 have hw:aL base (some g) w (w.alloc (.cells #[.int .i64 1,.int .i64 n,.slice a2 name.length c2,.slice (some ⟨b4,o4,none⟩) 2 (cc+2),.slice a4 bs.length c4,.slice a5 es.length c5] 131 (0,0))):=aL.of (aC w _ none)
 replace hb:Below w0.heap.size w0 (w.alloc (.cells #[.int .i64 1,.int .i64 n,.slice a2 name.length c2,.slice (some ⟨b4,o4,none⟩) 2 (cc+2),.slice a4 bs.length c4,.slice a5 es.length c5] 131 (0,0))):=hb.alloc hb.size _
 replace hp:=hp.grown (aC w (.cells #[.int .i64 1,.int .i64 n,.slice a2 name.length c2,.slice (some ⟨b4,o4,none⟩) 2 (cc+2),.slice a4 bs.length c4,.slice a5 es.length c5] 131 (0,0)) none);go_enter Tryz.func236,Tryz.ntmps236;have q3:=x0.cell (i:=3) rfl;go_upto_region 2 with fail;clear q3;generalize w.alloc (.cells #[.int .i64 1,.int .i64 n,.slice a2 name.length c2,.slice (some ⟨b4,o4,none⟩) 2 (cc+2),.slice a4 bs.length c4,.slice a5 es.length c5] 131 (0,0))=w1 at *;generalize w.heap.size=gx at *;have q0:=x0.cell (i:=0) rfl;have hF:=(hT.below hb).st 1 V6;have z0:=hF.c0;have z1:=hF.c1;have z2:=hF.c2;have z3:=hF.c3;have z4:=hF.c4;have HQ:=fZ (stF 1) (iQ 1) w1 (hT.below hb);rw[aNf]at HQ;unfold Fm.val at HQ;clear hF;simp only[Nat.reduceMul,Nat.reduceAdd,Nat.zero_mul,Nat.zero_add]at z0 z1 z2 z3 z4;go_wp2_with fail;refine HQ.mono ?_;rintro e w2 ⟨gw,rfl,wb,hgw',hq⟩;clear HQ q0 z0 z1 z2 z3 z4
 have Aq:some gw ≠ some g:=by have:=hp.blk.lt;simp;omega
 replace x0:=x0.below (aA hq) x0.lt;replace hb:=hb.trans ((aA hq).mono hb.size);replace hw:=hw.trans (aL.of hq);replace hp:=hp.grown hq;clear hq hgw' hgl;simp only[rP,List.map_cons,List.map_nil,List.length_cons,List.length_nil]at wb ⊢;obtain⟨q0,q1,q2,q3,q4,q5⟩:=x0.c6;have d0:=wb.cell (i:=0) rfl;have d1:=wb.cell (i:=1) rfl;have d2:=wb.cell (i:=2) rfl;have d3:=wb.cell (i:=3) rfl;have d4:=wb.cell (i:=4) rfl;have d5:=wb.cell (i:=5) rfl;have d6:=wb.cell (i:=6) rfl;go_wp2_with fail;refine wp_loop_rounds 8 ?_;rw[rounds_succ];have kc:=aT c2 (h2.below hb);have HQ:=eW [(strOfNums name)] w2.heap.size 1 1 (w2.alloc (.cells #[.string (strOfNums name)] 9)) base g _ _ (hp.grown (aC w2 _ none)) rfl (Blk.new w2 9 [.string (strOfNums name)]) V12 V21 hg;go_wp2_with fail;refine HQ.mono ?_;rintro e w3 ⟨rfl,⟨v',Ag⟩,hq⟩;clear q0 q1 q2 q3 q4 q5 d0 d1 d2 d3 d4 d5 d6;replace hq:=(aL.of (aC w2 (.cells #[.string (strOfNums name)] 9) none)).trans hq;clear HQ hp;have hp:=Ag;clear Ag;replace x0:=hq.blk x0 V7 An;replace wb:=hq.blk wb V7 Aq;replace hb:=hq.below hb h0 Bd;replace hw:=hw.trans hq;clear hq;obtain⟨q0,q1,q2,q3,q4,q5⟩:=x0.c6;have d0:=wb.cell (i:=0) rfl;have d1:=wb.cell (i:=1) rfl;have d2:=wb.cell (i:=2) rfl;have d3:=wb.cell (i:=3) rfl;have d4:=wb.cell (i:=4) rfl;have d5:=wb.cell (i:=5) rfl;have d6:=wb.cell (i:=6) rfl;rw[hpn]at hp;clear kc;go_wp2_with fail;rw[rounds_succ];have HQ:=eW [⟨#[91]⟩] w3.heap.size 1 1 (w3.alloc (.cells #[.string ⟨#[91]⟩] 9)) base g _ _ (hp.grown (aC w3 _ none)) rfl (Blk.new w3 9 [.string ⟨#[91]⟩]) V12 V59 hg;go_wp2_with fail;refine HQ.mono ?_;rintro e w4 ⟨rfl,⟨v',Ag⟩,hq⟩;clear q0 q1 q2 q3 q4 q5 d0 d1 d2 d3 d4 d5 d6;replace hq:=(aL.of (aC w3 (.cells #[.string ⟨#[91]⟩] 9) none)).trans hq;clear HQ hp;have hp:=Ag;clear Ag;replace x0:=hq.blk x0 V7 An;replace wb:=hq.blk wb V7 Aq;replace hb:=hq.below hb h0 Bd;replace hw:=hw.trans hq;clear hq;obtain⟨q0,q1,q2,q3,q4,q5⟩:=x0.c6;have d0:=wb.cell (i:=0) rfl;have d1:=wb.cell (i:=1) rfl;have d2:=wb.cell (i:=2) rfl;have d3:=wb.cell (i:=3) rfl;have d4:=wb.cell (i:=4) rfl;have d5:=wb.cell (i:=5) rfl;have d6:=wb.cell (i:=6) rfl;rw[sG]at hp;go_wp2_with fail;rw[rounds_succ];have HQ:=S0 w0 w4 [u00,u01,u02,u03,u04] base g _ _ hT hv0 hb h0 hg hp hk0 V10;simp only[agg]at HQ;have t0:=aB Ba hb;have t1:=aB Az hb;have t2:=aB Ay hb;have t3:=aB Ax hb;have t4:=aB Aw hb;go_wp2_with fail;refine HQ.mono ?_;rintro e w5 ⟨rfl,⟨v',Ag⟩,hq⟩;clear t0 t1 t2 t3 t4;clear q0 q1 q2 q3 q4 q5 d0 d1 d2 d3 d4 d5 d6;clear HQ hp;have hp:=Ag;clear Ag;replace x0:=hq.blk x0 V7 An;replace wb:=hq.blk wb V7 Aq;replace hb:=hq.below hb h0 Bd;replace hw:=hw.trans hq;clear hq;obtain⟨q0,q1,q2,q3,q4,q5⟩:=x0.c6;have d0:=wb.cell (i:=0) rfl;have d1:=wb.cell (i:=1) rfl;have d2:=wb.cell (i:=2) rfl;have d3:=wb.cell (i:=3) rfl;have d4:=wb.cell (i:=4) rfl;have d5:=wb.cell (i:=5) rfl;have d6:=wb.cell (i:=6) rfl;go_wp2_with fail;rw[rounds_succ];have HQ:=eW [⟨#[93]⟩] w5.heap.size 1 1 (w5.alloc (.cells #[.string ⟨#[93]⟩] 9)) base g _ _ (hp.grown (aC w5 _ none)) rfl (Blk.new w5 9 [.string ⟨#[93]⟩]) V12 V60 hg;go_wp2_with fail;refine HQ.mono ?_;rintro e w6 ⟨rfl,⟨v',Ag⟩,hq⟩;clear q0 q1 q2 q3 q4 q5 d0 d1 d2 d3 d4 d5 d6;replace hq:=(aL.of (aC w5 (.cells #[.string ⟨#[93]⟩] 9) none)).trans hq;clear HQ hp;have hp:=Ag;clear Ag;replace x0:=hq.blk x0 V7 An;replace wb:=hq.blk wb V7 Aq;replace hb:=hq.below hb h0 Bd;replace hw:=hw.trans hq;clear hq;obtain⟨q0,q1,q2,q3,q4,q5⟩:=x0.c6;have d0:=wb.cell (i:=0) rfl;have d1:=wb.cell (i:=1) rfl;have d2:=wb.cell (i:=2) rfl;have d3:=wb.cell (i:=3) rfl;have d4:=wb.cell (i:=4) rfl;have d5:=wb.cell (i:=5) rfl;have d6:=wb.cell (i:=6) rfl;rw[sF]at hp;go_wp2_with fail;rw[rounds_succ];have HQ:=eW [⟨#[58,61]⟩] w6.heap.size 1 1 (w6.alloc (.cells #[.string ⟨#[58,61]⟩] 9)) base g _ _ (hp.grown (aC w6 _ none)) rfl (Blk.new w6 9 [.string ⟨#[58,61]⟩]) V12 V62 hg;go_wp2_with fail;refine HQ.mono ?_;rintro e w7 ⟨rfl,⟨v',Ag⟩,hq⟩;clear q0 q1 q2 q3 q4 q5 d0 d1 d2 d3 d4 d5 d6;replace hq:=(aL.of (aC w6 (.cells #[.string ⟨#[58,61]⟩] 9) none)).trans hq;clear HQ hp;have hp:=Ag;clear Ag;replace x0:=hq.blk x0 V7 An;replace wb:=hq.blk wb V7 Aq;replace hb:=hq.below hb h0 Bd;replace hw:=hw.trans hq;clear hq;obtain⟨q0,q1,q2,q3,q4,q5⟩:=x0.c6;have d0:=wb.cell (i:=0) rfl;have d1:=wb.cell (i:=1) rfl;have d2:=wb.cell (i:=2) rfl;have d3:=wb.cell (i:=3) rfl;have d4:=wb.cell (i:=4) rfl;have d5:=wb.cell (i:=5) rfl;have d6:=wb.cell (i:=6) rfl;rw[lN]at hp;go_wp2_with fail;rw[rounds_succ];have HQ:=S1 w0 w7 [u10,u11,u12,u13,u14] base g _ _ hT hv1 hb h0 hg hp hk1 V10;simp only[agg]at HQ;have t0:=aB hc10 hb;have t1:=aB hc11 hb;have t2:=aB hc12 hb;have t3:=aB hc13 hb;have t4:=aB hc14 hb;go_wp2_with fail;refine HQ.mono ?_;rintro e w8 ⟨rfl,⟨v',Ag⟩,hq⟩;clear t0 t1 t2 t3 t4;clear q0 q1 q2 q3 q4 q5 d0 d1 d2 d3 d4 d5 d6;clear HQ hp;have hp:=Ag;clear Ag;replace x0:=hq.blk x0 V7 An;replace wb:=hq.blk wb V7 Aq;replace hb:=hq.below hb h0 Bd;replace hw:=hw.trans hq;clear hq;obtain⟨q0,q1,q2,q3,q4,q5⟩:=x0.c6;have d0:=wb.cell (i:=0) rfl;have d1:=wb.cell (i:=1) rfl;have d2:=wb.cell (i:=2) rfl;have d3:=wb.cell (i:=3) rfl;have d4:=wb.cell (i:=4) rfl;have d5:=wb.cell (i:=5) rfl;have d6:=wb.cell (i:=6) rfl
 rcases cc with _|cc
 all_goals
  go_wp2_with fail;rw[rounds_succ];have HQ:=eW [⟨#[59]⟩] w8.heap.size 1 1 (w8.alloc (.cells #[.string ⟨#[59]⟩] 9)) base g _ _ (hp.grown (aC w8 _ none)) rfl (Blk.new w8 9 [.string ⟨#[59]⟩]) V12 V18 hg;go_wp2_with fail;refine HQ.mono ?_;rintro e w9 ⟨rfl,⟨v',Ag⟩,hq⟩;clear q0 q1 q2 q3 q4 q5 d0 d1 d2 d3 d4 d5 d6;replace hq:=(aL.of (aC w8 (.cells #[.string ⟨#[59]⟩] 9) none)).trans hq;clear HQ hp;have hp:=Ag;clear Ag;replace x0:=hq.blk x0 V7 An;replace wb:=hq.blk wb V7 Aq;replace hb:=hq.below hb h0 Bd;replace hw:=hw.trans hq;clear hq;obtain⟨q0,q1,q2,q3,q4,q5⟩:=x0.c6;have d0:=wb.cell (i:=0) rfl;have d1:=wb.cell (i:=1) rfl;have d2:=wb.cell (i:=2) rfl;have d3:=wb.cell (i:=3) rfl;have d4:=wb.cell (i:=4) rfl;have d5:=wb.cell (i:=5) rfl;have d6:=wb.cell (i:=6) rfl;rw[dP]at hp;go_wp2_with fail;rw[rounds_succ];go_wp2_with fail
  have Bq:∃v',Pg w9 base g (l++prS (.mk 1 n name [e0,e1] bs es)) v':=⟨_,by rw[HE.out];simpa [List.append_assoc] using hp⟩
  exact U10
theorem aLw (n:Int)(name:List Int)(e0:Ex)(S0:nX e0)(bs es:List St)(Sb:jZ bs)(Se:jZ es):xF (.mk 2 n name [e0] bs es):=by
 intro w0 w vs base g l v hT hr hb h0 hg hp hok Bb;unfold St.fl at hr;obtain⟨y0,_,rfl,rfl,y1,_,rfl,rfl,y2,_,rfl,⟨a2,c2,rfl,h2,hc2,_⟩,y3,_,rfl,h3',y4,_,rfl,Bl,y5,_,rfl,h5',rfl⟩:=hr;obtain⟨a3,c3,rfl,h3⟩:=h3'.list;obtain⟨a4,c4,rfl,h4⟩:=Bl.list;obtain⟨a5,c5,rfl,h5⟩:=h5'.list;clear h3' Bl h5'
 have As:(exs [e0]).length=1:=by simp[aJ]
 have hbl:(sts bs).length=bs.length:=by simp[aM]
 have hel:(sts es).length=es.length:=by simp[aM]
 rw[As,hbl,hel];simp only[agg];obtain⟨b4,o4,rfl⟩:=h3.addr V24
 obtain⟨cc,rfl⟩:∃cc,c3=cc+1:=⟨c3-1,by have:=h3.cap;rw[As]at this;omega⟩
 obtain⟨us0,hv0,Ah⟩:=(h3.el (i:=0) rfl).vals
 obtain⟨u00,u01,u02,u03,u04,rfl⟩:∃a b c d e,us0=[a,b,c,d,e]:=by
  exact U27
 have Ba:w0.cell? ⟨b4,o4,none⟩=some u00:=by have:=Ah 0 _ rfl;simpa using this
 have Az:w0.cell? ⟨b4,o4+1,none⟩=some u01:=by have:=Ah 1 _ rfl;simpa using this
 have Ay:w0.cell? ⟨b4,o4+2,none⟩=some u02:=by have:=Ah 2 _ rfl;simpa using this
 have Ax:w0.cell? ⟨b4,o4+3,none⟩=some u03:=by have:=Ah 3 _ rfl;simpa using this
 have Aw:w0.cell? ⟨b4,o4+4,none⟩=some u04:=by have:=Ah 4 _ rfl;simpa using this
 clear Ah;have hoks:=(bG hok).2.1;simp only[dR,Bool.and_eq_true,and_true]at hoks;have hk0:=hoks
 have he:prS (.mk 2 n name [e0] bs es)=([73,70,32])++(prE e0)++([84,72,69,78,10])++(prB bs)++([69,76,83,69,10])++(prB es)++([69,78,68,32])++([59,10]):=by simp[prS,kC,fK]
 rw[he]at Bb;simp only[List.length_append,List.length_cons,List.length_nil]at Bb
 have HE:Hid (prS (.mk 2 n name [e0] bs es)=([73,70,32])++(prE e0)++([84,72,69,78,10])++(prB bs)++([69,76,83,69,10])++(prB es)++([69,78,68,32])++([59,10])):=he
 clear he;have hloc:=(bG hok).1
 skip
 skip
 skip
 have hokb:=(bG hok).2.2.1;have hoke:=(bG hok).2.2.2;clear hok;have hgl:=hp.blk.lt
 have An:some w.heap.size ≠ some g:=by simp;omega
 have Bd:∀k,some g=some k->w0.heap.size<=k:=by intro k e;cases e;omega
 have x0:=Blk.new w 131 [.int .i64 2,.int .i64 n,.slice a2 name.length c2,.slice (some ⟨b4,o4,none⟩) 1 (cc+1),.slice a4 bs.length c4,.slice a5 es.length c5]
 have hw:aL base (some g) w (w.alloc (.cells #[.int .i64 2,.int .i64 n,.slice a2 name.length c2,.slice (some ⟨b4,o4,none⟩) 1 (cc+1),.slice a4 bs.length c4,.slice a5 es.length c5] 131 (0,0))):=aL.of (aC w _ none)
 replace hb:Below w0.heap.size w0 (w.alloc (.cells #[.int .i64 2,.int .i64 n,.slice a2 name.length c2,.slice (some ⟨b4,o4,none⟩) 1 (cc+1),.slice a4 bs.length c4,.slice a5 es.length c5] 131 (0,0))):=hb.alloc hb.size _
 replace hp:=hp.grown (aC w (.cells #[.int .i64 2,.int .i64 n,.slice a2 name.length c2,.slice (some ⟨b4,o4,none⟩) 1 (cc+1),.slice a4 bs.length c4,.slice a5 es.length c5] 131 (0,0)) none);go_enter Tryz.func236,Tryz.ntmps236;have q3:=x0.cell (i:=3) rfl;go_upto_region 2 with fail;clear q3;generalize w.alloc (.cells #[.int .i64 2,.int .i64 n,.slice a2 name.length c2,.slice (some ⟨b4,o4,none⟩) 1 (cc+1),.slice a4 bs.length c4,.slice a5 es.length c5] 131 (0,0))=w1 at *;generalize w.heap.size=gx at *;have q0:=x0.cell (i:=0) rfl;have hF:=(hT.below hb).st 2 V6;have z0:=hF.c0;have z1:=hF.c1;have z2:=hF.c2;have z3:=hF.c3;have z4:=hF.c4;have HQ:=fZ (stF 2) (iQ 2) w1 (hT.below hb);rw[aNe]at HQ;unfold Fm.val at HQ;clear hF;simp only[Nat.reduceMul,Nat.reduceAdd,Nat.zero_mul,Nat.zero_add]at z0 z1 z2 z3 z4;go_wp2_with fail;refine HQ.mono ?_;rintro e w2 ⟨gw,rfl,wb,hgw',hq⟩;clear HQ q0 z0 z1 z2 z3 z4
 have Aq:some gw ≠ some g:=by have:=hp.blk.lt;simp;omega
 replace x0:=x0.below (aA hq) x0.lt;replace hb:=hb.trans ((aA hq).mono hb.size);replace hw:=hw.trans (aL.of hq);replace hp:=hp.grown hq;clear hq hgw' hgl;simp only[rP,List.map_cons,List.map_nil,List.length_cons,List.length_nil]at wb ⊢;obtain⟨q0,q1,q2,q3,q4,q5⟩:=x0.c6;have d0:=wb.cell (i:=0) rfl;have d1:=wb.cell (i:=1) rfl;have d2:=wb.cell (i:=2) rfl;have d3:=wb.cell (i:=3) rfl;have d4:=wb.cell (i:=4) rfl;have d5:=wb.cell (i:=5) rfl;have d6:=wb.cell (i:=6) rfl;have d7:=wb.cell (i:=7) rfl;go_wp2_with fail;refine wp_loop_rounds 9 ?_;rw[rounds_succ]
 have HQ:=eW [⟨#[73,70]⟩] w2.heap.size 1 1 (w2.alloc (.cells #[.string ⟨#[73,70]⟩] 9)) base g _ _ (hp.grown (aC w2 _ none)) rfl (Blk.new w2 9 [.string ⟨#[73,70]⟩]) V12 (by rw[sJ];simp only[List.length_append,List.length_cons,List.length_nil];omega) hg
 go_wp2_with fail;refine HQ.mono ?_;rintro e w3 ⟨rfl,⟨v',Ag⟩,hq⟩;clear q0 q1 q2 q3 q4 q5 d0 d1 d2 d3 d4 d5 d6 d7;replace hq:=(aL.of (aC w2 (.cells #[.string ⟨#[73,70]⟩] 9) none)).trans hq;clear HQ hp;have hp:=Ag;clear Ag;replace x0:=hq.blk x0 V7 An;replace wb:=hq.blk wb V7 Aq;replace hb:=hq.below hb h0 Bd;replace hw:=hw.trans hq;clear hq;obtain⟨q0,q1,q2,q3,q4,q5⟩:=x0.c6;have d0:=wb.cell (i:=0) rfl;have d1:=wb.cell (i:=1) rfl;have d2:=wb.cell (i:=2) rfl;have d3:=wb.cell (i:=3) rfl;have d4:=wb.cell (i:=4) rfl;have d5:=wb.cell (i:=5) rfl;have d6:=wb.cell (i:=6) rfl;have d7:=wb.cell (i:=7) rfl;rw[sJ]at hp;go_wp2_with fail;rw[rounds_succ];have HQ:=S0 w0 w3 [u00,u01,u02,u03,u04] base g _ _ hT hv0 hb h0 hg hp hk0 V10;simp only[agg]at HQ;have t0:=aB Ba hb;have t1:=aB Az hb;have t2:=aB Ay hb;have t3:=aB Ax hb;have t4:=aB Aw hb;go_wp2_with fail;refine HQ.mono ?_;rintro e w4 ⟨rfl,⟨v',Ag⟩,hq⟩;clear t0 t1 t2 t3 t4;clear q0 q1 q2 q3 q4 q5 d0 d1 d2 d3 d4 d5 d6 d7;clear HQ hp;have hp:=Ag;clear Ag;replace x0:=hq.blk x0 V7 An;replace wb:=hq.blk wb V7 Aq;replace hb:=hq.below hb h0 Bd;replace hw:=hw.trans hq;clear hq;obtain⟨q0,q1,q2,q3,q4,q5⟩:=x0.c6;have d0:=wb.cell (i:=0) rfl;have d1:=wb.cell (i:=1) rfl;have d2:=wb.cell (i:=2) rfl;have d3:=wb.cell (i:=3) rfl;have d4:=wb.cell (i:=4) rfl;have d5:=wb.cell (i:=5) rfl;have d6:=wb.cell (i:=6) rfl;have d7:=wb.cell (i:=7) rfl
 rcases cc with _|cc
 all_goals
  go_wp2_with fail;rw[rounds_succ]
  have HQ:=eW [⟨#[84,72,69,78]⟩] w4.heap.size 1 1 (w4.alloc (.cells #[.string ⟨#[84,72,69,78]⟩] 9)) base g _ _ (hp.grown (aC w4 _ none)) rfl (Blk.new w4 9 [.string ⟨#[84,72,69,78]⟩]) V12 (by rw[jK];simp only[List.length_append,List.length_cons,List.length_nil];omega) hg
  go_wp2_with fail;refine HQ.mono ?_;rintro e w5 ⟨rfl,⟨v',Ag⟩,hq⟩;clear q0 q1 q2 q3 q4 q5 d0 d1 d2 d3 d4 d5 d6 d7;replace hq:=(aL.of (aC w4 (.cells #[.string ⟨#[84,72,69,78]⟩] 9) none)).trans hq;clear HQ hp;have hp:=Ag;clear Ag;replace x0:=hq.blk x0 V7 An;replace wb:=hq.blk wb V7 Aq;replace hb:=hq.below hb h0 Bd;replace hw:=hw.trans hq;clear hq;obtain⟨q0,q1,q2,q3,q4,q5⟩:=x0.c6;have d0:=wb.cell (i:=0) rfl;have d1:=wb.cell (i:=1) rfl;have d2:=wb.cell (i:=2) rfl;have d3:=wb.cell (i:=3) rfl;have d4:=wb.cell (i:=4) rfl;have d5:=wb.cell (i:=5) rfl;have d6:=wb.cell (i:=6) rfl;have d7:=wb.cell (i:=7) rfl;rw[jK]at hp;go_wp2_with fail;rw[rounds_succ];have HQ:=Sb w0 w5 a4 c4 base g _ _ hT h4 hb h0 hg hp hokb V10;go_wp2_with fail;refine HQ.mono ?_;rintro e w6 ⟨rfl,⟨v',Ag⟩,hq⟩;clear q0 q1 q2 q3 q4 q5 d0 d1 d2 d3 d4 d5 d6 d7;clear HQ hp;have hp:=Ag;clear Ag;replace x0:=hq.blk x0 V7 An;replace wb:=hq.blk wb V7 Aq;replace hb:=hq.below hb h0 Bd;replace hw:=hw.trans hq;clear hq;obtain⟨q0,q1,q2,q3,q4,q5⟩:=x0.c6;have d0:=wb.cell (i:=0) rfl;have d1:=wb.cell (i:=1) rfl;have d2:=wb.cell (i:=2) rfl;have d3:=wb.cell (i:=3) rfl;have d4:=wb.cell (i:=4) rfl;have d5:=wb.cell (i:=5) rfl;have d6:=wb.cell (i:=6) rfl;have d7:=wb.cell (i:=7) rfl;go_wp2_with fail;rw[rounds_succ]
  have HQ:=eW [⟨#[69,76,83,69]⟩] w6.heap.size 1 1 (w6.alloc (.cells #[.string ⟨#[69,76,83,69]⟩] 9)) base g _ _ (hp.grown (aC w6 _ none)) rfl (Blk.new w6 9 [.string ⟨#[69,76,83,69]⟩]) V12 (by rw[jN];simp only[List.length_append,List.length_cons,List.length_nil];omega) hg
  go_wp2_with fail;refine HQ.mono ?_;rintro e w7 ⟨rfl,⟨v',Ag⟩,hq⟩;clear q0 q1 q2 q3 q4 q5 d0 d1 d2 d3 d4 d5 d6 d7;replace hq:=(aL.of (aC w6 (.cells #[.string ⟨#[69,76,83,69]⟩] 9) none)).trans hq;clear HQ hp;have hp:=Ag;clear Ag;replace x0:=hq.blk x0 V7 An;replace wb:=hq.blk wb V7 Aq;replace hb:=hq.below hb h0 Bd;replace hw:=hw.trans hq;clear hq;obtain⟨q0,q1,q2,q3,q4,q5⟩:=x0.c6;have d0:=wb.cell (i:=0) rfl;have d1:=wb.cell (i:=1) rfl;have d2:=wb.cell (i:=2) rfl;have d3:=wb.cell (i:=3) rfl;have d4:=wb.cell (i:=4) rfl;have d5:=wb.cell (i:=5) rfl;have d6:=wb.cell (i:=6) rfl;have d7:=wb.cell (i:=7) rfl;rw[jN]at hp;go_wp2_with fail;rw[rounds_succ];have HQ:=Se w0 w7 a5 c5 base g _ _ hT h5 hb h0 hg hp hoke V10;go_wp2_with fail;refine HQ.mono ?_;rintro e w8 ⟨rfl,⟨v',Ag⟩,hq⟩;clear q0 q1 q2 q3 q4 q5 d0 d1 d2 d3 d4 d5 d6 d7;clear HQ hp;have hp:=Ag;clear Ag;replace x0:=hq.blk x0 V7 An;replace wb:=hq.blk wb V7 Aq;replace hb:=hq.below hb h0 Bd;replace hw:=hw.trans hq;clear hq;obtain⟨q0,q1,q2,q3,q4,q5⟩:=x0.c6;have d0:=wb.cell (i:=0) rfl;have d1:=wb.cell (i:=1) rfl;have d2:=wb.cell (i:=2) rfl;have d3:=wb.cell (i:=3) rfl;have d4:=wb.cell (i:=4) rfl;have d5:=wb.cell (i:=5) rfl;have d6:=wb.cell (i:=6) rfl;have d7:=wb.cell (i:=7) rfl;go_wp2_with fail;rw[rounds_succ];have HQ:=eW [⟨#[69,78,68]⟩] w8.heap.size 1 1 (w8.alloc (.cells #[.string ⟨#[69,78,68]⟩] 9)) base g _ _ (hp.grown (aC w8 _ none)) rfl (Blk.new w8 9 [.string ⟨#[69,78,68]⟩]) V12 V63 hg;go_wp2_with fail;refine HQ.mono ?_;rintro e w9 ⟨rfl,⟨v',Ag⟩,hq⟩;clear q0 q1 q2 q3 q4 q5 d0 d1 d2 d3 d4 d5 d6 d7;replace hq:=(aL.of (aC w8 (.cells #[.string ⟨#[69,78,68]⟩] 9) none)).trans hq;clear HQ hp;have hp:=Ag;clear Ag;replace x0:=hq.blk x0 V7 An;replace wb:=hq.blk wb V7 Aq;replace hb:=hq.below hb h0 Bd;replace hw:=hw.trans hq;clear hq;obtain⟨q0,q1,q2,q3,q4,q5⟩:=x0.c6;have d0:=wb.cell (i:=0) rfl;have d1:=wb.cell (i:=1) rfl;have d2:=wb.cell (i:=2) rfl;have d3:=wb.cell (i:=3) rfl;have d4:=wb.cell (i:=4) rfl;have d5:=wb.cell (i:=5) rfl;have d6:=wb.cell (i:=6) rfl;have d7:=wb.cell (i:=7) rfl;rw[eM]at hp;go_wp2_with fail;rw[rounds_succ];have HQ:=eW [⟨#[59]⟩] w9.heap.size 1 1 (w9.alloc (.cells #[.string ⟨#[59]⟩] 9)) base g _ _ (hp.grown (aC w9 _ none)) rfl (Blk.new w9 9 [.string ⟨#[59]⟩]) V12 V18 hg;go_wp2_with fail;refine HQ.mono ?_;rintro e w10 ⟨rfl,⟨v',Ag⟩,hq⟩;clear q0 q1 q2 q3 q4 q5 d0 d1 d2 d3 d4 d5 d6 d7;replace hq:=(aL.of (aC w9 (.cells #[.string ⟨#[59]⟩] 9) none)).trans hq;clear HQ hp;have hp:=Ag;clear Ag;replace x0:=hq.blk x0 V7 An;replace wb:=hq.blk wb V7 Aq;replace hb:=hq.below hb h0 Bd;replace hw:=hw.trans hq;clear hq;obtain⟨q0,q1,q2,q3,q4,q5⟩:=x0.c6;have d0:=wb.cell (i:=0) rfl;have d1:=wb.cell (i:=1) rfl;have d2:=wb.cell (i:=2) rfl;have d3:=wb.cell (i:=3) rfl;have d4:=wb.cell (i:=4) rfl;have d5:=wb.cell (i:=5) rfl;have d6:=wb.cell (i:=6) rfl;have d7:=wb.cell (i:=7) rfl;rw[dP]at hp;go_wp2_with fail;rw[rounds_succ];go_wp2_with fail
  have Bq:∃v',Pg w10 base g (l++prS (.mk 2 n name [e0] bs es)) v':=⟨_,by rw[HE.out];simpa [List.append_assoc] using hp⟩
  exact U10
theorem aLv (n:Int)(name:List Int)(e0:Ex)(S0:nX e0)(bs es:List St)(Sb:jZ bs)(Se:jZ es):xF (.mk 3 n name [e0] bs es):=by
 intro w0 w vs base g l v hT hr hb h0 hg hp hok Bb;unfold St.fl at hr;obtain⟨y0,_,rfl,rfl,y1,_,rfl,rfl,y2,_,rfl,⟨a2,c2,rfl,h2,hc2,_⟩,y3,_,rfl,h3',y4,_,rfl,Bl,y5,_,rfl,h5',rfl⟩:=hr;obtain⟨a3,c3,rfl,h3⟩:=h3'.list;obtain⟨a4,c4,rfl,h4⟩:=Bl.list;obtain⟨a5,c5,rfl,h5⟩:=h5'.list;clear h3' Bl h5'
 have As:(exs [e0]).length=1:=by simp[aJ]
 have hbl:(sts bs).length=bs.length:=by simp[aM]
 have hel:(sts es).length=es.length:=by simp[aM]
 rw[As,hbl,hel];simp only[agg];obtain⟨b4,o4,rfl⟩:=h3.addr V24
 obtain⟨cc,rfl⟩:∃cc,c3=cc+1:=⟨c3-1,by have:=h3.cap;rw[As]at this;omega⟩
 obtain⟨us0,hv0,Ah⟩:=(h3.el (i:=0) rfl).vals
 obtain⟨u00,u01,u02,u03,u04,rfl⟩:∃a b c d e,us0=[a,b,c,d,e]:=by
  exact U27
 have Ba:w0.cell? ⟨b4,o4,none⟩=some u00:=by have:=Ah 0 _ rfl;simpa using this
 have Az:w0.cell? ⟨b4,o4+1,none⟩=some u01:=by have:=Ah 1 _ rfl;simpa using this
 have Ay:w0.cell? ⟨b4,o4+2,none⟩=some u02:=by have:=Ah 2 _ rfl;simpa using this
 have Ax:w0.cell? ⟨b4,o4+3,none⟩=some u03:=by have:=Ah 3 _ rfl;simpa using this
 have Aw:w0.cell? ⟨b4,o4+4,none⟩=some u04:=by have:=Ah 4 _ rfl;simpa using this
 clear Ah;have hoks:=(bG hok).2.1;simp only[dR,Bool.and_eq_true,and_true]at hoks;have hk0:=hoks
 have he:prS (.mk 3 n name [e0] bs es)=([87,72,73,76,69,32])++(prE e0)++([68,79,10])++(prB bs)++([69,78,68,32])++([59,10]):=by simp[prS,kC,fK]
 rw[he]at Bb;simp only[List.length_append,List.length_cons,List.length_nil]at Bb
 have HE:Hid (prS (.mk 3 n name [e0] bs es)=([87,72,73,76,69,32])++(prE e0)++([68,79,10])++(prB bs)++([69,78,68,32])++([59,10])):=he
 clear he;have hloc:=(bG hok).1
 skip
 skip
 skip
 have hokb:=(bG hok).2.2.1;have hoke:=(bG hok).2.2.2;clear hok;have hgl:=hp.blk.lt
 have An:some w.heap.size ≠ some g:=by simp;omega
 have Bd:∀k,some g=some k->w0.heap.size<=k:=by intro k e;cases e;omega
 have x0:=Blk.new w 131 [.int .i64 3,.int .i64 n,.slice a2 name.length c2,.slice (some ⟨b4,o4,none⟩) 1 (cc+1),.slice a4 bs.length c4,.slice a5 es.length c5]
 have hw:aL base (some g) w (w.alloc (.cells #[.int .i64 3,.int .i64 n,.slice a2 name.length c2,.slice (some ⟨b4,o4,none⟩) 1 (cc+1),.slice a4 bs.length c4,.slice a5 es.length c5] 131 (0,0))):=aL.of (aC w _ none)
 replace hb:Below w0.heap.size w0 (w.alloc (.cells #[.int .i64 3,.int .i64 n,.slice a2 name.length c2,.slice (some ⟨b4,o4,none⟩) 1 (cc+1),.slice a4 bs.length c4,.slice a5 es.length c5] 131 (0,0))):=hb.alloc hb.size _
 replace hp:=hp.grown (aC w (.cells #[.int .i64 3,.int .i64 n,.slice a2 name.length c2,.slice (some ⟨b4,o4,none⟩) 1 (cc+1),.slice a4 bs.length c4,.slice a5 es.length c5] 131 (0,0)) none);go_enter Tryz.func236,Tryz.ntmps236;have q3:=x0.cell (i:=3) rfl;go_upto_region 2 with fail;clear q3;generalize w.alloc (.cells #[.int .i64 3,.int .i64 n,.slice a2 name.length c2,.slice (some ⟨b4,o4,none⟩) 1 (cc+1),.slice a4 bs.length c4,.slice a5 es.length c5] 131 (0,0))=w1 at *;generalize w.heap.size=gx at *;have q0:=x0.cell (i:=0) rfl;have hF:=(hT.below hb).st 3 V6;have z0:=hF.c0;have z1:=hF.c1;have z2:=hF.c2;have z3:=hF.c3;have z4:=hF.c4;have HQ:=fZ (stF 3) (iQ 3) w1 (hT.below hb);rw[aNd]at HQ;unfold Fm.val at HQ;clear hF;simp only[Nat.reduceMul,Nat.reduceAdd,Nat.zero_mul,Nat.zero_add]at z0 z1 z2 z3 z4;go_wp2_with fail;refine HQ.mono ?_;rintro e w2 ⟨gw,rfl,wb,hgw',hq⟩;clear HQ q0 z0 z1 z2 z3 z4
 have Aq:some gw ≠ some g:=by have:=hp.blk.lt;simp;omega
 replace x0:=x0.below (aA hq) x0.lt;replace hb:=hb.trans ((aA hq).mono hb.size);replace hw:=hw.trans (aL.of hq);replace hp:=hp.grown hq;clear hq hgw' hgl;simp only[rP,List.map_cons,List.map_nil,List.length_cons,List.length_nil]at wb ⊢;obtain⟨q0,q1,q2,q3,q4,q5⟩:=x0.c6;obtain⟨d0,d1,d2,d3,d4,d5⟩:=wb.c6;go_wp2_with fail;refine wp_loop_rounds 7 ?_;rw[rounds_succ]
 have HQ:=eW [⟨#[87,72,73,76,69]⟩] w2.heap.size 1 1 (w2.alloc (.cells #[.string ⟨#[87,72,73,76,69]⟩] 9)) base g _ _ (hp.grown (aC w2 _ none)) rfl (Blk.new w2 9 [.string ⟨#[87,72,73,76,69]⟩]) V12 (by rw[iA];simp only[List.length_append,List.length_cons,List.length_nil];omega) hg
 go_wp2_with fail;refine HQ.mono ?_;rintro e w3 ⟨rfl,⟨v',Ag⟩,hq⟩;clear q0 q1 q2 q3 q4 q5 d0 d1 d2 d3 d4 d5;replace hq:=(aL.of (aC w2 (.cells #[.string ⟨#[87,72,73,76,69]⟩] 9) none)).trans hq;clear HQ hp;have hp:=Ag;clear Ag;replace x0:=hq.blk x0 V7 An;replace wb:=hq.blk wb V7 Aq;replace hb:=hq.below hb h0 Bd;replace hw:=hw.trans hq;clear hq;obtain⟨q0,q1,q2,q3,q4,q5⟩:=x0.c6;obtain⟨d0,d1,d2,d3,d4,d5⟩:=wb.c6;rw[iA]at hp;go_wp2_with fail;rw[rounds_succ];have HQ:=S0 w0 w3 [u00,u01,u02,u03,u04] base g _ _ hT hv0 hb h0 hg hp hk0 V10;simp only[agg]at HQ;have t0:=aB Ba hb;have t1:=aB Az hb;have t2:=aB Ay hb;have t3:=aB Ax hb;have t4:=aB Aw hb;go_wp2_with fail;refine HQ.mono ?_;rintro e w4 ⟨rfl,⟨v',Ag⟩,hq⟩;clear t0 t1 t2 t3 t4;clear q0 q1 q2 q3 q4 q5 d0 d1 d2 d3 d4 d5;clear HQ hp;have hp:=Ag;clear Ag;replace x0:=hq.blk x0 V7 An;replace wb:=hq.blk wb V7 Aq;replace hb:=hq.below hb h0 Bd;replace hw:=hw.trans hq;clear hq;obtain⟨q0,q1,q2,q3,q4,q5⟩:=x0.c6;obtain⟨d0,d1,d2,d3,d4,d5⟩:=wb.c6
 rcases cc with _|cc
 all_goals
  go_wp2_with fail;rw[rounds_succ]
  have HQ:=eW [⟨#[68,79]⟩] w4.heap.size 1 1 (w4.alloc (.cells #[.string ⟨#[68,79]⟩] 9)) base g _ _ (hp.grown (aC w4 _ none)) rfl (Blk.new w4 9 [.string ⟨#[68,79]⟩]) V12 (by rw[sK];simp only[List.length_append,List.length_cons,List.length_nil];omega) hg
  go_wp2_with fail;refine HQ.mono ?_;rintro e w5 ⟨rfl,⟨v',Ag⟩,hq⟩;clear q0 q1 q2 q3 q4 q5 d0 d1 d2 d3 d4 d5;replace hq:=(aL.of (aC w4 (.cells #[.string ⟨#[68,79]⟩] 9) none)).trans hq;clear HQ hp;have hp:=Ag;clear Ag;replace x0:=hq.blk x0 V7 An;replace wb:=hq.blk wb V7 Aq;replace hb:=hq.below hb h0 Bd;replace hw:=hw.trans hq;clear hq;obtain⟨q0,q1,q2,q3,q4,q5⟩:=x0.c6;obtain⟨d0,d1,d2,d3,d4,d5⟩:=wb.c6;rw[sK]at hp;go_wp2_with fail;rw[rounds_succ];have HQ:=Sb w0 w5 a4 c4 base g _ _ hT h4 hb h0 hg hp hokb V10;go_wp2_with fail;refine HQ.mono ?_;rintro e w6 ⟨rfl,⟨v',Ag⟩,hq⟩;clear q0 q1 q2 q3 q4 q5 d0 d1 d2 d3 d4 d5;clear HQ hp;have hp:=Ag;clear Ag;replace x0:=hq.blk x0 V7 An;replace wb:=hq.blk wb V7 Aq;replace hb:=hq.below hb h0 Bd;replace hw:=hw.trans hq;clear hq;obtain⟨q0,q1,q2,q3,q4,q5⟩:=x0.c6;obtain⟨d0,d1,d2,d3,d4,d5⟩:=wb.c6;go_wp2_with fail;rw[rounds_succ];have HQ:=eW [⟨#[69,78,68]⟩] w6.heap.size 1 1 (w6.alloc (.cells #[.string ⟨#[69,78,68]⟩] 9)) base g _ _ (hp.grown (aC w6 _ none)) rfl (Blk.new w6 9 [.string ⟨#[69,78,68]⟩]) V12 V63 hg;go_wp2_with fail;refine HQ.mono ?_;rintro e w7 ⟨rfl,⟨v',Ag⟩,hq⟩;clear q0 q1 q2 q3 q4 q5 d0 d1 d2 d3 d4 d5;replace hq:=(aL.of (aC w6 (.cells #[.string ⟨#[69,78,68]⟩] 9) none)).trans hq;clear HQ hp;have hp:=Ag;clear Ag;replace x0:=hq.blk x0 V7 An;replace wb:=hq.blk wb V7 Aq;replace hb:=hq.below hb h0 Bd;replace hw:=hw.trans hq;clear hq;obtain⟨q0,q1,q2,q3,q4,q5⟩:=x0.c6;obtain⟨d0,d1,d2,d3,d4,d5⟩:=wb.c6;rw[eM]at hp;go_wp2_with fail;rw[rounds_succ];have HQ:=eW [⟨#[59]⟩] w7.heap.size 1 1 (w7.alloc (.cells #[.string ⟨#[59]⟩] 9)) base g _ _ (hp.grown (aC w7 _ none)) rfl (Blk.new w7 9 [.string ⟨#[59]⟩]) V12 V18 hg;go_wp2_with fail;refine HQ.mono ?_;rintro e w8 ⟨rfl,⟨v',Ag⟩,hq⟩;clear q0 q1 q2 q3 q4 q5 d0 d1 d2 d3 d4 d5;replace hq:=(aL.of (aC w7 (.cells #[.string ⟨#[59]⟩] 9) none)).trans hq;clear HQ hp;have hp:=Ag;clear Ag;replace x0:=hq.blk x0 V7 An;replace wb:=hq.blk wb V7 Aq;replace hb:=hq.below hb h0 Bd;replace hw:=hw.trans hq;clear hq;obtain⟨q0,q1,q2,q3,q4,q5⟩:=x0.c6;obtain⟨d0,d1,d2,d3,d4,d5⟩:=wb.c6;rw[dP]at hp;go_wp2_with fail;rw[rounds_succ];go_wp2_with fail
  have Bq:∃v',Pg w8 base g (l++prS (.mk 3 n name [e0] bs es)) v':=⟨_,by rw[HE.out];simpa [List.append_assoc] using hp⟩
  exact U10
theorem aLu (n:Int)(name:List Int)(e0:Ex)(S0:nX e0)(bs es:List St)(Sb:jZ bs)(Se:jZ es):xF (.mk 4 n name [e0] bs es):=by
 intro w0 w vs base g l v hT hr hb h0 hg hp hok Bb;unfold St.fl at hr;obtain⟨y0,_,rfl,rfl,y1,_,rfl,rfl,y2,_,rfl,⟨a2,c2,rfl,h2,hc2,_⟩,y3,_,rfl,h3',y4,_,rfl,Bl,y5,_,rfl,h5',rfl⟩:=hr;obtain⟨a3,c3,rfl,h3⟩:=h3'.list;obtain⟨a4,c4,rfl,h4⟩:=Bl.list;obtain⟨a5,c5,rfl,h5⟩:=h5'.list;clear h3' Bl h5'
 have As:(exs [e0]).length=1:=by simp[aJ]
 have hbl:(sts bs).length=bs.length:=by simp[aM]
 have hel:(sts es).length=es.length:=by simp[aM]
 rw[As,hbl,hel];simp only[agg];obtain⟨b4,o4,rfl⟩:=h3.addr V24
 obtain⟨cc,rfl⟩:∃cc,c3=cc+1:=⟨c3-1,by have:=h3.cap;rw[As]at this;omega⟩
 obtain⟨us0,hv0,Ah⟩:=(h3.el (i:=0) rfl).vals
 obtain⟨u00,u01,u02,u03,u04,rfl⟩:∃a b c d e,us0=[a,b,c,d,e]:=by
  exact U27
 have Ba:w0.cell? ⟨b4,o4,none⟩=some u00:=by have:=Ah 0 _ rfl;simpa using this
 have Az:w0.cell? ⟨b4,o4+1,none⟩=some u01:=by have:=Ah 1 _ rfl;simpa using this
 have Ay:w0.cell? ⟨b4,o4+2,none⟩=some u02:=by have:=Ah 2 _ rfl;simpa using this
 have Ax:w0.cell? ⟨b4,o4+3,none⟩=some u03:=by have:=Ah 3 _ rfl;simpa using this
 have Aw:w0.cell? ⟨b4,o4+4,none⟩=some u04:=by have:=Ah 4 _ rfl;simpa using this
 clear Ah;have hoks:=(bG hok).2.1;simp only[dR,Bool.and_eq_true,and_true]at hoks;have hk0:=hoks
 have he:prS (.mk 4 n name [e0] bs es)=([82,69,84,85,82,78,32])++(prE e0)++([59,10]):=by simp[prS,kC,fK]
 rw[he]at Bb;simp only[List.length_append,List.length_cons,List.length_nil]at Bb
 have HE:Hid (prS (.mk 4 n name [e0] bs es)=([82,69,84,85,82,78,32])++(prE e0)++([59,10])):=he
 clear he;have hloc:=(bG hok).1
 skip
 skip
 skip
 have hokb:=(bG hok).2.2.1;have hoke:=(bG hok).2.2.2;clear hok;have hgl:=hp.blk.lt
 have An:some w.heap.size ≠ some g:=by simp;omega
 have Bd:∀k,some g=some k->w0.heap.size<=k:=by intro k e;cases e;omega
 have x0:=Blk.new w 131 [.int .i64 4,.int .i64 n,.slice a2 name.length c2,.slice (some ⟨b4,o4,none⟩) 1 (cc+1),.slice a4 bs.length c4,.slice a5 es.length c5]
 have hw:aL base (some g) w (w.alloc (.cells #[.int .i64 4,.int .i64 n,.slice a2 name.length c2,.slice (some ⟨b4,o4,none⟩) 1 (cc+1),.slice a4 bs.length c4,.slice a5 es.length c5] 131 (0,0))):=aL.of (aC w _ none)
 replace hb:Below w0.heap.size w0 (w.alloc (.cells #[.int .i64 4,.int .i64 n,.slice a2 name.length c2,.slice (some ⟨b4,o4,none⟩) 1 (cc+1),.slice a4 bs.length c4,.slice a5 es.length c5] 131 (0,0))):=hb.alloc hb.size _
 replace hp:=hp.grown (aC w (.cells #[.int .i64 4,.int .i64 n,.slice a2 name.length c2,.slice (some ⟨b4,o4,none⟩) 1 (cc+1),.slice a4 bs.length c4,.slice a5 es.length c5] 131 (0,0)) none);go_enter Tryz.func236,Tryz.ntmps236;have q3:=x0.cell (i:=3) rfl;go_upto_region 2 with fail;clear q3;generalize w.alloc (.cells #[.int .i64 4,.int .i64 n,.slice a2 name.length c2,.slice (some ⟨b4,o4,none⟩) 1 (cc+1),.slice a4 bs.length c4,.slice a5 es.length c5] 131 (0,0))=w1 at *;generalize w.heap.size=gx at *;have q0:=x0.cell (i:=0) rfl;have hF:=(hT.below hb).st 4 V6;have z0:=hF.c0;have z1:=hF.c1;have z2:=hF.c2;have z3:=hF.c3;have z4:=hF.c4;have HQ:=fZ (stF 4) (iQ 4) w1 (hT.below hb);rw[aNc]at HQ;unfold Fm.val at HQ;clear hF;simp only[Nat.reduceMul,Nat.reduceAdd,Nat.zero_mul,Nat.zero_add]at z0 z1 z2 z3 z4;go_wp2_with fail;refine HQ.mono ?_;rintro e w2 ⟨gw,rfl,wb,hgw',hq⟩;clear HQ q0 z0 z1 z2 z3 z4
 have Aq:some gw ≠ some g:=by have:=hp.blk.lt;simp;omega
 replace x0:=x0.below (aA hq) x0.lt;replace hb:=hb.trans ((aA hq).mono hb.size);replace hw:=hw.trans (aL.of hq);replace hp:=hp.grown hq;clear hq hgw' hgl;simp only[rP,List.map_cons,List.map_nil,List.length_cons,List.length_nil]at wb ⊢;obtain⟨q0,q1,q2,q3,q4,q5⟩:=x0.c6;obtain⟨d0,d1,d2⟩:=wb.c3;go_wp2_with fail;refine wp_loop_rounds 4 ?_;rw[rounds_succ]
 have HQ:=eW [⟨#[82,69,84,85,82,78]⟩] w2.heap.size 1 1 (w2.alloc (.cells #[.string ⟨#[82,69,84,85,82,78]⟩] 9)) base g _ _ (hp.grown (aC w2 _ none)) rfl (Blk.new w2 9 [.string ⟨#[82,69,84,85,82,78]⟩]) V12 (by rw[gA];simp only[List.length_append,List.length_cons,List.length_nil];omega) hg
 go_wp2_with fail;refine HQ.mono ?_;rintro e w3 ⟨rfl,⟨v',Ag⟩,hq⟩;clear q0 q1 q2 q3 q4 q5 d0 d1 d2;replace hq:=(aL.of (aC w2 (.cells #[.string ⟨#[82,69,84,85,82,78]⟩] 9) none)).trans hq;clear HQ hp;have hp:=Ag;clear Ag;replace x0:=hq.blk x0 V7 An;replace wb:=hq.blk wb V7 Aq;replace hb:=hq.below hb h0 Bd;replace hw:=hw.trans hq;clear hq;obtain⟨q0,q1,q2,q3,q4,q5⟩:=x0.c6;obtain⟨d0,d1,d2⟩:=wb.c3;rw[gA]at hp;go_wp2_with fail;rw[rounds_succ];have HQ:=S0 w0 w3 [u00,u01,u02,u03,u04] base g _ _ hT hv0 hb h0 hg hp hk0 V10;simp only[agg]at HQ;have t0:=aB Ba hb;have t1:=aB Az hb;have t2:=aB Ay hb;have t3:=aB Ax hb;have t4:=aB Aw hb;go_wp2_with fail;refine HQ.mono ?_;rintro e w4 ⟨rfl,⟨v',Ag⟩,hq⟩;clear t0 t1 t2 t3 t4;clear q0 q1 q2 q3 q4 q5 d0 d1 d2;clear HQ hp;have hp:=Ag;clear Ag;replace x0:=hq.blk x0 V7 An;replace wb:=hq.blk wb V7 Aq;replace hb:=hq.below hb h0 Bd;replace hw:=hw.trans hq;clear hq;obtain⟨q0,q1,q2,q3,q4,q5⟩:=x0.c6;obtain⟨d0,d1,d2⟩:=wb.c3
 rcases cc with _|cc
 all_goals
  go_wp2_with fail;rw[rounds_succ];have HQ:=eW [⟨#[59]⟩] w4.heap.size 1 1 (w4.alloc (.cells #[.string ⟨#[59]⟩] 9)) base g _ _ (hp.grown (aC w4 _ none)) rfl (Blk.new w4 9 [.string ⟨#[59]⟩]) V12 V18 hg;go_wp2_with fail;refine HQ.mono ?_;rintro e w5 ⟨rfl,⟨v',Ag⟩,hq⟩;clear q0 q1 q2 q3 q4 q5 d0 d1 d2;replace hq:=(aL.of (aC w4 (.cells #[.string ⟨#[59]⟩] 9) none)).trans hq;clear HQ hp;have hp:=Ag;clear Ag;replace x0:=hq.blk x0 V7 An;replace wb:=hq.blk wb V7 Aq;replace hb:=hq.below hb h0 Bd;replace hw:=hw.trans hq;clear hq;obtain⟨q0,q1,q2,q3,q4,q5⟩:=x0.c6;obtain⟨d0,d1,d2⟩:=wb.c3;rw[dP]at hp;go_wp2_with fail;rw[rounds_succ];go_wp2_with fail
  have Bq:∃v',Pg w5 base g (l++prS (.mk 4 n name [e0] bs es)) v':=⟨_,by rw[HE.out];simpa [List.append_assoc] using hp⟩
  exact U10
theorem aLt (n:Int)(name:List Int)(e0:Ex)(S0:nX e0)(bs es:List St)(Sb:jZ bs)(Se:jZ es):xF (.mk 5 n name [e0] bs es):=by
 intro w0 w vs base g l v hT hr hb h0 hg hp hok Bb;unfold St.fl at hr;obtain⟨y0,_,rfl,rfl,y1,_,rfl,rfl,y2,_,rfl,⟨a2,c2,rfl,h2,hc2,_⟩,y3,_,rfl,h3',y4,_,rfl,Bl,y5,_,rfl,h5',rfl⟩:=hr;obtain⟨a3,c3,rfl,h3⟩:=h3'.list;obtain⟨a4,c4,rfl,h4⟩:=Bl.list;obtain⟨a5,c5,rfl,h5⟩:=h5'.list;clear h3' Bl h5'
 have As:(exs [e0]).length=1:=by simp[aJ]
 have hbl:(sts bs).length=bs.length:=by simp[aM]
 have hel:(sts es).length=es.length:=by simp[aM]
 rw[As,hbl,hel];simp only[agg];obtain⟨b4,o4,rfl⟩:=h3.addr V24
 obtain⟨cc,rfl⟩:∃cc,c3=cc+1:=⟨c3-1,by have:=h3.cap;rw[As]at this;omega⟩
 obtain⟨us0,hv0,Ah⟩:=(h3.el (i:=0) rfl).vals
 obtain⟨u00,u01,u02,u03,u04,rfl⟩:∃a b c d e,us0=[a,b,c,d,e]:=by
  exact U27
 have Ba:w0.cell? ⟨b4,o4,none⟩=some u00:=by have:=Ah 0 _ rfl;simpa using this
 have Az:w0.cell? ⟨b4,o4+1,none⟩=some u01:=by have:=Ah 1 _ rfl;simpa using this
 have Ay:w0.cell? ⟨b4,o4+2,none⟩=some u02:=by have:=Ah 2 _ rfl;simpa using this
 have Ax:w0.cell? ⟨b4,o4+3,none⟩=some u03:=by have:=Ah 3 _ rfl;simpa using this
 have Aw:w0.cell? ⟨b4,o4+4,none⟩=some u04:=by have:=Ah 4 _ rfl;simpa using this
 clear Ah;have hoks:=(bG hok).2.1;simp only[dR,Bool.and_eq_true,and_true]at hoks;have hk0:=hoks
 have he:prS (.mk 5 n name [e0] bs es)=([79,85,84,32])++(prE e0)++([59,10]):=by simp[prS,kC,fK]
 rw[he]at Bb;simp only[List.length_append,List.length_cons,List.length_nil]at Bb
 have HE:Hid (prS (.mk 5 n name [e0] bs es)=([79,85,84,32])++(prE e0)++([59,10])):=he
 clear he;have hloc:=(bG hok).1
 skip
 skip
 skip
 have hokb:=(bG hok).2.2.1;have hoke:=(bG hok).2.2.2;clear hok;have hgl:=hp.blk.lt
 have An:some w.heap.size ≠ some g:=by simp;omega
 have Bd:∀k,some g=some k->w0.heap.size<=k:=by intro k e;cases e;omega
 have x0:=Blk.new w 131 [.int .i64 5,.int .i64 n,.slice a2 name.length c2,.slice (some ⟨b4,o4,none⟩) 1 (cc+1),.slice a4 bs.length c4,.slice a5 es.length c5]
 have hw:aL base (some g) w (w.alloc (.cells #[.int .i64 5,.int .i64 n,.slice a2 name.length c2,.slice (some ⟨b4,o4,none⟩) 1 (cc+1),.slice a4 bs.length c4,.slice a5 es.length c5] 131 (0,0))):=aL.of (aC w _ none)
 replace hb:Below w0.heap.size w0 (w.alloc (.cells #[.int .i64 5,.int .i64 n,.slice a2 name.length c2,.slice (some ⟨b4,o4,none⟩) 1 (cc+1),.slice a4 bs.length c4,.slice a5 es.length c5] 131 (0,0))):=hb.alloc hb.size _
 replace hp:=hp.grown (aC w (.cells #[.int .i64 5,.int .i64 n,.slice a2 name.length c2,.slice (some ⟨b4,o4,none⟩) 1 (cc+1),.slice a4 bs.length c4,.slice a5 es.length c5] 131 (0,0)) none);go_enter Tryz.func236,Tryz.ntmps236;have q3:=x0.cell (i:=3) rfl;go_upto_region 2 with fail;clear q3;generalize w.alloc (.cells #[.int .i64 5,.int .i64 n,.slice a2 name.length c2,.slice (some ⟨b4,o4,none⟩) 1 (cc+1),.slice a4 bs.length c4,.slice a5 es.length c5] 131 (0,0))=w1 at *;generalize w.heap.size=gx at *;have q0:=x0.cell (i:=0) rfl;have hF:=(hT.below hb).st 5 V6;have z0:=hF.c0;have z1:=hF.c1;have z2:=hF.c2;have z3:=hF.c3;have z4:=hF.c4;have HQ:=fZ (stF 5) (iQ 5) w1 (hT.below hb);rw[aNb]at HQ;unfold Fm.val at HQ;clear hF;simp only[Nat.reduceMul,Nat.reduceAdd,Nat.zero_mul,Nat.zero_add]at z0 z1 z2 z3 z4;go_wp2_with fail;refine HQ.mono ?_;rintro e w2 ⟨gw,rfl,wb,hgw',hq⟩;clear HQ q0 z0 z1 z2 z3 z4
 have Aq:some gw ≠ some g:=by have:=hp.blk.lt;simp;omega
 replace x0:=x0.below (aA hq) x0.lt;replace hb:=hb.trans ((aA hq).mono hb.size);replace hw:=hw.trans (aL.of hq);replace hp:=hp.grown hq;clear hq hgw' hgl;simp only[rP,List.map_cons,List.map_nil,List.length_cons,List.length_nil]at wb ⊢;obtain⟨q0,q1,q2,q3,q4,q5⟩:=x0.c6;obtain⟨d0,d1,d2⟩:=wb.c3;go_wp2_with fail;refine wp_loop_rounds 4 ?_;rw[rounds_succ]
 have HQ:=eW [⟨#[79,85,84]⟩] w2.heap.size 1 1 (w2.alloc (.cells #[.string ⟨#[79,85,84]⟩] 9)) base g _ _ (hp.grown (aC w2 _ none)) rfl (Blk.new w2 9 [.string ⟨#[79,85,84]⟩]) V12 (by rw[mV];simp only[List.length_append,List.length_cons,List.length_nil];omega) hg
 go_wp2_with fail;refine HQ.mono ?_;rintro e w3 ⟨rfl,⟨v',Ag⟩,hq⟩;clear q0 q1 q2 q3 q4 q5 d0 d1 d2;replace hq:=(aL.of (aC w2 (.cells #[.string ⟨#[79,85,84]⟩] 9) none)).trans hq;clear HQ hp;have hp:=Ag;clear Ag;replace x0:=hq.blk x0 V7 An;replace wb:=hq.blk wb V7 Aq;replace hb:=hq.below hb h0 Bd;replace hw:=hw.trans hq;clear hq;obtain⟨q0,q1,q2,q3,q4,q5⟩:=x0.c6;obtain⟨d0,d1,d2⟩:=wb.c3;rw[mV]at hp;go_wp2_with fail;rw[rounds_succ];have HQ:=S0 w0 w3 [u00,u01,u02,u03,u04] base g _ _ hT hv0 hb h0 hg hp hk0 V10;simp only[agg]at HQ;have t0:=aB Ba hb;have t1:=aB Az hb;have t2:=aB Ay hb;have t3:=aB Ax hb;have t4:=aB Aw hb;go_wp2_with fail;refine HQ.mono ?_;rintro e w4 ⟨rfl,⟨v',Ag⟩,hq⟩;clear t0 t1 t2 t3 t4;clear q0 q1 q2 q3 q4 q5 d0 d1 d2;clear HQ hp;have hp:=Ag;clear Ag;replace x0:=hq.blk x0 V7 An;replace wb:=hq.blk wb V7 Aq;replace hb:=hq.below hb h0 Bd;replace hw:=hw.trans hq;clear hq;obtain⟨q0,q1,q2,q3,q4,q5⟩:=x0.c6;obtain⟨d0,d1,d2⟩:=wb.c3
 rcases cc with _|cc
 all_goals
  go_wp2_with fail;rw[rounds_succ];have HQ:=eW [⟨#[59]⟩] w4.heap.size 1 1 (w4.alloc (.cells #[.string ⟨#[59]⟩] 9)) base g _ _ (hp.grown (aC w4 _ none)) rfl (Blk.new w4 9 [.string ⟨#[59]⟩]) V12 V18 hg;go_wp2_with fail;refine HQ.mono ?_;rintro e w5 ⟨rfl,⟨v',Ag⟩,hq⟩;clear q0 q1 q2 q3 q4 q5 d0 d1 d2;replace hq:=(aL.of (aC w4 (.cells #[.string ⟨#[59]⟩] 9) none)).trans hq;clear HQ hp;have hp:=Ag;clear Ag;replace x0:=hq.blk x0 V7 An;replace wb:=hq.blk wb V7 Aq;replace hb:=hq.below hb h0 Bd;replace hw:=hw.trans hq;clear hq;obtain⟨q0,q1,q2,q3,q4,q5⟩:=x0.c6;obtain⟨d0,d1,d2⟩:=wb.c3;rw[dP]at hp;go_wp2_with fail;rw[rounds_succ];go_wp2_with fail
  have Bq:∃v',Pg w5 base g (l++prS (.mk 5 n name [e0] bs es)) v':=⟨_,by rw[HE.out];simpa [List.append_assoc] using hp⟩
  exact U10
theorem aLs (n:Int)(name:List Int)  (bs es:List St) (Sb:jZ bs) (Se:jZ es):xF (.mk 6 n name [] bs es):=by
 intro w0 w vs base g l v hT hr hb h0 hg hp hok Bb;unfold St.fl at hr;obtain⟨y0,_,rfl,rfl,y1,_,rfl,rfl,y2,_,rfl,⟨a2,c2,rfl,h2,hc2,_⟩,y3,_,rfl,h3',y4,_,rfl,Bl,y5,_,rfl,h5',rfl⟩:=hr;obtain⟨a3,c3,rfl,h3⟩:=h3'.list;obtain⟨a4,c4,rfl,h4⟩:=Bl.list;obtain⟨a5,c5,rfl,h5⟩:=h5'.list;clear h3' Bl h5'
 have As:(exs []).length=0:=by simp[aJ]
 have hbl:(sts bs).length=bs.length:=by simp[aM]
 have hel:(sts es).length=es.length:=by simp[aM]
 rw[As,hbl,hel];simp only[agg]
 skip
 have he:prS (.mk 6 n name [] bs es)=([84,82,65,80,32])++(fI n++[32])++([59,10]):=by simp[prS,kC,fK]
 rw[he]at Bb;simp only[List.length_append,List.length_cons,List.length_nil]at Bb
 have HE:Hid (prS (.mk 6 n name [] bs es)=([84,82,65,80,32])++(fI n++[32])++([59,10])):=he
 clear he;have hloc:=(bG hok).1
 have hnb:0<=n/\n<=99:=by have:=lK hloc;simp[dA]at this;omega
 skip
 skip
 have hokb:=(bG hok).2.2.1;have hoke:=(bG hok).2.2.2;clear hok;have hgl:=hp.blk.lt
 have An:some w.heap.size ≠ some g:=by simp;omega
 have Bd:∀k,some g=some k->w0.heap.size<=k:=by intro k e;cases e;omega
 have x0:=Blk.new w 131 [.int .i64 6,.int .i64 n,.slice a2 name.length c2,.slice a3 0 c3,.slice a4 bs.length c4,.slice a5 es.length c5]
 have hw:aL base (some g) w (w.alloc (.cells #[.int .i64 6,.int .i64 n,.slice a2 name.length c2,.slice a3 0 c3,.slice a4 bs.length c4,.slice a5 es.length c5] 131 (0,0))):=aL.of (aC w _ none)
 replace hb:Below w0.heap.size w0 (w.alloc (.cells #[.int .i64 6,.int .i64 n,.slice a2 name.length c2,.slice a3 0 c3,.slice a4 bs.length c4,.slice a5 es.length c5] 131 (0,0))):=hb.alloc hb.size _
 replace hp:=hp.grown (aC w (.cells #[.int .i64 6,.int .i64 n,.slice a2 name.length c2,.slice a3 0 c3,.slice a4 bs.length c4,.slice a5 es.length c5] 131 (0,0)) none);go_enter Tryz.func236,Tryz.ntmps236;have q3:=x0.cell (i:=3) rfl;go_upto_region 2 with fail;clear q3;generalize w.alloc (.cells #[.int .i64 6,.int .i64 n,.slice a2 name.length c2,.slice a3 0 c3,.slice a4 bs.length c4,.slice a5 es.length c5] 131 (0,0))=w1 at *;generalize w.heap.size=gx at *;have q0:=x0.cell (i:=0) rfl;have hF:=(hT.below hb).st 6 V6;have z0:=hF.c0;have z1:=hF.c1;have z2:=hF.c2;have z3:=hF.c3;have z4:=hF.c4;have HQ:=fZ (stF 6) (iQ 6) w1 (hT.below hb);rw[aNa]at HQ;unfold Fm.val at HQ;clear hF;simp only[Nat.reduceMul,Nat.reduceAdd,Nat.zero_mul,Nat.zero_add]at z0 z1 z2 z3 z4;go_wp2_with fail;refine HQ.mono ?_;rintro e w2 ⟨gw,rfl,wb,hgw',hq⟩;clear HQ q0 z0 z1 z2 z3 z4
 have Aq:some gw ≠ some g:=by have:=hp.blk.lt;simp;omega
 replace x0:=x0.below (aA hq) x0.lt;replace hb:=hb.trans ((aA hq).mono hb.size);replace hw:=hw.trans (aL.of hq);replace hp:=hp.grown hq;clear hq hgw' hgl;simp only[rP,List.map_cons,List.map_nil,List.length_cons,List.length_nil]at wb ⊢;obtain⟨q0,q1,q2,q3,q4,q5⟩:=x0.c6;obtain⟨d0,d1,d2⟩:=wb.c3;go_wp2_with fail;refine wp_loop_rounds 4 ?_;rw[rounds_succ]
 have HQ:=eW [⟨#[84,82,65,80]⟩] w2.heap.size 1 1 (w2.alloc (.cells #[.string ⟨#[84,82,65,80]⟩] 9)) base g _ _ (hp.grown (aC w2 _ none)) rfl (Blk.new w2 9 [.string ⟨#[84,82,65,80]⟩]) V12 (by rw[jJ];simp only[List.length_append,List.length_cons,List.length_nil];omega) hg
 go_wp2_with fail;refine HQ.mono ?_;rintro e w3 ⟨rfl,⟨v',Ag⟩,hq⟩;clear q0 q1 q2 q3 q4 q5 d0 d1 d2;replace hq:=(aL.of (aC w2 (.cells #[.string ⟨#[84,82,65,80]⟩] 9) none)).trans hq;clear HQ hp;have hp:=Ag;clear Ag;replace x0:=hq.blk x0 V7 An;replace wb:=hq.blk wb V7 Aq;replace hb:=hq.below hb h0 Bd;replace hw:=hw.trans hq;clear hq;obtain⟨q0,q1,q2,q3,q4,q5⟩:=x0.c6;obtain⟨d0,d1,d2⟩:=wb.c3;rw[jJ]at hp;go_wp2_with fail;rw[rounds_succ];have HQ:=aIm n V6 V6 w3 (hT.below hb);go_wp2_with fail;refine HQ.mono ?_;rintro e w4 ⟨rfl,hq⟩;clear HQ;clear q0 q1 q2 q3 q4 q5 d0 d1 d2;replace hp:=hp.grown hq
 replace hq:aL base (some g) w3 w4:=aL.of hq
 replace x0:=hq.blk x0 V7 An;replace wb:=hq.blk wb V7 Aq;replace hb:=hq.below hb h0 Bd;replace hw:=hw.trans hq;clear hq;obtain⟨q0,q1,q2,q3,q4,q5⟩:=x0.c6;obtain⟨d0,d1,d2⟩:=wb.c3;have HQ:=eW [⟨(Lib.itoa n).toArray⟩] w4.heap.size 1 1 (w4.alloc (.cells #[.string ⟨(Lib.itoa n).toArray⟩] 9)) base g _ _ (hp.grown (aC w4 _ none)) rfl (Blk.new w4 9 [.string ⟨(Lib.itoa n).toArray⟩]) V12 V58 hg;go_wp2_with fail;refine HQ.mono ?_;rintro e w5 ⟨rfl,⟨v',Ag⟩,hq⟩;clear q0 q1 q2 q3 q4 q5 d0 d1 d2;replace hq:=(aL.of (aC w4 (.cells #[.string ⟨(Lib.itoa n).toArray⟩] 9) none)).trans hq;clear HQ hp;have hp:=Ag;clear Ag;replace x0:=hq.blk x0 V7 An;replace wb:=hq.blk wb V7 Aq;replace hb:=hq.below hb h0 Bd;replace hw:=hw.trans hq;clear hq;obtain⟨q0,q1,q2,q3,q4,q5⟩:=x0.c6;obtain⟨d0,d1,d2⟩:=wb.c3;rw[gU]at hp;go_wp2_with fail;rw[rounds_succ];have HQ:=eW [⟨#[59]⟩] w5.heap.size 1 1 (w5.alloc (.cells #[.string ⟨#[59]⟩] 9)) base g _ _ (hp.grown (aC w5 _ none)) rfl (Blk.new w5 9 [.string ⟨#[59]⟩]) V12 V18 hg;go_wp2_with fail;refine HQ.mono ?_;rintro e w6 ⟨rfl,⟨v',Ag⟩,hq⟩;clear q0 q1 q2 q3 q4 q5 d0 d1 d2;replace hq:=(aL.of (aC w5 (.cells #[.string ⟨#[59]⟩] 9) none)).trans hq;clear HQ hp;have hp:=Ag;clear Ag;replace x0:=hq.blk x0 V7 An;replace wb:=hq.blk wb V7 Aq;replace hb:=hq.below hb h0 Bd;replace hw:=hw.trans hq;clear hq;obtain⟨q0,q1,q2,q3,q4,q5⟩:=x0.c6;obtain⟨d0,d1,d2⟩:=wb.c3;rw[dP]at hp;go_wp2_with fail;rw[rounds_succ];go_wp2_with fail
 have Bq:∃v',Pg w6 base g (l++prS (.mk 6 n name [] bs es)) v':=⟨_,by rw[HE.out];simpa [List.append_assoc] using hp⟩
 exact U10
theorem aLr (n:Int)(name:List Int)(e0:Ex)(S0:nX e0)(bs es:List St)(Sb:jZ bs)(Se:jZ es):xF (.mk 7 n name [e0] bs es):=by
 intro w0 w vs base g l v hT hr hb h0 hg hp hok Bb;unfold St.fl at hr;obtain⟨y0,_,rfl,rfl,y1,_,rfl,rfl,y2,_,rfl,⟨a2,c2,rfl,h2,hc2,_⟩,y3,_,rfl,h3',y4,_,rfl,Bl,y5,_,rfl,h5',rfl⟩:=hr;obtain⟨a3,c3,rfl,h3⟩:=h3'.list;obtain⟨a4,c4,rfl,h4⟩:=Bl.list;obtain⟨a5,c5,rfl,h5⟩:=h5'.list;clear h3' Bl h5'
 have As:(exs [e0]).length=1:=by simp[aJ]
 have hbl:(sts bs).length=bs.length:=by simp[aM]
 have hel:(sts es).length=es.length:=by simp[aM]
 rw[As,hbl,hel];simp only[agg];obtain⟨b4,o4,rfl⟩:=h3.addr V24
 obtain⟨cc,rfl⟩:∃cc,c3=cc+1:=⟨c3-1,by have:=h3.cap;rw[As]at this;omega⟩
 obtain⟨us0,hv0,Ah⟩:=(h3.el (i:=0) rfl).vals
 obtain⟨u00,u01,u02,u03,u04,rfl⟩:∃a b c d e,us0=[a,b,c,d,e]:=by
  exact U27
 have Ba:w0.cell? ⟨b4,o4,none⟩=some u00:=by have:=Ah 0 _ rfl;simpa using this
 have Az:w0.cell? ⟨b4,o4+1,none⟩=some u01:=by have:=Ah 1 _ rfl;simpa using this
 have Ay:w0.cell? ⟨b4,o4+2,none⟩=some u02:=by have:=Ah 2 _ rfl;simpa using this
 have Ax:w0.cell? ⟨b4,o4+3,none⟩=some u03:=by have:=Ah 3 _ rfl;simpa using this
 have Aw:w0.cell? ⟨b4,o4+4,none⟩=some u04:=by have:=Ah 4 _ rfl;simpa using this
 clear Ah;have hoks:=(bG hok).2.1;simp only[dR,Bool.and_eq_true,and_true]at hoks;have hk0:=hoks
 have he:prS (.mk 7 n name [e0] bs es)=([67,65,76,76,32])++(prE e0)++([59,10]):=by simp[prS,kC,fK]
 rw[he]at Bb;simp only[List.length_append,List.length_cons,List.length_nil]at Bb
 have HE:Hid (prS (.mk 7 n name [e0] bs es)=([67,65,76,76,32])++(prE e0)++([59,10])):=he
 clear he;have hloc:=(bG hok).1
 skip
 skip
 skip
 have hokb:=(bG hok).2.2.1;have hoke:=(bG hok).2.2.2;clear hok;have hgl:=hp.blk.lt
 have An:some w.heap.size ≠ some g:=by simp;omega
 have Bd:∀k,some g=some k->w0.heap.size<=k:=by intro k e;cases e;omega
 have x0:=Blk.new w 131 [.int .i64 7,.int .i64 n,.slice a2 name.length c2,.slice (some ⟨b4,o4,none⟩) 1 (cc+1),.slice a4 bs.length c4,.slice a5 es.length c5]
 have hw:aL base (some g) w (w.alloc (.cells #[.int .i64 7,.int .i64 n,.slice a2 name.length c2,.slice (some ⟨b4,o4,none⟩) 1 (cc+1),.slice a4 bs.length c4,.slice a5 es.length c5] 131 (0,0))):=aL.of (aC w _ none)
 replace hb:Below w0.heap.size w0 (w.alloc (.cells #[.int .i64 7,.int .i64 n,.slice a2 name.length c2,.slice (some ⟨b4,o4,none⟩) 1 (cc+1),.slice a4 bs.length c4,.slice a5 es.length c5] 131 (0,0))):=hb.alloc hb.size _
 replace hp:=hp.grown (aC w (.cells #[.int .i64 7,.int .i64 n,.slice a2 name.length c2,.slice (some ⟨b4,o4,none⟩) 1 (cc+1),.slice a4 bs.length c4,.slice a5 es.length c5] 131 (0,0)) none);go_enter Tryz.func236,Tryz.ntmps236;have q3:=x0.cell (i:=3) rfl;go_upto_region 2 with fail;clear q3;generalize w.alloc (.cells #[.int .i64 7,.int .i64 n,.slice a2 name.length c2,.slice (some ⟨b4,o4,none⟩) 1 (cc+1),.slice a4 bs.length c4,.slice a5 es.length c5] 131 (0,0))=w1 at *;generalize w.heap.size=gx at *;have q0:=x0.cell (i:=0) rfl;have hF:=(hT.below hb).st 7 V6;have z0:=hF.c0;have z1:=hF.c1;have z2:=hF.c2;have z3:=hF.c3;have z4:=hF.c4;have HQ:=fZ (stF 7) (iQ 7) w1 (hT.below hb);rw[aM9]at HQ;unfold Fm.val at HQ;clear hF;simp only[Nat.reduceMul,Nat.reduceAdd,Nat.zero_mul,Nat.zero_add]at z0 z1 z2 z3 z4;go_wp2_with fail;refine HQ.mono ?_;rintro e w2 ⟨gw,rfl,wb,hgw',hq⟩;clear HQ q0 z0 z1 z2 z3 z4
 have Aq:some gw ≠ some g:=by have:=hp.blk.lt;simp;omega
 replace x0:=x0.below (aA hq) x0.lt;replace hb:=hb.trans ((aA hq).mono hb.size);replace hw:=hw.trans (aL.of hq);replace hp:=hp.grown hq;clear hq hgw' hgl;simp only[rP,List.map_cons,List.map_nil,List.length_cons,List.length_nil]at wb ⊢;obtain⟨q0,q1,q2,q3,q4,q5⟩:=x0.c6;obtain⟨d0,d1,d2⟩:=wb.c3;go_wp2_with fail;refine wp_loop_rounds 4 ?_;rw[rounds_succ]
 have HQ:=eW [⟨#[67,65,76,76]⟩] w2.heap.size 1 1 (w2.alloc (.cells #[.string ⟨#[67,65,76,76]⟩] 9)) base g _ _ (hp.grown (aC w2 _ none)) rfl (Blk.new w2 9 [.string ⟨#[67,65,76,76]⟩]) V12 (by rw[jO];simp only[List.length_append,List.length_cons,List.length_nil];omega) hg
 go_wp2_with fail;refine HQ.mono ?_;rintro e w3 ⟨rfl,⟨v',Ag⟩,hq⟩;clear q0 q1 q2 q3 q4 q5 d0 d1 d2;replace hq:=(aL.of (aC w2 (.cells #[.string ⟨#[67,65,76,76]⟩] 9) none)).trans hq;clear HQ hp;have hp:=Ag;clear Ag;replace x0:=hq.blk x0 V7 An;replace wb:=hq.blk wb V7 Aq;replace hb:=hq.below hb h0 Bd;replace hw:=hw.trans hq;clear hq;obtain⟨q0,q1,q2,q3,q4,q5⟩:=x0.c6;obtain⟨d0,d1,d2⟩:=wb.c3;rw[jO]at hp;go_wp2_with fail;rw[rounds_succ];have HQ:=S0 w0 w3 [u00,u01,u02,u03,u04] base g _ _ hT hv0 hb h0 hg hp hk0 V10;simp only[agg]at HQ;have t0:=aB Ba hb;have t1:=aB Az hb;have t2:=aB Ay hb;have t3:=aB Ax hb;have t4:=aB Aw hb;go_wp2_with fail;refine HQ.mono ?_;rintro e w4 ⟨rfl,⟨v',Ag⟩,hq⟩;clear t0 t1 t2 t3 t4;clear q0 q1 q2 q3 q4 q5 d0 d1 d2;clear HQ hp;have hp:=Ag;clear Ag;replace x0:=hq.blk x0 V7 An;replace wb:=hq.blk wb V7 Aq;replace hb:=hq.below hb h0 Bd;replace hw:=hw.trans hq;clear hq;obtain⟨q0,q1,q2,q3,q4,q5⟩:=x0.c6;obtain⟨d0,d1,d2⟩:=wb.c3
 rcases cc with _|cc
 all_goals
  go_wp2_with fail;rw[rounds_succ];have HQ:=eW [⟨#[59]⟩] w4.heap.size 1 1 (w4.alloc (.cells #[.string ⟨#[59]⟩] 9)) base g _ _ (hp.grown (aC w4 _ none)) rfl (Blk.new w4 9 [.string ⟨#[59]⟩]) V12 V18 hg;go_wp2_with fail;refine HQ.mono ?_;rintro e w5 ⟨rfl,⟨v',Ag⟩,hq⟩;clear q0 q1 q2 q3 q4 q5 d0 d1 d2;replace hq:=(aL.of (aC w4 (.cells #[.string ⟨#[59]⟩] 9) none)).trans hq;clear HQ hp;have hp:=Ag;clear Ag;replace x0:=hq.blk x0 V7 An;replace wb:=hq.blk wb V7 Aq;replace hb:=hq.below hb h0 Bd;replace hw:=hw.trans hq;clear hq;obtain⟨q0,q1,q2,q3,q4,q5⟩:=x0.c6;obtain⟨d0,d1,d2⟩:=wb.c3;rw[dP]at hp;go_wp2_with fail;rw[rounds_succ];go_wp2_with fail
  have Bq:∃v',Pg w5 base g (l++prS (.mk 7 n name [e0] bs es)) v':=⟨_,by rw[HE.out];simpa [List.append_assoc] using hp⟩
  exact U10
end Go.Proofs.YtnelibmaancmkaaGreatDoor

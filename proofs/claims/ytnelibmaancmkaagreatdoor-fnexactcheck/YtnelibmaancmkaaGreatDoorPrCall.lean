import Derived.Test.YtnelibmaancmkaaGreatDoorPrEx
import Derived.Test.YtnelibmaancmkaaGreatDoorPrBracket
namespace Go.Proofs.YtnelibmaancmkaaGreatDoor
open Go.RowKit
set_option linter.unusedVariables false
set_option linter.unusedSimpArgs false
set_option maxRecDepth 100000
theorem U139{p:Prop}(h:p:=by
 intro w0 w vs base g l v a1 a2 a3 a4 a5 a6 a7 a8
 exact h a7 w0 w vs base g l v a1 a2 a3 a4 a5 a6 a7 a8):p:=h
set_option maxHeartbeats 4000000 in
theorem aL1 (n:Int)(mod name:List Int)(ks:List Ex)(S:∀x ∈ ks,nX x):nX (.mk 6 n mod name ks):=by
 intro w0 w vs base g l v hT hr hb h0 hg hp hok Bb;unfold Ex.fl at hr;obtain⟨y0,_,rfl,rfl,y1,_,rfl,rfl,y2,_,rfl,⟨a2,c2,rfl,h2,hc2,_⟩,y3,_,rfl,⟨a3,c3,rfl,h3,hc3,_⟩,y4,_,rfl,Bl,rfl⟩:=hr;obtain⟨a4,c4,rfl,h4⟩:=Bl.list;clear Bl
 have As:(exs ks).length=ks.length:=by simp[aJ]
 rw[As];simp only[agg]
 skip
 have he:prE (.mk 6 n mod name ks)=(aGb mod)++(name++[32])++(brI (ks.map prE)):=by simp only[prE,iO,aGb,brI,kB];simp
 rw[he]at Bb;simp only[List.length_append,List.length_cons,List.length_nil]at Bb
 have HE:Hid (prE (.mk 6 n mod name ks)=(aGb mod)++(name++[32])++(brI (ks.map prE))):=he
 clear he;have hloc:=(cM hok).1
 have hokk:∀x ∈ ks,nQ x=true:=by have:=(cM hok).2;rw[lR,List.all_eq_true]at this;exact this
 simp only[brI,List.length_append,List.length_cons,List.length_nil]at Bb
 skip
 have hmok:mod.length=0\/aK mod true=true:=by unfold gE at hloc;simp only[Bool.and_eq_true,Bool.or_eq_true,decide_eq_true_eq]at hloc;exact hloc.2.imp id (fun h=>h.2)
 have hnm:=fW hloc V7;have hpn:=cD (g:=false) h3.2.1 hnm;clear hok;have hgl:=hp.blk.lt
 have An:some w.heap.size ≠ some g:=by simp;omega
 have Bd:∀k,some g=some k->w0.heap.size<=k:=by intro k e;cases e;omega
 have x0:=Blk.new w 135 [.int .i64 6,.int .i64 n,.slice a2 mod.length c2,.slice a3 name.length c3,.slice a4 ks.length c4]
 have hw:aL base (some g) w (w.alloc (.cells #[.int .i64 6,.int .i64 n,.slice a2 mod.length c2,.slice a3 name.length c3,.slice a4 ks.length c4] 135 (0,0))):=aL.of (aC w _ none)
 replace hb:Below w0.heap.size w0 (w.alloc (.cells #[.int .i64 6,.int .i64 n,.slice a2 mod.length c2,.slice a3 name.length c3,.slice a4 ks.length c4] 135 (0,0))):=hb.alloc hb.size _
 replace hp:=hp.grown (aC w (.cells #[.int .i64 6,.int .i64 n,.slice a2 mod.length c2,.slice a3 name.length c3,.slice a4 ks.length c4] 135 (0,0)) none);go_enter Tryz.func250,Tryz.ntmps250;have q4:=x0.cell (i:=4) rfl;go_upto_region 2 with fail;clear q4;generalize w.alloc (.cells #[.int .i64 6,.int .i64 n,.slice a2 mod.length c2,.slice a3 name.length c3,.slice a4 ks.length c4] 135 (0,0))=w1 at *;generalize w.heap.size=gx at *;have q0:=x0.cell (i:=0) rfl;have hF:=(hT.below hb).ex 6 V6;have z0:=hF.c0;have z1:=hF.c1;have z2:=hF.c2;have z3:=hF.c3;have z4:=hF.c4;have HQ:=fZ (exF 6) (iW 6) w1 (hT.below hb);rw[aNn]at HQ;unfold Fm.val at HQ;clear hF;simp only[Nat.reduceMul,Nat.reduceAdd,Nat.zero_mul,Nat.zero_add]at z0 z1 z2 z3 z4;go_wp2_with fail;refine HQ.mono ?_;rintro e w2 ⟨gw,rfl,wb,hgw',hq⟩;clear HQ q0 z0 z1 z2 z3 z4
 have Aq:some gw ≠ some g:=by have:=hp.blk.lt;simp;omega
 replace x0:=x0.below (aA hq) x0.lt;replace hb:=hb.trans ((aA hq).mono hb.size);replace hw:=hw.trans (aL.of hq);replace hp:=hp.grown hq;clear hq hgw' hgl;simp only[rP,List.map_cons,List.map_nil,List.length_cons,List.length_nil]at wb ⊢;obtain⟨q0,q1,q2,q3,q4⟩:=x0.c5;obtain⟨d0,d1,d2⟩:=wb.c3;go_wp2_with fail;refine wp_loop_rounds 4 ?_;rw[rounds_succ];have HQ:=aNj mod a2 c2 w2 base g _ _ (h2.below hb) hp hg hmok V6;go_wp2_with fail;refine HQ.mono ?_;rintro e w3 ⟨rfl,⟨v',Ag⟩,hq⟩;clear q0 q1 q2 q3 q4 d0 d1 d2;clear HQ hp;have hp:=Ag;clear Ag;replace x0:=hq.blk x0 V7 An;replace wb:=hq.blk wb V7 Aq;replace hb:=hq.below hb h0 Bd;replace hw:=hw.trans hq;clear hq;obtain⟨q0,q1,q2,q3,q4⟩:=x0.c5;obtain⟨d0,d1,d2⟩:=wb.c3;go_wp2_with fail;rw[rounds_succ];have kc:=aT c3 (h3.below hb);have HQ:=eW [(strOfNums name)] w3.heap.size 1 1 (w3.alloc (.cells #[.string (strOfNums name)] 9)) base g _ _ (hp.grown (aC w3 _ none)) rfl (Blk.new w3 9 [.string (strOfNums name)]) V12 V21 hg;go_wp2_with fail;refine HQ.mono ?_;rintro e w4 ⟨rfl,⟨v',Ag⟩,hq⟩;clear q0 q1 q2 q3 q4 d0 d1 d2;replace hq:=(aL.of (aC w3 (.cells #[.string (strOfNums name)] 9) none)).trans hq;clear HQ hp;have hp:=Ag;clear Ag;replace x0:=hq.blk x0 V7 An;replace wb:=hq.blk wb V7 Aq;replace hb:=hq.below hb h0 Bd;replace hw:=hw.trans hq;clear hq;obtain⟨q0,q1,q2,q3,q4⟩:=x0.c5;obtain⟨d0,d1,d2⟩:=wb.c3;rw[hpn]at hp;clear kc;go_wp2_with fail;rw[rounds_succ]
 have HQ:=vG 250 (cK Tryz.func250 rfl rfl) prE ks (fun x hx w0 w vs base g l v a1 a2 a3 a4 a5 a6 a7=>S x hx w0 w vs base g l v a1 a2 a3 a4 a5 a6 (hokk x hx) a7) w0 w4 a4 c4 base g _ _ hT h4 hb h0 hg hp (by simp only[List.length_append,List.length_cons,List.length_nil,brI];omega)
 go_wp2_with fail;refine HQ.mono ?_;rintro e w5 ⟨rfl,⟨v',Ag⟩,hq⟩;clear q0 q1 q2 q3 q4 d0 d1 d2;clear HQ hp;have hp:=Ag;clear Ag;replace x0:=hq.blk x0 V7 An;replace wb:=hq.blk wb V7 Aq;replace hb:=hq.below hb h0 Bd;replace hw:=hw.trans hq;clear hq;obtain⟨q0,q1,q2,q3,q4⟩:=x0.c5;obtain⟨d0,d1,d2⟩:=wb.c3;go_wp2_with fail;rw[rounds_succ];go_wp2_with fail
 have Bq:∃v',Pg w5 base g (l++prE (.mk 6 n mod name ks)) v':=⟨_,by rw[HE.out];simpa [List.append_assoc] using hp⟩
 exact U10
theorem aKr {n:Int}{mod name:List Int}{nk:Nat}(h:gE 3 n mod name nk=true):n=0\/n=1\/n=2\/n=3\/n=4\/n=5:=by
 unfold gE at h;simp only[Bool.and_eq_true]at h
 have:=h.1.2.1.1
 simp[inB,eT,dB]at this
 omega
theorem aIj {k n:Int}{mod name:List Int}{nk:Nat}(h:gE k n mod name nk=true):dL k<=nk/\(nk:Int)<=eX k/\0<=k/\k<=7:=by
 unfold gE at h;simp only[Bool.and_eq_true]at h;have h1:=h.1.2.1.2;have h2:=h.1.1
 simp[inB]at h1 h2
 omega
theorem aH2 {x:Ex}(h:nQ x=true->nX x):nX x:=by
 exact U139
mutual
theorem aNi:∀x:Ex,nX x
 | .mk k n m a ks=>aH2 fun hok=>by
  have hS:=aH1 ks;obtain⟨hloc,_⟩:=cM hok;obtain⟨h1,h2,h3,h4⟩:=aIj hloc;have h8:k=0\/k=1\/k=2\/k=3\/k=4\/k=5\/k=6\/k=7:=V6
  rcases h8 with rfl|rfl|rfl|rfl|rfl|rfl|rfl|rfl
  .
   exact aL7 n m a ks
  .
   exact aL6 n m a ks
  .
   simp[dL,eX]at h1 h2
   match ks,h1,h2,hS with
   | [e0],_,_,hS=>exact aL5 n m a e0 (hS e0 V15)
  .
   simp[dL,eX]at h1 h2
   have h6:Six n:=aKr hloc
   match ks,h1,h2,hS with
   | [e0,e1],_,_,hS=>exact aL4 n h6 m a e0 (hS e0 V15) e1 (hS e1 V15)
  .
   exact aL3 n m a ks
  .
   exact aL2 n m a ks
  .
   exact aL1 n m a ks hS
  .
   exact aL0 n m a ks
theorem aH1:∀(l:List Ex),∀x ∈ l,nX x
 | [],x,h=>by simp at h
 | y :: l,x,h=>by
  rcases List.mem_cons.1 h with h|h
  .
   rw[h];exact aNi y
  .
   exact aH1 l x h
end
end Go.Proofs.YtnelibmaancmkaaGreatDoor

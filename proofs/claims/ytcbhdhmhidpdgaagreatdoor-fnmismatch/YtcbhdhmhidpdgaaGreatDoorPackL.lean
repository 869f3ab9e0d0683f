import Derived.Test.YtcbhdhmhidpdgaaGreatDoorPackK
import Derived.LoopN
import Derived.Deep.RegionLaw
namespace Go.Proofs.YtcbhdhmhidpdgaaGreatDoor
open Go.RowKit
set_option linter.unusedVariables false
set_option linter.unusedSimpArgs false
set_option maxRecDepth 100000
section
namespace Eg
section
variable {α β:Type}
theorem nO (n:Nat)(k:Nat->α):fN n k=k n:=by cases n <;> rfl
theorem aSr (x:Int)(k:Int->α):fI x k=k x:=by cases x <;> simp only[fI,nO]
theorem aH6 (b:Bool)(k:Bool->α):fB b k=k b:=by cases b <;> rfl
theorem uY {f:β->(β->α)->α}(hf:∀x k,f x k=k x):∀(l:List β) (k:List β->α),fL f l k=k l
 | [],_=>rfl| x :: l,k=>by rw[fL,hf,uY hf]
theorem aSp {f:β->(β->α)->α}(hf:∀x k,f x k=k x)(x:Option β)(k:Option β->α):fO f x k=k x:=by
 cases x with
 | none=>rfl| some x=>rw[fO,hf]
theorem aPt (x:Ix)(k:Ix->α):fX x k=k x:=by cases x <;> simp only[fX,nO]
theorem aMi (x:Rs)(k:Rs->α):fR x k=k x:=by cases x <;> simp only[fR,nO]
theorem aSn (x:Ct)(k:Ct->α):fT x k=k x:=by simp only[fT,nO,aH6]
theorem aMj (x:CV)(k:CV->α):fC x k=k x:=by cases x <;> simp only[fC,nO,aSr,aH6,aMi,aPt,uY aSn]
theorem aSu (x:AV)(k:AV->α):fA x k=k x:=by cases x <;> simp only[fA,nO,aMj,uY aMj]
theorem aSt (x:SF)(k:SF->α):fF x k=k x:=by simp only[fF,nO,aH6,aMi,aSp nO]
theorem aSq (x:Bk)(k:Bk->α):fK x k=k x:=by cases x <;> simp only[fK,nO,uY aMj]
theorem aSs (x:Cf)(k:Cf->α):fG x k=k x:=by simp only[fG,nO,aMi,aPt]
theorem aSo (x:Nat × AV)(k:Nat × AV->α):fP x k=k x:=by simp only[fP,nO,aSu]
theorem aMh (A:AS)(k:AS->α):fS A k=k A:=by simp only[fS,nO,aH6,uY aSo,uY aSt,uY aSq,uY aSs]
end
theorem rI:∀{l:List Oper} {n:Nat},n<(pre l).length->∃j o T,l[j]?=some o/\o.op=.alloc T/\nAl j l=n
 | [],n,h=>by simp[pre]at h
 | x :: l,n,h=>by
  cases hx:x.op with
  | alloc T=>
   have hl:(pre (x :: l)).length=(pre l).length+1:=by
    simp only[pre,hx];split <;> simp
   cases n with
   | zero=>exact⟨0,x,T,rfl,hx,rfl⟩| succ n=>
    obtain⟨j,o,T',h1,h2,h3⟩:=rI (l:=l) (n:=n) A0;exact⟨j+1,o,T',by rw[List.getElem?_cons_succ];exact h1,h2,by simp only[nAl,hx,h3]⟩
  | _=>
   have hl:pre (x :: l)=pre l:=by simp only[pre,hx]
   rw[hl]at h;obtain⟨j,o,T',h1,h2,h3⟩:=rI (l:=l) h;exact⟨j+1,o,T',by rw[List.getElem?_cons_succ];exact h1,h2,by simp only[nAl,hx,h3]⟩
theorem zA {l:List Oper}(he:∀i o,l[i]?=some o->lJ i o.after.toList=true):∀(n i j:Nat),i<=n->bit (kW [] l) i j=true->j<i
 | n,i,j,hi,h=>by
  cases ho:l[i]? with
  | none=>
   exfalso;unfold bit at h;rw[dM,List.getElem?_eq_none (by rw[uB];have:=List.getElem?_eq_none_iff.1 ho;simpa using this)]at h;simp at h
  | some o=>
   obtain⟨e,_,_,h1,h2⟩:=uC ho (he i o ho) h;rcases h2 with h2|h2
   .
    omega
   .
    cases n with
    | zero=>omega| succ n=>have:=zA he n e.on j A0 h2;omega
def aBj (dr:Bool)(ops:Array Oper):List Nat:=if dr then kW [] ops.toList else xA 0 ops.toList
section
variable {C:Cx} {U:Value->Prop} {G:Cfg} {A B:AS} {ops:Array Oper} {ms:List Nat} {I:List Ri} {f:Nat->AS} {g:Nat->Out} {st:Nat->Option Bool} {dr:Bool} {e eb:Nat} {ρ0:Nat->Value} {β0:Nat->Nat} {τ:Sm} {V:Vl} {a:Act} {w:World}
def aEw (G:Cfg)(ops:Array Oper)(I:List Ri)(F:AS):AS:={ F with sl:=pC G.keep (lV ops.toList I F.sl),cf:=if xU I then [] else F.nc++F.cf,nc:=[] }
theorem aC1 (h:region G A ops dr=some B):∃I f g st,dW G A ops (aBj dr ops) I f g st/\aMv (f ops.size) ((f ops.size).nc++(f ops.size).cf)=true/\B=aEw G ops I (f ops.size)/\I.length=ops.size:=by
 unfold region at h;change (if aCe G.nt ops.toList && aNa ops.toList then (tR G ops.toList (aBj dr ops) A 0 ops.toList { A with nc:=[],bk:=A.bk++pre ops.toList } []).bind (fun p=>if aBc (aBj dr ops) p.2 0 p.2 && aMv p.1 (p.1.nc++p.1.cf) then fS (aEw G ops p.2 p.1) some else none) else none)=some B at h;split at h
 .
  rename_i hc;simp only[zC0]at hc;simp only[Option.bind_eq_some_iff]at h;obtain⟨⟨F,I⟩,hg,h⟩:=h;split at h
  .
   rename_i hd;simp only[zC0]at hd;rw[aMh]at h;cases h;obtain⟨f,g,st,h1,h2,h3,h4,h5⟩:=tQ ops.toList 0 _ [] rfl hg;simp only[zJ0,Array.length_toList]at h2 h4 h5;have hst:∀k o,ops[k]?=some o->∃ri,I[k]?=some ri/\vH G ops.toList (aBj dr ops) A (I.take k) k o (f k) (g k) (st k) (f (k+1)) ri:=fun k o ho=>h5 k o (by simpa using ho);refine⟨I,f,g,st,⟨h1,hst,hd.1,hc.1,fun i j hb=>?_,hc.2⟩,by rw[h2];exact hd.2,by rw[h2],h4⟩;cases dr with
   | true=>exact zA (fun i o ho=>(hst i o (by simpa using ho)).elim fun _ hx=>hx.2.edge) i i j (zB0 _) hb
   | false=>exact uQ hb
  .
   cases h
 .
  cases h
theorem dW.nc1 (h:dW G A ops ms I f g st){k:Nat}(hk:k<ops.size):(f (k+1)).nc=(g k).nc++(f k).nc:=by
 exact QA119
theorem dW.ncIn (h:dW G A ops ms I f g st){c:Cf}{j:Nat}:∀{n:Nat},j<n->n<=ops.size->c ∈ (g j).nc->c ∈ (f n).nc
 | 0,hj,_,_=>by omega
 | n+1,hj,hn,hc=>by
  rw[h.nc1 A0];rcases Nat.lt_or_eq_of_le (Nat.le_of_lt_succ hj) with h1|h1
  .
   exact List.mem_append_right _ (h.ncIn h1 A0 hc)
  .
   subst h1;exact List.mem_append_left _ hc
theorem dW.ncOf (h:dW G A ops ms I f g st){c:Cf}:∀{n:Nat},n<=ops.size->c ∈ (f n).nc->∃j,j<n/\c ∈ (g j).nc
 | 0,_,hc=>by rw[h.f0]at hc;cases hc
 | n+1,hn,hc=>by
  rw[h.nc1 A0]at hc;rcases List.mem_append.1 hc with hc|hc
  .
   exact⟨n,by omega,hc⟩
  .
   obtain⟨j,h1,h2⟩:=h.ncOf (n:=n) A0 hc;exact⟨j,by omega,h2⟩
theorem aAm {F:AS}:∀{l:List Cf},aMv F l=true->∀c ∈ l,F.kd c.s c.k=true/\c.k ≠ .bt
 | [],_,c,hc=>by cases hc
 | x :: l,h,c,hc=>by
  simp only[aMv,zC0,Bool.not_eq_true']at h;rcases zG3.1 hc with rfl|hc
  .
   exact⟨h.1.1.1,fun e=>by have:=h.1.1.2;rw[e]at this;cases this⟩
  .
   exact aAm h.2 c hc
structure Env (C:Cx) (U:Value->Prop) (G:Cfg) (e eb:Nat) (ρ0:Nat->Value):Prop where
 z:aNd C G
 us:G.us=true->2<=e/\C.st=true/\SVb C.τ0 (.rc 4) 0 2 (ρ0 0)/\SVb C.τ0 (.rc 0) 0 2 (ρ0 1)/\(∀b o n c i v,ρ0 1=.slice (some ⟨b,o,none⟩) n c->i<n->C.w0.cell? ⟨b,o+i,none⟩=some v->Us (ρ0 0) C.w0 v)/\U=Us (ρ0 0) C.w0
structure Hs (C:Cx) (U:Value->Prop) (G:Cfg) (e eb:Nat) (ρ0:Nat->Value) (β0:Nat->Nat) (A:AS) (τ:Sm) (V:Vl) (a:Act) (w:World):Prop where
 kn:Kn C U A (·<A.sy.length) (·<A.bk.length) (·<A.ni) τ V w
 sl:∀t,(A.ev (.tmp t)).ok τ V (a.eval (.tmp t))/\lL (·<A.sy.length) (·<A.bk.length) (·<A.ni) (A.ev (.tmp t))
 cf:∀c ∈ A.cf,c.ok V w/\c.s<A.sy.length/\c.r<A.sy.length/\∀x ∈ c.ix.is,x<A.ni
 fs:∀s,s<e->V.ρ s=ρ0 s
 es:e<=A.sy.length
 fb:∀n,n<eb->V.β n=β0 n
 bs:eb<=A.bk.length
 nt:a.tmps.size=G.nt
 df:a.defers=[]
 tq:C.st=true->Tg C.τ0->Tg τ
theorem Hs.usE (hE:Env C U G e eb ρ0)(h:Hs C U G e eb ρ0 β0 A τ V a w)(hg:G.us=true):UsE C U A V:=by
 obtain⟨h1,h2,h3,h4,h5,h6⟩:=hE.us hg;have h9:=h.es;have e0:=h.fs 0 A0;have e1:=h.fs 1 A0;exact⟨by omega,h2,by rw[e0];exact h3,by rw[e1];exact h4,by rw[e0,e1];exact h5,by rw[e0];exact h6⟩
theorem Kn.heq {S B X:Nat->Prop}{w':World}(h:Kn C U A S B X τ V w)(he:w'.heap=w.heap)(h1:w'.os=w.os)(h2:w'.tape=w.tape)(h3:w'.output=w.output):Kn C U A S B X τ V w':=by
 have hb:∀b:Nat,w'.heap[b]?=w.heap[b]?:=fun b=>by rw[he]
 have hz:w'.heap.size=w.heap.size:=by rw[he]
 refine⟨⟨h.fr.th.on fun b s _=>hb b,h.fr.sub,h1.trans h.fr.os,h2.trans h.fr.tape,h3.trans h.fr.output,by rw[hz];exact h.fr.size,h.fr.non,fun b q1 q2 q3=>(hb b).trans (h.fr.blk b q1 q2 q3),fun q0 b q1 q2=>⟨(h.fr.str q0 b q1 q2).1,(hb b).trans (h.fr.str q0 b q1 q2).2⟩⟩,h.sy,h.sc,fun n x hx hn=>?_,h.bc,h.dj,h.lo,h.tg,h.cu⟩;obtain⟨q1,q2,q3,q4⟩:=h.bk n x hx hn;refine⟨?_,q2,by rw[hz];exact q3,q4⟩;cases x with
 | cur=>exact Cur.on q1 fun b _=>hb b
 | cells T l=>obtain⟨vs,q5,q6⟩:=q1;exact⟨vs,(hb _).trans q5,q6⟩
theorem Cf.heq {c:Cf}{w':World}(h:c.ok V w)(he:w'.heap=w.heap):c.ok V w':=fun b j n q i q1 q2 q3 q4=>(World.cell?_of_block (show w'.heap[b]?=w.heap[b]? by rw[he])).trans (h b j n q i q1 q2 q3 q4)
theorem Hs.heq {w':World}(h:Hs C U G e eb ρ0 β0 A τ V a w)(he:w'.heap=w.heap)(h1:w'.os=w.os)(h2:w'.tape=w.tape)(h3:w'.output=w.output):Hs C U G e eb ρ0 β0 A τ V a w':=
 ⟨h.kn.heq he h1 h2 h3,h.sl,fun c hc=>⟨Cf.heq (h.cf c hc).1 he,(h.cf c hc).2⟩,h.fs,h.es,h.fb,h.bs,h.nt,h.df,h.tq⟩
theorem Inv.start (h:dW G A ops ms I f g st)(hs:Hs C U G e eb ρ0 β0 A τ V a w):Inv C U G A ops ms I f g st a V τ (fun _=>False) (fun _=>False) (A.bk++pre ops.toList) A.tg τ V a w:=by
 have Wh:∀s x,s<A.sy.length->at? (f ops.size).sy s=some x->at? A.sy s=some x:=fun s x Ad hx=>by
  obtain⟨r,hr⟩:=h.syN (k:=0) (n:=ops.size) (zD1 _) (zB0 _);have h0:(f 0).sy=A.sy:=by rw[h.f0]
  rw[hr,h0,cL,if_pos Ad]at hx;exact hx
 have hS:∀s,Sb A f (fun _=>False) s->s<A.sy.length:=fun s hs=>hs.resolve_right (fun ⟨_,h9,_⟩=>h9);have hX:∀s,Xb A f (fun _=>False) s->s<A.ni:=fun s hs=>hs.resolve_right (fun ⟨_,h9,_⟩=>h9);have hB:∀n,Bb A ops (fun _=>False) (A.bk++pre ops.toList) n->n<A.bk.length:=fun n hn=>by
  rcases zJ1 n A.bk.length with h9|h9
  .
   exact h9
  .
   have h1:=hn.1;rw[zA1]at h1;obtain⟨j,o,T,q1,q2,q3⟩:=rI (l:=ops.toList) (n:=n-A.bk.length) A0;exact(hn.2 j o T (by simpa using q1) q2 A0).elim
 have hB':∀n,n<A.bk.length->Bb A ops (fun _=>False) (A.bk++pre ops.toList) n:=fun n hn=>⟨by rw[zA1];omega,fun j o T _ _ q=>by omega⟩;have Iy:∀n x,at? (A.bk++pre ops.toList) n=some x->n<A.bk.length->at? A.bk n=some x:=fun n x hx hn=>by rw[cL,if_pos hn]at hx;exact hx
 have k:=hs.kn;refine⟨⟨k.fr,fun s x hx hs=>k.sy s x (Wh s x (hS s hs) hx) (hS s hs),fun s x hx hs t ht=>.inl (k.sc s x (Wh s x (hS s hs) hx) (hS s hs) t ht),fun n x hx hn=>k.bk n x (Iy n x hx (hB n hn)) (hB n hn),fun n x hx hn=>?_,fun n m x y hx hy hn hm=>k.dj n m x y (Iy n x hx (hB n hn)) (Iy m y hy (hB m hm)) (hB n hn) (hB m hm),fun n hx hn=>k.lo n (Iy n _ hx (hB n hn)) (hB n hn),k.tg,fun n hx=>?_⟩,⟨fun i hi h1 h2=>?_,fun i hi h1 h2=>?_⟩,⟨fun _ _ _ _ _ h9=>h9.elim,fun _ _ _ _ _ h9=>h9.elim,fun _ _=>rfl,fun t=>?_,fun _ _ _ h9=>h9.elim,fun _ _ _ h9=>h9.elim,fun _ _ _ h9=>h9.elim⟩,fun _ h9=>h9,fun _ h9=>h9.elim,fun _ _ h9=>h9.elim,rfl,rfl,hs.tq,fun _ _=>rfl,fun _ _=>rfl,fun _ _=>rfl,fun j o T z ds q1 q2 q3 _=>?_,by rw[zA1];omega,Sub.refl _,fun _=>⟨fun c hc=>(hs.cf c hc).1,fun _ h9=>h9.elim⟩,fun _ h9=>h9.elim⟩
 .
  obtain⟨c1,c2,c3⟩:=k.bc n x (Iy n x hx (hB n hn)) (hB n hn);exact⟨fun s h9=>.inl (c1 s h9),fun m h9=>hB' m (c2 m h9),fun c h9=>.inl (c3 c h9)⟩
 .
  have Eb:at? (A.bk++pre ops.toList) n=some .cur:=hx;rcases zJ1 n A.bk.length with h9|h9
  .
   exact k.cu n (Iy n _ Eb h9)
  .
   exfalso;have h1:=dB Eb;rw[zA1]at h1;obtain⟨j,o,T,q1,q2,q3⟩:=rI (l:=ops.toList) (n:=n-A.bk.length) A0;obtain⟨_,z,ds,hz⟩:=sS h.al q1 q2;have h2:=yR q1 q2 hz;rw[q3]at h2;rw[cL,if_neg A0,h2]at Eb;cases Eb
 .
  rw[h.bkN (zD1 i) hi fun m ri _ hm Cu=>?_,h.f0];cases hsp:ri.sp with
  | false=>rfl| true=>exact(h1 m ri hm Cu hsp).elim
 .
  rw[h.tgN (zD1 i) hi fun m ri _ hm Cu=>?_,h.f0];cases hsp:ri.br with
  | false=>rfl| true=>exact(h1 m ri hm Cu hsp).elim
 .
  obtain⟨q1,q2⟩:=hs.sl t;exact⟨q1,q2.mono (fun s h9=>.inl h9) hB' (fun s h9=>.inl h9)⟩
 .
  rw[cL,if_neg A0,Nat.add_sub_cancel_left];exact yR (cF q1) q2 q3
theorem Inv.turn (h:dW G A ops ms I f g st)(hE:aNd C G){a0:Act}{V0:Vl}{τ0:Sm}{L R:Nat->Prop}{K:List Bk}{b:Bool}(hU:G.us=true->UsE C U A V0)(Ni:aIt A (f ops.size) g ops.size)(hv:Inv C U G A ops ms I f g st a0 V0 τ0 L R K b τ V a w)(Ht:G.nt<=a0.tmps.size){i:Nat}(hi:i<ops.size)(Ef:¬L i)(hr:∀j,bit ms i j=true->L j)(Q:Exit->Act->World->Prop){P:Act->World->Prop}(hP:∀R' K' b' τ' V' a' w',Inv C U G A ops ms I f g st a0 V0 τ0 (fun j=>L j\/j=i) R' K' b' τ' V' a' w'->P a' w'):
  wpOp Tryz.prog ops Q i P a w:=by
 obtain⟨o,ho⟩:=mQ hi;unfold wpOp;rw[ho];simp only;split
 .
  rename_i hw;have hw':=xZ.1 hw;left;have Cc:o.wp Tryz.prog a w (fun a' w'=>∃R' K' b' τ' V',Inv C U G A ops ms I f g st a0 V0 τ0 (fun j=>L j\/j=i) R' K' b' τ' V' a' w') Q:=by
   by_cases hT:∃T,o.op=.alloc T
   .
    obtain⟨T,hT⟩:=hT;exact Inv.alloc h Ni hv Ht ho Ef hr hw' hT Q
   .
    exact Inv.other h hE hU Ni hv Ht ho Ef hr hw' (fun T hT9=>hT ⟨T,hT9⟩) Q
  exact Oper.wp_mono (fun a' w' ⟨R',K',b',τ',V',h9⟩=>hP R' K' b' τ' V' a' w' h9) Cc
 .
  rename_i hw;exact hP _ _ _ _ _ _ _ (Inv.pass h hv Ht ho Ef hr (fun h9=>hw (xZ.2 h9)))
theorem Inv.same {a0:Act}{V0:Vl}{τ0:Sm}{L L' R:Nat->Prop}{K:List Bk}{b:Bool}(hv:Inv C U G A ops ms I f g st a0 V0 τ0 L R K b τ V a w)(h:∀j,j<ops.size->(L j ↔ L' j))(h':∀j,L' j->j<ops.size):Inv C U G A ops ms I f g st a0 V0 τ0 L' R K b τ V a w:=by
 have:L=L':=by
  funext j;refine propext ⟨fun h9=>(h j (hv.ls j h9)).1 h9,fun h9=>(h j (h' j h9)).2 h9⟩
 subst this;exact hv
theorem yS (h:dW G A ops (aBj false ops) I f g st)(hE:aNd C G){a0:Act}{V0:Vl}{τ0:Sm}(hU:G.us=true->UsE C U A V0)(Ni:aIt A (f ops.size) g ops.size)(Ht:G.nt<=a0.tmps.size)(Q:Exit->Act->World->Prop)(hQ:∀R K b τ V a w,Inv C U G A ops (aBj false ops) I f g st a0 V0 τ0 (·<ops.size) R K b τ V a w->Q .normal a w):
  ∀(n k:Nat) (R:Nat->Prop) (K:List Bk) (b:Bool) (τ:Sm) (V:Vl) (a:Act) (w:World),k+n=ops.size->Inv C U G A ops (aBj false ops) I f g st a0 V0 τ0 (·<k) R K b τ V a w->wpOps Tryz.prog ops Q (List.range' k n) a w
 | 0,k,R,K,b,τ,V,a,w,hk,hv=>by
  rw[show k=ops.size by omega]at hv;exact hQ _ _ _ _ _ _ _ hv
 | n+1,k,R,K,b,τ,V,a,w,hk,hv=>by
  rw[List.range'_succ,wpOps_cons];refine Inv.turn h hE hU Ni hv Ht (i:=k) A0 (Nat.lt_irrefl k) (fun j hj=>uQ hj) Q (fun R' K' b' τ' V' a' w' h9=>?_);exact yS h hE hU Ni Ht Q hQ n (k+1) R' K' b' τ' V' a' w' A0 (h9.same (fun j hj=>by omega) (fun j hj=>by omega))
theorem aIb (h:dW G A ops (aBj true ops) I f g st)(hE:aNd C G){a0:Act}{V0:Vl}{τ0:Sm}(hU:G.us=true->UsE C U A V0)(Ni:aIt A (f ops.size) g ops.size)(Ht:G.nt<=a0.tmps.size)(Q:Exit->Act->World->Prop)(hQ:∀R K b τ V a w,Inv C U G A ops (aBj true ops) I f g st a0 V0 τ0 (·<ops.size) R K b τ V a w->Q .normal a w):
  ∀(n:Nat) (l:List Nat) (d:Array Bool) (R:Nat->Prop) (K:List Bk) (b:Bool) (τ:Sm) (V:Vl) (a:Act) (w:World),l.length<=n->d.size=ops.size->(∀j,j<ops.size->d[j]? ≠ some true->j ∈ l)->Inv C U G A ops (aBj true ops) I f g st a0 V0 τ0 (fun j=>d[j]?=some true) R K b τ V a w->wpAny Tryz.prog .any ops Q n d a w:=by
 have hms:aBj true ops=kW [] ops.toList:=rfl;have rdy:∀(d:Array Bool) i,i ∈ Region.ready .any ops d ↔ i<ops.size/\d.getD i true=false/\∃o,ops[i]?=some o/\∀e ∈ o.after.toList,Region.binds .any e=true->d.getD e.on false=true:=by
  intro d i;unfold Region.ready;simp only[List.mem_filter,List.mem_range,zC0,Bool.not_eq_true'];constructor
  .
   rintro⟨h1,h2,h3⟩;refine⟨h1,h2, ?_⟩;cases ho:ops[i]? with
   | none=>rw[ho]at h3;simp at h3| some o=>
    rw[ho]at h3;simp only[Option.map_some,zI0,Array.all_eq_true_iff_forall_mem]at h3;refine⟨o,rfl,fun e he hb=>?_⟩;have:=h3 e (by simpa using he);simp only[Bool.or_eq_true,Bool.not_eq_true']at this;rcases this with h9|h9
    .
     rw[hb]at h9;cases h9
    .
     exact h9
  .
   rintro⟨h1,h2,o,ho,h3⟩;refine⟨h1,h2, ?_⟩;rw[ho];simp only[Option.map_some,zI0,Array.all_eq_true_iff_forall_mem];intro e he;simp only[Bool.or_eq_true,Bool.not_eq_true'];cases hb:Region.binds .any e with
   | false=>exact .inl rfl| true=>exact .inr (h3 e (by simpa using he) hb)
 have least:∀(d:Array Bool),d.size=ops.size->Region.ready .any ops d=[]->∀j,j<ops.size->d[j]?=some true:=by
  intro d hd hr j;induction j using Nat.strongRecOn with
  | _ j ih=>
   intro hj;cases hdj:d[j]? with
   | none=>rw[Array.getElem?_eq_none_iff]at hdj;omega| some q=>
    cases q with
    | true=>rfl| false=>
     exfalso;obtain⟨o,ho⟩:=mQ hj;obtain⟨ri,_,Bo⟩:=h.step j o ho;have:j ∈ Region.ready .any ops d:=(rdy d j).2 ⟨hj,by rw[Array.getD_eq_getD_getElem?,hdj];rfl,o,ho,fun e he hb=>by
      have Ad:=mX Bo.edge e he hb;rw[Array.getD_eq_getD_getElem?,ih e.on Ad A0];rfl⟩
     rw[hr]at this;cases this
 have done:∀(d:Array Bool) R K b τ V a w,(∀j,j<ops.size->d[j]?=some true)->Inv C U G A ops (aBj true ops) I f g st a0 V0 τ0 (fun j=>d[j]?=some true) R K b τ V a w->Q .normal a w:=fun d R K b τ V a w Bj hv=>hQ _ _ _ _ _ _ _ (hv.same (fun j hj=>⟨fun _=>hj,fun _=>Bj j hj⟩) (fun j hj=>hj));intro n;induction n with
 | zero=>
  intro l d R K b τ V a w hl hd Ha hv;have Bj:∀j,j<ops.size->d[j]?=some true:=fun j hj=>by
   by_cases h9:d[j]?=some true
   .
    exact h9
   .
    have:=Ha j hj h9;rw[List.length_eq_zero_iff.1 (Nat.le_zero.1 hl)]at this;cases this
  refine⟨?_,done d R K b τ V a w Bj hv⟩;refine List.eq_nil_iff_forall_not_mem.2 fun i hi=>?_;obtain⟨h1,h2,_⟩:=(rdy d i).1 hi;rw[Array.getD_eq_getD_getElem?,Bj i h1]at h2;cases h2
 | succ n ih=>
  intro l d R K b τ V a w hl hd Ha hv;refine⟨fun hr=>done d R K b τ V a w (least d hd hr) hv,fun i hi=>?_⟩;obtain⟨h1,h2,o,ho,h3⟩:=(rdy d i).1 hi;have Mf:¬d[i]?=some true:=fun h9=>by rw[Array.getD_eq_getD_getElem?,h9]at h2;cases h2
  obtain⟨ri,_,Bo⟩:=h.step i o ho;have hr:∀j,bit (aBj true ops) i j=true->d[j]?=some true:=fun j hj=>by
   obtain⟨e,q1,q2,q3,q4⟩:=uC (cF ho) Bo.edge hj;have he:d[e.on]?=some true:=by
    have:=h3 e q1 q2;rw[Array.getD_eq_getD_getElem?]at this;cases hde:d[e.on]? with
    | none=>rw[hde]at this;cases this| some q=>rw[hde]at this;rw[show q=true from this]
   rcases q4 with q4|q4
   .
    rw[<-q4];exact he
   .
    exact hv.cl e.on j he q4
  refine Inv.turn h hE hU Ni hv Ht h1 Mf hr Q (fun R' K' b' τ' V' a' w' h9=>?_);refine ih (l.erase i) (d.setIfInBounds i true) R' K' b' τ' V' a' w' ?_ (by simp[hd]) (fun j hj Ae=>?_) (h9.same (fun j hj=>?_) (fun j hj=>?_))
  .
   rw[List.length_erase_of_mem (Ha i h1 Mf)];omega
  .
   have hne2:j ≠ i:=by rintro rfl;exact Ae (by simp[hd,h1])
   refine(List.mem_erase_of_ne hne2).2 (Ha j hj fun h8=>Ae ?_);rw[Array.getElem?_setIfInBounds_ne (Ne.symm hne2)];exact h8
  .
   by_cases e:j=i
   .
    subst e;simp[hd,hj]
   .
    rw[Array.getElem?_setIfInBounds_ne (Ne.symm e)];exact⟨fun h8=>h8.resolve_right e,.inl⟩
  .
   have:=(zI3.1 hj).1;rw[Array.size_setIfInBounds]at this;omega
end
end Eg
end
section
theorem A3{p:Prop}(h:p:=by kernel_rfl):p:=h
namespace Eg
theorem jG {α:Type}{t:Nat}:∀{l:List (Nat × α)},bH t (del t l)=none
 | []=>rfl| (k,x) :: l=>by
  simp only[del];split
  .
   exact jG
  .
   rename_i e;simp only[bH];rw[if_neg e];exact jG
theorem lI {t:Nat}{x:AV}:∀{l:List Oper} {m:List Ri} {sl:List (Nat × AV)},bH t (lV l m sl)=some x->bH t sl=some x/\∀(j:Nat) (o:Oper) (ri:Ri),l[j]?=some o->m[j]?=some ri->o.dst=some t->ri.un=false
 | [],m,sl,h=>⟨by cases m <;> exact h,fun j o ri q=>by simp at q⟩
 | o :: l,[],sl,h=>⟨h,fun j o ri _ q=>by simp at q⟩
 | o :: l,r :: m,sl,h=>by
  simp only[lV]at h;cases hd:o.dst with
  | none=>
   rw[hd]at h;obtain⟨h1,h2⟩:=lI h;refine⟨h1,fun j o' ri q1 q2 q3=>?_⟩;cases j with
   | zero=>simp only[List.getElem?_cons_zero,zG2]at q1;subst q1;rw[hd]at q3;cases q3| succ j=>rw[List.getElem?_cons_succ]at q1 q2;exact h2 j o' ri q1 q2 q3
  | some d=>
   rw[hd]at h;simp only at h;obtain⟨h1,h2⟩:=lI h;have h3:bH t sl=some x/\(d=t->r.un=false):=by
    split at h1
    .
     rename_i hu;by_cases e:t=d
     .
      subst e;rw[jG]at h1;cases h1
     .
      exact⟨by rw[jZ e]at h1;exact h1,fun e'=>absurd e'.symm e⟩
    .
     rename_i hu;exact⟨h1,fun _=>by simpa using hu⟩
   refine⟨h3.1,fun j o' ri q1 q2 q3=>?_⟩;cases j with
   | zero=>
    simp only[List.getElem?_cons_zero,zG2]at q1 q2;subst q1 q2;rw[hd]at q3;cases q3;exact h3.2 rfl
   | succ j=>rw[List.getElem?_cons_succ]at q1 q2;exact h2 j o' ri q1 q2 q3
theorem mT {t:Nat}{x:AV}{K:List Nat}:∀{l:List (Nat × AV)},bH t (pC K l)=some x->bH t l=some x
 | [],h=>h| (k,y) :: l,h=>by
  simp only[pC]at h;simp only[bH];split at h
  .
   simp only[bH]at h;split at h
   .
    rename_i e;rw[if_pos e];exact h
   .
    rename_i e;rw[if_neg e];exact mT h
  .
   rename_i hk;have h1:=mT h;by_cases e:(k == t)=true
   .
    exfalso;have e':k=t:=by simpa using e
    subst e';have:∀(l:List (Nat × AV)),bH k (pC K l)=none:=fun l=>by
     induction l with
     | nil=>rfl| cons p l ih=>
      obtain⟨q,z⟩:=p;simp only[pC];split
      .
       rename_i hq;simp only[bH];rw[if_neg,ih];intro e9;have e9:q=k:=by simpa using e9
       subst e9;exact hk hq
      .
       exact ih
    rw[this]at h;cases h
   .
    rw[if_neg e];exact h1
theorem aAz:∀{l:List Ri},xU l=false->∀{j:Nat} {ri:Ri},l[j]?=some ri->ri.nq=false
 | [],_,j,ri,h=>by simp at h
 | r :: l,h,j,ri,hj=>by
  simp only[xU,Bool.or_eq_false_iff]at h;cases j with
  | zero=>simp only[List.getElem?_cons_zero,zG2]at hj;subst hj;exact h.1| succ j=>rw[List.getElem?_cons_succ]at hj;exact aAz h.2 hj
section
variable {C:Cx} {U:Value->Prop} {G:Cfg} {A B:AS} {ops:Array Oper} {ms:List Nat} {I:List Ri} {f:Nat->AS} {g:Nat->Out} {st:Nat->Option Bool} {dr:Bool} {e eb:Nat} {ρ0:Nat->Value} {β0:Nat->Nat} {τ τ0:Sm} {V V0:Vl} {a a0:Act} {w w0:World}
theorem dW.sySplit (h:dW G A ops ms I f g st){s:Nat}:∀{n:Nat},n<=ops.size->s<(f n).sy.length->s<A.sy.length\/∃j,j<n/\(f j).sy.length<=s/\s<(f (j+1)).sy.length
 | 0,_,hs=>by rw[h.f0]at hs;exact .inl hs
 | n+1,hn,hs=>by
  rcases zJ1 s (f n).sy.length with h1|h1
  .
   exact(h.sySplit (n:=n) A0 h1).imp id fun ⟨j,q1,q2⟩=>⟨j,by omega,q2⟩
  .
   exact .inr ⟨n,by omega,h1,hs⟩
theorem aIt.of (h:dW G A ops ms I f g st)(hs:Hs C U G e eb ρ0 β0 A τ V a w)(hc:aMv (f ops.size) ((f ops.size).nc++(f ops.size).cf)=true):aIt A (f ops.size) g ops.size:=by
 refine⟨fun c Th=>aAm hc c ?_,fun c Th=>(hs.cf c Th).2⟩;rcases Th with h9|⟨j,h8,h9⟩
 .
  rw[h.cf (zB0 _)];exact List.mem_append_right _ h9
 .
  exact List.mem_append_left _ (h.ncIn h8 (zB0 _) h9)
open Classical in
theorem Inv.fin (h:dW G A ops ms I f g st)(hs:Hs C U G e eb ρ0 β0 A τ0 V0 a0 w0){R:Nat->Prop}{K:List Bk}{b:Bool}(hv:Inv C U G A ops ms I f g st a0 V0 τ0 (·<ops.size) R K b τ V a w):∃V',Hs C U G e eb ρ0 β0 (aEw G ops I (f ops.size)) τ V' a w:=by
 have hK:K=(f ops.size).bk:=hv.at_.bk ops.size (zB0 _) (fun m _ hm _ _=>hm) (fun m _ hm _ _ h9=>by omega);have hb:b=(f ops.size).tg:=hv.at_.tg ops.size (zB0 _) (fun m _ hm _ _=>hm) (fun m _ hm _ _ h9=>by omega);subst hK hb;have kn:=hv.kn
 let V':Vl:={ V with ρ:=fun s=>if Sb A f R s then V.ρ s else .slice none 0 0 }
 have hρ:∀s,Sb A f R s->V'.ρ s=V.ρ s:=fun s h9=>if_pos h9;have hρn:∀s,¬Sb A f R s->V'.ρ s=.slice none 0 0:=fun s h9=>if_neg h9;have hA:A.sy.length<=(f ops.size).sy.length:=by
  have:=h.syLe (k:=0) (n:=ops.size) (zD1 _) (zB0 _);rw[h.f0]at this;exact this
 have hAi:A.ni<=(f ops.size).ni:=by
  have:=h.niLe (k:=0) (n:=ops.size) (zD1 _) (zB0 _);rw[h.f0]at this;exact this
 have hRs:=hv.rl;have Slt:∀s,Sb A f R s->s<(f ops.size).sy.length:=fun s Xt=>by
  rcases Xt with h9|⟨j,h1,h2,h3⟩
  .
   omega
  .
   have:=h.syLe (k:=j+1) (n:=ops.size) A78 (zB0 _);omega
 have Xlt:∀s,Xb A f R s->s<(f ops.size).ni:=fun s Xt=>by
  rcases Xt with h9|⟨j,h1,h2,h3⟩
  .
   omega
  .
   have:=h.niLe (k:=j+1) (n:=ops.size) A78 (zB0 _);omega
 have un:∀j o,ops[j]?=some o->¬R j->(∀x ∈ (g j).ns,x.lo=0/\x.un=false/\x.abv=none)/\(g j).nc=[]:=fun j o ho hnR=>by
  have hj:j<ops.size:=(zI3.1 ho).1;obtain⟨ri,Cu,Bo⟩:=h.step j o ho;cases hst:st j with
  | none=>
   obtain⟨u0,_,Ho,hg,_⟩:=Bo.yes A60;have h1:=Ho hst;simp only[aQn,zC0,Option.isNone_iff_eq_none,Bool.not_eq_true',zF3,beq_iff_eq]at h1;obtain⟨t1,_⟩:=lC (A:=f j) A.sy.length o u0 (wP (st j));rw[hg];refine⟨fun x hx=>?_, ?_⟩
   .
    rw[t1]at hx;obtain⟨⟨q1,q2⟩,q3⟩:=h1.2 x hx;exact⟨q1,q2,q3⟩
   .
    rw[hst];rfl
  | some q=>
   cases q with
   | true=>exact absurd (hv.sl.tt j o ho hj hst) hnR| false=>
    rw[(Bo.no hst).1];exact⟨fun x hx=>(by cases hx),rfl⟩
 have nb:∀s x,at? (f ops.size).sy s=some x->¬Sb A f R s->x.lo=0/\x.un=false/\x.abv=none:=fun s x hx hnS=>by
  rcases h.sySplit (zB0 _) (dB hx) with h1|⟨j,h1,h2,h3⟩
  .
   exact absurd (.inl h1) hnS
  .
   obtain⟨o,ho⟩:=mQ h1;have e1:(f (j+1)).sy.length=(f j).sy.length+(g j).ns.length:=by rw[h.sy1 h1];simp
   have Eb:=h.syNew h1 (q:=s-(f j).sy.length) (x:=x) A0 (by rw[Nat.add_sub_cancel' h2];exact hx);rw[dM]at Eb;exact(un j o ho (fun hR=>hnS (.inr ⟨j,hR,h2,h3⟩))).1 x (zA3 Eb)
 have hB:∀n,n<(f ops.size).bk.length->Bb A ops R (f ops.size).bk n:=fun n hn=>⟨hn,fun j o T ho hT _=>by
  have hg:=(sS h.al (cF ho) hT).1;exact(hv.sl.want j o ho (zI3.1 ho).1).2 fun g' b' e9=>by rw[hg]at e9;cases e9⟩
 have on:∀x u,AV.ok τ V x u->lL (Sb A f R) (Bb A ops R (f ops.size).bk) (Xb A f R) x->AV.ok τ V' x u/\lL (·<(f ops.size).sy.length) (·<(f ops.size).bk.length) (·<(f ops.size).ni) x:=fun x u h1 h2=>⟨AV.on h1 (Sub.refl _) (fun s h9=>hρ s (h2.1 s h9)) (fun _ _=>rfl) (fun _ _=>rfl),h2.mono Slt (fun n h9=>h9.1) Xlt⟩;refine⟨V',⟨⟨kn.fr,fun s x hx _=>?_,fun s x hx _ t ht=>?_,fun n x hx hn=>?_,fun n x hx hn=>?_,fun n m x y hx hy hn hm=>kn.dj n m x y hx hy (hB n hn) (hB m hm),fun n hx hn=>kn.lo n hx (hB n hn),kn.tg,kn.cu⟩,fun t=>?_,fun c hc=>?_,fun s h9=>?_,zF2 hs.es hA,fun n hn=>(hv.β0 n (Nat.lt_of_lt_of_le hn hs.bs)).trans (hs.fb n hn),zF2 hs.bs hv.kl,by rw[hv.nt];exact hs.nt,hv.df.trans hs.df,hv.tq⟩⟩
 .
  by_cases hS:Sb A f R s
  .
   rw[hρ s hS];exact SF.on (kn.sy s x hx hS) (Sub.refl _) fun t ht=>hρ t (kn.sc s x hx hS t ht)
  .
   obtain⟨q1,q2,q3⟩:=nb s x hx hS;rw[hρn s hS];exact⟨SV.nil _,by rw[q1];exact zB0 _,zD1 _,(fun _ _ g' h9=>by cases h9),(fun h9=>by rw[q2]at h9;cases h9),(fun _ a' n' c' h9=>by cases h9;rfl),fun t h9=>by rw[q3]at h9;cases h9⟩
 .
  by_cases hS:Sb A f R s
  .
   exact Slt t (kn.sc s x hx hS t ht)
  .
   rw[SF.sy,(nb s x hx hS).2.2]at ht;cases ht
 .
  obtain⟨q1,q2⟩:=kn.bk n x hx (hB n hn);obtain⟨c1,c2,c3⟩:=kn.bc n x hx (hB n hn);exact⟨Bk.on q1 (fun s h9=>hρ s (c1 s h9)) (fun _ _=>rfl) (fun _ _=>rfl),q2⟩
 .
  obtain⟨c1,c2,c3⟩:=kn.bc n x hx (hB n hn);exact⟨fun s h9=>Slt s (c1 s h9),fun m h9=>(c2 m h9).1,fun c h9=>Xlt c (c3 c h9)⟩
 .
  show((bH t (pC G.keep (lV ops.toList I (f ops.size).sl))).getD (.c .top)).ok τ V' _/\lL _ _ _ ((bH t (pC G.keep (lV ops.toList I (f ops.size).sl))).getD (.c .top))
  cases hf:bH t (pC G.keep (lV ops.toList I (f ops.size).sl)) with
  | none=>exact⟨trivial,(fun s h9=>by cases h9),(fun s h9=>by cases h9),(fun s h9=>by cases h9)⟩
  | some x=>
   obtain⟨h1,h2⟩:=lI (mT hf);rw[zI0];by_cases hw:∃(j:Nat) (o:Oper),ops[j]?=some o/\o.dst=some t
   .
    obtain⟨j,o,ho,hd⟩:=hw;have hj:j<ops.size:=(zI3.1 ho).1;obtain⟨ri,Cu,Bo⟩:=h.step j o ho;have e1:=h.slot1 ho hd (zB0 _) hj;rw[h1]at e1;cases e1;have Ho:=h2 j o ri (cF ho) Cu hd;cases hst:st j with
    | none=>
     have:=(h.row ho Cu).2.2.2.2 hst;rw[Ho]at this;cases this
    | some q=>
     cases q with
     | true=>
      obtain⟨q1,q2⟩:=hv.sl.yes j o t ho hd (hv.sl.tt j o ho hj hst);exact on _ _ q1 q2
     | false=>
      rw[(Bo.no hst).1,hv.sl.no j o t ho hd hj (hv.sl.ff j o ho hj hst)];exact⟨rfl,(fun s h9=>by cases h9),(fun s h9=>by cases h9),(fun s h9=>by cases h9)⟩
   .
    have hn:∀(j:Nat) (o:Oper),ops[j]?=some o->o.dst ≠ some t:=fun j o ho hd=>hw ⟨j,o,ho,hd⟩;rw[h.slot0 (zB0 _) (fun j o _ ho=>hn j o ho)]at h1;obtain⟨q1,q2⟩:=hv.sl.ent t;have e1:A.ev (.tmp t)=x:=by show(bH t A.sl).getD _=x;rw[h1];rfl
    rw[e1]at q1 q2;rw[hv.sl.old t fun j o ho hd=>absurd hd (hn j o ho)];exact on _ _ q1 q2
 .
  have Dc:c ∈ (if xU I then [] else (f ops.size).nc++(f ops.size).cf):=hc;split at Dc
  .
   cases Dc
  .
   rename_i hq;have hq:xU I=false:=by simpa using hq
   obtain⟨c1,c2⟩:=hv.cf fun j ri _ Cu=>aAz hq Cu;have go:c.ok V w->Sb A f R c.s->Sb A f R c.r->c.ok V' w:=fun h1 h2 h3 b j n q i q1 q2 q3 q4=>by
    rw[hρ _ h2]at q1;rw[hρ _ h3];exact h1 b j n q i q1 q2 (Ix.on q3 fun _ _=>rfl) q4
   rcases List.mem_append.1 Dc with h9|h9
   .
    obtain⟨j,h1,h2⟩:=h.ncOf (zB0 _) h9;obtain⟨o,ho⟩:=mQ h1;have hR:R j:=by
     by_cases hR:R j
     .
      exact hR
     .
      rw[(un j o ho hR).2]at h2;cases h2
    obtain⟨q1,q2,q3⟩:=hv.nc j hR c h2;exact⟨go (c2 j hR c h2) q1 q2,Slt _ q1,Slt _ q2,fun x hx=>Xlt x (q3 x hx)⟩
   .
    rw[h.cf (zB0 _)]at h9;obtain⟨_,q1,q2,q3⟩:=hs.cf c h9;exact⟨go (c1 c h9) (.inl q1) (.inl q2),Nat.lt_of_lt_of_le q1 hA,Nat.lt_of_lt_of_le q2 hA,fun x hx=>Nat.lt_of_lt_of_le (q3 x hx) hAi⟩
 .
  rw[hρ s (.inl (Nat.lt_of_lt_of_le h9 hs.es)),hv.ρ0 s (Nat.lt_of_lt_of_le h9 hs.es)];exact hs.fs s h9
theorem tP (hE:Env C U G e eb ρ0)(h:region G A ops dr=some B)(hs:Hs C U G e eb ρ0 β0 A τ V a w)(id:Nat){Q:Exit->Act->World->Prop}(hQ:∀τ V a w,Hs C U G e eb ρ0 β0 B τ V a w->Q .normal a w):(Code.region id ops dr).wp Tryz.prog Q a w:=by
 obtain⟨I,f,g,st,hr,hc,rfl,hI⟩:=aC1 h;cases dr with
 | false=>
  refine wp_region ?_;rw[List.range_eq_range'];exact yS hr hE.z (hs.usE hE) (aIt.of hr hs hc) (Nat.le_of_eq hs.nt.symm) Q (fun R K b τ' V' a' w' hv=>(Inv.fin hr hs hv).elim fun V2 h9=>hQ _ V2 _ _ h9) ops.size 0 _ _ _ τ V a w A0 ((Inv.start hr hs).same (fun j hj=>by simp) (fun j hj=>by omega))
 | true=>
  have Ee:Hs C U G e eb ρ0 β0 A τ V a { w with drawn:=w.drawn+1 }:=hs.heq rfl rfl rfl rfl;refine wp_region_any A3 ?_;refine aIb hr hE.z (Ee.usE hE) (aIt.of hr Ee hc) (Nat.le_of_eq Ee.nt.symm) Q (fun R K b τ' V' a' w' hv=>(Inv.fin hr Ee hv).elim fun V2 h9=>hQ _ V2 _ _ h9) ops.size (List.range ops.size) _ _ _ _ τ V a _ A8 A8 (fun j hj _=>List.mem_range.2 hj) ((Inv.start hr Ee).same (fun j hj=>by simp[hj]) (fun j hj=>?_));simp only[Array.getElem?_replicate]at hj;split at hj
  .
   assumption
  .
   cases hj
end
end Eg
end
section
namespace Eg
section
variable {C:Cx} {U:Value->Prop} {G:Cfg} {A B J:AS} {e eb:Nat} {ρ0:Nat->Value} {β0:Nat->Nat} {τ:Sm} {V:Vl} {a:Act} {w:World} {m:Mp}
theorem Hs.ev (h:Hs C U G e eb ρ0 β0 A τ V a w)(x:Operand):(A.ev x).ok τ V (a.eval x)/\lL (·<A.sy.length) (·<A.bk.length) (·<A.ni) (A.ev x):=by
 cases x with
 | tmp t=>exact h.sl t| const v=>exact⟨aFh τ V v,aFi _ _ _ v⟩| _=>exact⟨trivial,fun s h=> A58,fun s h=> A58,fun s h=> A58⟩
theorem Hs.bound (h:Hs C U G e eb ρ0 β0 A τ V a w){s:Nat}{f f':SF}(hf:at? A.sy s=some f)(hk:f'.k=f.k/\f'.own=f.own/\f'.un=f.un/\f'.c0=f.c0/\f'.abv=f.abv)(hl:f'.lo<=ln (V.ρ s))(hh:ln (V.ρ s)<=f'.hi):Hs C U G e eb ρ0 β0 { A with sy:=put A.sy s f' } τ V a w:=by
 obtain⟨k1,k2,k3,k4,k5⟩:=hk;have Ah:(put A.sy s f').length=A.sy.length:=mN _ _ _;have hS:(fun x=>x<({ A with sy:=put A.sy s f' }:AS).sy.length)=(fun x=>x<A.sy.length):=by funext x;show(x<(put A.sy s f').length)=_;rw[Ah]
 have k:=h.kn;refine⟨?_, ?_, ?_,h.fs,by show e<=(put A.sy s f').length;rw[Ah];exact h.es,h.fb,h.bs,h.nt,h.df,h.tq⟩
 .
  rw[hS];refine⟨k.fr,fun q x hx hq=>?_,fun q x hx hq=>?_,k.bk,k.bc,k.dj,k.lo,k.tg,k.cu⟩
  .
   have Eb:at? (put A.sy s f') q=some x:=hx;rcases sQ Eb with⟨rfl,rfl,_⟩|⟨_,h2⟩
   .
    obtain⟨q1,q2,q3,q4,q5,q6,q7⟩:=k.sy q f hf hq;exact⟨by rw[k1];exact q1,hl,hh,by rw[k2];exact q4,by rw[k3];exact q5,by rw[k4];exact q6,by rw[k5];exact q7⟩
   .
    exact k.sy q x h2 hq
  .
   have Eb:at? (put A.sy s f') q=some x:=hx;rcases sQ Eb with⟨rfl,rfl,_⟩|⟨_,h2⟩
   .
    have:=k.sc q f hf hq;unfold SF.sy at this ⊢;rw[k5];exact this
   .
    exact k.sc q x h2 hq
 .
  rw[hS];exact h.sl
 .
  intro c hc;show _/\c.s<(put A.sy s f').length/\c.r<(put A.sy s f').length/\_
  rw[Ah];exact h.cf c hc
theorem oM:∀{l:List Ct} {A:AS},(∀c ∈ l,c.s<A.sy.length/\c.ok V)->Hs C U G e eb ρ0 β0 A τ V a w->∃B,refine l A=some B/\Hs C U G e eb ρ0 β0 B τ V a w
 | [],A,_,h=>⟨A,rfl,h⟩| c :: l,A,hc,h=>by
  obtain⟨h1,h2⟩:=hc c A8;obtain⟨f,hf⟩:∃f,at? A.sy c.s=some f:=by rw[dM];exact⟨_,zA0 h1⟩
  obtain⟨_,q2,q3,_⟩:=h.kn.sy c.s f hf h1;have Fs:∀f',Hs C U G e eb ρ0 β0 { A with sy:=put A.sy c.s f' } τ V a w->∃B,refine l { A with sy:=put A.sy c.s f' }=some B/\Hs C U G e eb ρ0 β0 B τ V a w:=fun f' h9=>oM (fun d hd=>by
   obtain⟨q,q'⟩:=hc d (by simp[hd]);exact⟨by show d.s<(put A.sy c.s f').length;rw[mN];exact q,q'⟩) h9
  unfold Ct.ok at h2;simp only[refine,hf];split at h2
  .
   rename_i hg;rw[if_pos hg,if_neg A10];exact Fs _ (h.bound hf ⟨rfl,rfl,rfl,rfl,rfl⟩ (Nat.max_le.2 ⟨q2,h2⟩) q3)
  .
   rename_i hg;rw[if_neg hg,if_neg A10];exact Fs _ (h.bound hf ⟨rfl,rfl,rfl,rfl,rfl⟩ q2 (Nat.le_min.2 ⟨q3,h2⟩))
def Vl.by (V:Vl)(m:Mp):Vl:={ V with ρ:=fun s=>match at? m s with|some (some t)=>V.ρ t|some none=>.slice none 0 0|none=>V.ρ s }
theorem Vl.by_some {V:Vl}{s t:Nat}(h:at? m s=some (some t)):(V.by m).ρ s=V.ρ t:=by show(match at? m s with|some (some t)=>V.ρ t|some none=>_|none=>_)=_;rw[h]
theorem Vl.by_none {V:Vl}{s:Nat}(h:at? m s=some none):(V.by m).ρ s=.slice none 0 0:=by show(match at? m s with|some (some t)=>V.ρ t|some none=>_|none=>_)=_;rw[h]
theorem tH {i s:Nat}(h:sEq m i s=true):at? m i=some (some s):=by
 unfold sEq at h;split at h
 .
  rename_i t e;rw[e,show t=s by simpa using h]
 .
  cases h
theorem aJf {S B' X:Nat->Prop}(h:Kn C U B S B' X τ V w){x y:CV}{v:Value}(hl:leC B m x y=true)(hy:y.ok V v)(hs:∀s ∈ y.sy,S s):x.ok (V.by m) v/\(∀s ∈ x.sy,s<m.length)/\x.is=[]:=by
 have lt:∀{i s:Nat},sEq m i s=true->i<m.length:=fun h9=>dB (tH h9);cases x with
 | top=>exact⟨trivial,fun s h9=> A14,rfl⟩
 | und=>cases y <;> simp[leC]at hl;exact⟨hy,fun s h9=> A14,rfl⟩
 | int lo hi=>
  simp only[leC]at hl;split at hl
  .
   rename_i a b hr;simp only[zC0,zE3]at hl;obtain⟨n,rfl,q1,q2⟩:=iE h hy hs hr;exact⟨⟨n,rfl,by omega,by omega⟩,fun s h9=> A14,rfl⟩
  .
   cases hl
 | len s k=>
  cases y <;> simp only[leC,Bool.false_eq_true,zC0,beq_iff_eq]at hl
  obtain⟨h1,rfl⟩:=hl;refine⟨?_,fun s' h9=>by simp only[CV.sy,List.mem_singleton]at h9;subst h9;exact lt h1,rfl⟩;simp only[CV.ok]at hy ⊢;rw[Vl.by_some (tH h1)];exact hy
 | idx s k=>
  cases y <;> simp only[leC,Bool.false_eq_true,zC0,beq_iff_eq]at hl
  obtain⟨h1,rfl⟩:=hl;refine⟨?_,fun s' h9=>by simp only[CV.sy,List.mem_singleton]at h9;subst h9;exact lt h1,rfl⟩;simp only[CV.ok]at hy ⊢;rw[Vl.by_some (tH h1)];exact hy
 | num c s k=>simp[leC]at hl| byte=>cases y <;> simp[leC]at hl;exact⟨hy,fun s h9=> A14,rfl⟩
 | tv b=>
  cases y <;> simp only[leC,Bool.false_eq_true,beq_iff_eq]at hl
  subst hl;exact⟨hy,fun s h9=> A14,rfl⟩
 | bl t f=>
  cases t with
  | cons _ _=>simp[leC]at hl| nil=>
   cases f with
   | cons _ _=>simp[leC]at hl| nil=>
    refine⟨?_,fun s h9=> A14,rfl⟩;cases y <;> simp[leC,isB]at hl
    .
     rename_i b;rw[show v=.bool b from hy];exact⟨b,rfl,fun _ c hc=> A89,fun _ c hc=> A89⟩
    .
     obtain⟨b,rfl,_⟩:=hy;exact⟨b,rfl,fun _ c hc=> A89,fun _ c hc=> A89⟩
 | str=>cases y <;> simp[leC]at hl;exact⟨hy,fun s h9=> A14,rfl⟩
 | sl s=>
  cases y <;> simp only[leC,Bool.false_eq_true]at hl
  .
   exact⟨by show v=_;rw[Vl.by_some (tH hl)];exact hy,fun s' h9=>by simp only[CV.sy,List.mem_singleton]at h9;subst h9;exact lt hl,rfl⟩
  .
   split at hl
   .
    rename_i h1;exact⟨by show v=_;rw[Vl.by_none h1];exact hy,fun s' h9=>by simp only[CV.sy,List.mem_singleton]at h9;subst h9;exact dB h1,rfl⟩
   .
    cases hl
 | nil=>cases y <;> simp[leC]at hl;exact⟨hy,fun s h9=> A14,rfl⟩
 | ptr b p=>
  cases y <;> simp only[leC,Bool.false_eq_true,zC0,beq_iff_eq]at hl
  obtain⟨rfl,rfl⟩:=hl;exact⟨hy,fun s h9=> A14,rfl⟩
 | elp s k ix p=>
  cases ix with
  | u=>
   cases y <;> simp only[leC,Bool.false_eq_true,zC0,beq_iff_eq]at hl
   obtain⟨⟨h1,h2⟩,rfl⟩:=hl;have:=Rs.eq_eq h2;subst this;obtain⟨b,j,n,c,i,q1,q2,q3,_⟩:=hy;exact⟨⟨b,j,n,c,i,by rw[Vl.by_some (tH h1)];exact q1,q2,q3,trivial⟩,fun s' h9=>by simp only[CV.sy,List.mem_singleton]at h9;subst h9;exact lt h1,rfl⟩
  | _=>simp[leC]at hl
theorem zI {S B' X:Nat->Prop}(h:Kn C U B S B' X τ V w):∀{l r:List CV} {vs:List Value},leL B m l r=true->fQ V r vs->(∀s ∈ r.flatMap CV.sy,S s)->fQ (V.by m) l vs/\(∀s ∈ l.flatMap CV.sy,s<m.length)/\l.flatMap CV.is=[]
 | [],[],vs,_,hv,_=>⟨hv,fun s h9=> A14,rfl⟩
 | [],_ :: _,_,hl,_,_=>by cases hl
 | _ :: _,[],_,hl,_,_=>by cases hl
 | x :: l,y :: r,vs,hl,⟨v,us,e,h1,h2⟩,hs=>by
  simp only[leL,zC0]at hl;obtain⟨q1,q2,q3⟩:=aJf h hl.1 h1 fun s h9=>hs s (by rw[List.flatMap_cons];exact List.mem_append_left _ h9);obtain⟨p1,p2,p3⟩:=zI h hl.2 h2 fun s h9=>hs s (by rw[List.flatMap_cons];exact List.mem_append_right _ h9);refine⟨⟨v,us,e,q1,p1⟩,fun s h9=>?_,by rw[List.flatMap_cons,q3,p3];rfl⟩;rw[List.flatMap_cons]at h9;rcases List.mem_append.1 h9 with h9|h9
  .
   exact q2 s h9
  .
   exact p2 s h9
theorem aOk {S B' X:Nat->Prop}(h:Kn C U B S B' X τ V w){x y:AV}{v:Value}(hl:leA B m x y=true)(hy:y.ok τ V v)(hs:∀s ∈ y.sy,S s):x.ok τ (V.by m) v/\(∀s ∈ x.sy,s<m.length)/\x.is=[]:=by
 have top:AV.ok τ (V.by m) (.c .top) v/\(∀s ∈ AV.sy (.c .top),s<m.length)/\AV.is (.c .top)=[]:=⟨trivial,fun s h9=> A14,rfl⟩
 cases x with
 | c x=>
  by_cases hx:x=.top
  .
   subst hx;exact top
  .
   cases y with
   | c y=>
    have hl':leC B m x y=true:=by cases x <;> first|exact hl|exact absurd rfl hx
    exact aJf h hl' hy hs
   | _=>cases x <;> first|exact absurd rfl hx|cases hl
 | rc t=>
  cases y <;> simp only[leA,Bool.false_eq_true,beq_iff_eq]at hl
  subst hl;exact⟨hy,fun s h9=> A14,rfl⟩
 | agg l=>
  cases y <;> simp only[leA,Bool.false_eq_true]at hl
  obtain⟨vs,e,h1⟩:=hy;obtain⟨q1,q2,q3⟩:=zI h hl h1 hs;exact⟨⟨vs,e,q1⟩,q2,q3⟩
 | tup _ _=>cases y <;> simp[leA]at hl
theorem aDr:∀{l:List (Nat × AV)},aQq B m l=true->∀{t:Nat} {x:AV},bH t l=some x->∃y,bH t B.sl=some y/\leA B m x y=true
 | [],_,_,_,h=>by cases h
 | (n,z) :: l,hl,t,x,h=>by
  simp only[aQq,zC0]at hl;simp only[bH]at h;split at h
  .
   rename_i hn;cases h;have hn:n=t:=by simpa using hn
   subst hn;have h1:=hl.1;split at h1
   .
    rename_i y hy;exact⟨y,hy,h1⟩
   .
    cases h1
  .
   exact aDr hl.2 h
theorem nE:∀{l r:List Bk},leB B m l r=true->∀{n:Nat} {x:Bk},at? l n=some x->∃y,at? r n=some y/\((x=.cur/\y=.cur)\/∃T p q,x=.cells T p/\y=.cells T q/\leL B m p q=true)
 | [],_,_,_,_,h=>by simp[at?]at h
 | .cur :: l,[],hl,_,_,_=>by cases hl
 | .cells _ _ :: l,[],hl,_,_,_=>by cases hl
 | .cur :: l,.cells _ _ :: r,hl,_,_,_=>by cases hl
 | .cells _ _ :: l,.cur :: r,hl,_,_,_=>by cases hl
 | .cur :: l,.cur :: r,hl,n,x,h=>by
  cases n with
  | zero=>simp only[at?,zG2]at h;subst h;exact⟨.cur,rfl,.inl ⟨rfl,rfl⟩⟩| succ n=>exact nE (l:=l) (r:=r) hl h
 | .cells T p :: l,.cells T' q :: r,hl,n,x,h=>by
  simp only[leB,zC0,beq_iff_eq]at hl;obtain⟨⟨rfl,h1⟩,h2⟩:=hl;cases n with
  | zero=>simp only[at?,zG2]at h;subst h;exact⟨_,rfl,.inr ⟨T,p,q,rfl,rfl,h1⟩⟩| succ n=>exact nE (l:=l) (r:=r) h2 h
theorem wJ:∀{m:Mp} {l:List SF},aM6 B m l=true->m.length=l.length/\∀{s:Nat} {f:SF},at? l s=some f->(∃t g,at? m s=some (some t)/\at? B.sy t=some g/\leF f g=true)\/(at? m s=some none/\f.lo=0/\f.un=false/\f.abv=none)
 | [],[],_=>⟨rfl,fun h=>by simp[at?]at h⟩
 | [],_ :: _,h=>by cases h
 | none :: _,[],h=>by cases h
 | some _ :: _,[],h=>by cases h
 | some t :: m,f :: l,h=>by
  simp only[aM6,zC0]at h;obtain⟨h1,h2⟩:=wJ h.2;refine⟨by simp[h1],fun {s f'} hs=>?_⟩;cases s with
  | zero=>
   simp only[at?,zG2]at hs;subst hs;have h3:=h.1;split at h3
   .
    rename_i g hg;exact .inl ⟨t,g,rfl,hg,h3⟩
   .
    cases h3
  | succ s=>exact h2 hs
 | none :: m,f :: l,h=>by
  simp only[aM6,zC0,beq_iff_eq,Bool.not_eq_true',Option.isNone_iff_eq_none]at h;obtain⟨h1,h2⟩:=wJ h.2;refine⟨by simp[h1],fun {s f'} hs=>?_⟩;cases s with
  | zero=>
   simp only[at?,zG2]at hs;subst hs;exact .inr ⟨rfl,h.1.1.1,h.1.1.2,h.1.2⟩
  | succ s=>exact h2 hs
theorem aD9:∀{e i:Nat} {m:Mp},aQr e i m=true->∀q,q<e->at? m q=some (some (i+q))
 | 0,_,_,_,q,h=>by omega
 | e+1,i,[],h,q,_=>by cases h
 | e+1,i,none :: m,h,q,_=>by cases h
 | e+1,i,some s :: m,h,q,hq=>by
  simp only[aQr,zC0,beq_iff_eq]at h;obtain⟨rfl,h2⟩:=h;cases q with
  | zero=>rfl| succ q=>
   have:=aD9 h2 q A0;simp only[at?];rw[this];congr 2;omega
theorem aOj (hl:le eb e J A m=true)(h:Hs C U G e eb ρ0 β0 A τ V a w):Hs C U G e eb ρ0 β0 J τ (V.by m) a w:=by
 simp only[le,zC0,Bool.or_eq_true,Bool.not_eq_true',aI2,zF3,Nat.blt_eq,Nat.ble_eq]at hl;obtain⟨⟨⟨⟨⟨⟨⟨h1,h2⟩,h3⟩,h4⟩,h5⟩,h6⟩,h7⟩,h8,h9⟩:=hl;obtain⟨hm,h3'⟩:=wJ h3;have kn:=h.kn;have hid:=aD9 h4;have sl:∀t x,bH t J.sl=some x->x.ok τ (V.by m) (a.eval (.tmp t))/\lL (·<J.sy.length) (·<J.bk.length) (·<J.ni) x:=fun t x hx=>by
  obtain⟨y,q1,q2⟩:=aDr h1 hx;have ey:A.ev (.tmp t)=y:=by show(bH t A.sl).getD _=y;rw[q1];rfl
  obtain⟨q3,q4⟩:=h.sl t;rw[ey]at q3 q4;obtain⟨p1,p2,p3⟩:=aOk kn q2 q3 q4.1;exact⟨p1,fun s h9=>by rw[<-hm];exact p2 s h9,fun n hn=>h8 _ (pN hx) n hn,fun c hc=>by rw[p3]at hc;cases hc⟩
 refine⟨⟨kn.fr,fun s f hf hs=>?_,fun s f hf hs t ht=>?_,fun n x hx hn=>?_,fun n x hx hn=>?_,fun n k x y hx hy hn hk=>?_,fun n hx hn=>?_,fun ht=>kn.tg ?_,fun n hx=>?_⟩,fun t=>?_,fun c hc=>?_,fun s hs=>?_, ?_,h.fb, ?_,h.nt,h.df,h.tq⟩
 .
  rcases h3' hf with⟨t,g,q1,q2,q3⟩|⟨q1,q2,q3,q4⟩
  .
   rw[Vl.by_some q1];simp only[leF,zC0,zE3,Bool.or_eq_true,Bool.not_eq_true',Option.isNone_iff_eq_none]at q3;obtain⟨⟨⟨⟨⟨⟨z1,z2⟩,z3⟩,z4⟩,z5⟩,z6⟩,z7⟩:=q3;obtain⟨p1,p2,p3,p4,p5,p6,_⟩:=kn.sy t g q2 (dB q2);rw[<-Rs.eq_eq z1]at p1;exact⟨p1,by omega,by omega,fun ho=>p4 (z4.resolve_left (by rw[ho];simp)),fun ho=>p5 (z5.resolve_left (by rw[ho];simp)),fun ho=>p6 (z6.resolve_left (by rw[ho];simp)),fun t h9=>by rw[z7]at h9;cases h9⟩
  .
   rw[Vl.by_none q1];exact⟨SV.nil _,by rw[q2];exact zB0 _,zD1 _,(fun _ _ g' h9=>by cases h9),(fun h9=>by rw[q3]at h9;cases h9),(fun _ a' n' c' h9=>by cases h9;rfl),fun t h9=>by rw[q4]at h9;cases h9⟩
 .
  have:f.abv=none:=by
   rcases h3' hf with⟨t,g,q1,q2,q3⟩|⟨q1,q2,q3,q4⟩
   .
    simp only[leF,zC0,Option.isNone_iff_eq_none]at q3;exact q3.2
   .
    exact q4
  rw[SF.sy,this]at ht;cases ht
 .
  obtain⟨y,q1,q2⟩:=nE h2 hx;obtain⟨p1,p2⟩:=kn.bk n y q1 (dB q1);refine⟨?_,p2⟩;rcases q2 with⟨rfl,rfl⟩|⟨T,p,q,rfl,rfl,q3⟩
  .
   exact p1
  .
   obtain⟨vs,z1,z2⟩:=p1;exact⟨vs,z1,(zI kn q3 z2 (kn.bc n _ q1 (dB q1)).1).1⟩
 .
  obtain⟨y,q1,q2⟩:=nE h2 hx;refine⟨?_,fun b hb=>h9 x (by rw[dM]at hx;exact zA3 hx) b hb, ?_⟩;all_goals
   rcases q2 with⟨rfl,rfl⟩|⟨T,p,q,rfl,rfl,q3⟩
   .
    intro s hs;cases hs
   .
    obtain⟨_,vs,z1,z2⟩:True/\∃vs,Blk w (V.β n) T vs/\fQ V q vs:=⟨trivial,(kn.bk n _ q1 (dB q1)).1⟩
    obtain⟨_,p2,p3⟩:=zI kn q3 z2 (kn.bc n _ q1 (dB q1)).1;first
     | exact fun s hs=>by rw[<-hm];exact p2 s hs
     | exact fun c hc=>by have Dc:c ∈ p.flatMap CV.is:=hc;rw[p3]at Dc;cases Dc
 .
  obtain⟨y1,q1,_⟩:=nE h2 hx;obtain⟨y2,q2,_⟩:=nE h2 hy;exact kn.dj n k y1 y2 q1 q2 (dB q1) (dB q2)
 .
  obtain⟨y,q1,q2⟩:=nE h2 hx;rcases q2 with⟨_,rfl⟩|⟨T,p,q,h9,_⟩
  .
   exact kn.lo n q1 (dB q1)
  .
   cases h9
 .
  rcases h5 with h5|h5
  .
   rw[ht]at h5;cases h5
  .
   exact h5
 .
  obtain⟨y,q1,q2⟩:=nE h2 hx;rcases q2 with⟨_,rfl⟩|⟨T,p,q,h9,_⟩
  .
   exact kn.cu n q1
  .
   cases h9
 .
  show((bH t J.sl).getD (.c .top)).ok τ _ _/\lL _ _ _ ((bH t J.sl).getD (.c .top))
  cases hx:bH t J.sl with
  | none=>exact⟨trivial,(fun s h9=>by cases h9),(fun s h9=>by cases h9),(fun s h9=>by cases h9)⟩
  | some x=>exact sl t x hx
 .
  split at h6
  .
   rename_i e9;rw[e9]at hc;cases hc
  .
   cases h6
 .
  have:=hid s hs;rw[zJ0]at this;rw[Vl.by_some this];exact h.fs s hs
 .
  rw[<-hm];cases e with
  | zero=>exact zD1 _| succ e=>exact dB (hid e (Nat.lt_succ_self e))
 .
  have:=h.bs;omega
theorem aLa (hl:le eb e J A m=true)(h:Hs C U G e eb ρ0 β0 A τ V a w):∃V',Hs C U G e eb ρ0 β0 J τ V' a w:=⟨_,aOj hl h⟩
theorem aFe:∀{l:List AS},all eb e J l=true->∀A ∈ l,le eb e J A (aGz e J A)=true
 | [],_,A,h=>by cases h
 | B :: l,hl,A,h=>by
  simp only[all,zC0]at hl;rcases zG3.1 h with rfl|h
  .
   exact hl.1
  .
   exact aFe hl.2 A h
theorem yZ {l:List AS}(hm:aGy eb e l=some J)(hA:A ∈ l)(h:Hs C U G e eb ρ0 β0 A τ V a w):∃V',Hs C U G e eb ρ0 β0 J τ V' a w:=by
 simp only[aGy,Option.bind_eq_some_iff]at hm;obtain⟨K,_,h2⟩:=hm;split at h2
 .
  rename_i h3;cases h2;exact aLa (aFe h3 A hA) h
 .
  cases h2
end
end Eg
end
section
theorem QA36{p:Prop}(h:p:=by
 cases z <;> first|exact hm.elim|skip
 exact hQ _ _ _ ⟨_,List.mem_append_left _ (eR A8 hp),hm,τ2,V2,De⟩):p:=h
theorem QA95{p:Prop}(h:p:=by
 simp only[kU,Option.map_some,Option.bind_eq_some_iff,zG2,zJ2]at hx
 obtain⟨_,_,_,h9⟩:=hx
 cases h9):p:=h
namespace Eg
def ExM:Ex->Exit->Prop
 | .normal,.normal=>True| .exit i,.exit j=>i=j| .ret,.ret=>True| _,_=>False
section
variable {C:Cx} {U:Value->Prop} {G:Cfg} {A B J:AS} {e eb:Nat} {ρ0:Nat->Value} {β0:Nat->Nat} {τ:Sm} {V:Vl} {a:Act} {w:World}
def Pl (C:Cx)(U:Value->Prop)(G:Cfg)(e eb:Nat)(ρ0:Nat->Value)(β0:Nat->Nat)(l:List (Ex × AS))(x:Exit)(a:Act)(w:World):Prop:=∃p ∈ l,ExM p.1 x/\∃τ V,Hs C U G e eb ρ0 β0 p.2 τ V a w
theorem Pl.mono {l r:List (Ex × AS)}(h:∀p ∈ l,p ∈ r){x:Exit}(hp:Pl C U G e eb ρ0 β0 l x a w):Pl C U G e eb ρ0 β0 r x a w:=by
 obtain⟨p,h1,h2⟩:=hp;exact⟨p,h p h1,h2⟩
theorem gF:∀{l:List (Ex × AS)},(.normal,A) ∈ l->A ∈ oS l
 | [],h=>by cases h
 | (.normal,B) :: l,h=>by
  rcases zG3.1 h with h|h
  .
   cases h;exact List.mem_cons_self ..
  .
   exact List.mem_cons_of_mem _ (gF h)
 | (.exit _,B) :: l,h=>by
  rcases zG3.1 h with h|h
  .
   cases h
  .
   exact gF (l:=l) h
 | (.ret,B) :: l,h=>by
  rcases zG3.1 h with h|h
  .
   cases h
  .
   exact gF (l:=l) h
theorem eR {p:Ex × AS}(hp:p.1 ≠ .normal):∀{l:List (Ex × AS)},p ∈ l->p ∈ tV l
 | [],h=>by cases h
 | (.normal,B) :: l,h=>by
  rcases zG3.1 h with h|h
  .
   subst h;exact absurd rfl hp
  .
   exact eR hp (l:=l) h
 | (.exit _,B) :: l,h=>by
  rcases zG3.1 h with h|h
  .
   exact zG3.2 (.inl h)
  .
   exact List.mem_cons_of_mem _ (eR hp h)
 | (.ret,B) :: l,h=>by
  rcases zG3.1 h with h|h
  .
   exact zG3.2 (.inl h)
  .
   exact List.mem_cons_of_mem _ (eR hp h)
theorem kC {id:Nat}{p:Ex × AS}(hp:p.1=.normal\/p.1=.exit id):∀{l:List (Ex × AS)},p ∈ l->p.2 ∈ xL id l
 | [],h=>by cases h
 | (.normal,B) :: l,h=>by
  rcases zG3.1 h with h|h
  .
   subst h;exact List.mem_cons_self ..
  .
   exact List.mem_cons_of_mem _ (kC hp h)
 | (.exit i,B) :: l,h=>by
  simp only[xL];rcases zG3.1 h with h|h
  .
   subst h;have:i=id:=by rcases hp with hp|hp <;> cases hp;rfl
   subst this;rw[if_pos A8];exact List.mem_cons_self ..
  .
   split
   .
    exact List.mem_cons_of_mem _ (kC hp h)
   .
    exact kC hp h
 | (.ret,B) :: l,h=>by
  rcases zG3.1 h with h|h
  .
   subst h;rcases hp with hp|hp <;> cases hp
  .
   exact kC hp (l:=l) h
theorem jR {id:Nat}{p:Ex × AS}(hp:p.1 ≠ .normal/\p.1 ≠ .exit id):∀{l:List (Ex × AS)},p ∈ l->p ∈ stays id l
 | [],h=>by cases h
 | (.normal,B) :: l,h=>by
  rcases zG3.1 h with h|h
  .
   subst h;exact absurd rfl hp.1
  .
   exact jR hp (l:=l) h
 | (.exit i,B) :: l,h=>by
  simp only[stays];rcases zG3.1 h with h|h
  .
   subst h;rw[if_neg (by simp only[beq_iff_eq];rintro rfl;exact hp.2 rfl)];exact List.mem_cons_self ..
  .
   split
   .
    exact jR hp h
   .
    exact List.mem_cons_of_mem _ (jR hp h)
 | (.ret,B) :: l,h=>by
  rcases zG3.1 h with h|h
  .
   exact zG3.2 (.inl h)
  .
   exact List.mem_cons_of_mem _ (jR hp h)
theorem tB {f:AS->Option (List (Ex × AS))}:∀{l:List AS} {r:List (Ex × AS)},aF2 f l=some r->A ∈ l->∃x,f A=some x/\∀p ∈ x,p ∈ r
 | [],_,_,h=>by cases h
 | B :: l,r,hr,h=>by
  simp only[aF2,Option.bind_eq_some_iff,zF0]at hr;obtain⟨x,h1,y,h2,rfl⟩:=hr;rcases zG3.1 h with rfl|h
  .
   exact⟨x,h1,fun p hp=>List.mem_append_left _ hp⟩
  .
   obtain⟨z,q1,q2⟩:=tB h2 h;exact⟨z,q1,fun p hp=>List.mem_append_right _ (q2 p hp)⟩
theorem tN {f:AS->Option (List (Ex × AS))}{c:Code}{Q:Exit->Act->World->Prop}(hf:∀(B:AS) (x:List (Ex × AS)) (τ:Sm) (V:Vl) (a:Act) (w:World) (Q:Exit->Act->World->Prop),f B=some x->Hs C U G e eb ρ0 β0 B τ V a w->(∀y a w,Pl C U G e eb ρ0 β0 x y a w->Q y a w)->c.wp Tryz.prog Q a w):
  ∀(k:Nat) (L:List AS) (r:List (Ex × AS)) (B:AS) (τ:Sm) (V:Vl) (a:Act) (w:World),rounds eb e f k L=some r->B ∈ L->Hs C U G e eb ρ0 β0 B τ V a w->(∀y a w,Pl C U G e eb ρ0 β0 r y a w->Q y a w)->Code.rounds Tryz.prog c Q k a w
 | _,[],_,_,_,_,_,_,_,hB,_,_=>by cases hB
 | 0,_ :: _,_,_,_,_,_,_,hr,_,_,_=>by cases hr
 | k+1,A :: l,r,B,τ,V,a,w,hr,hB,hs,hQ=>by
  simp only[rounds,Option.bind_eq_some_iff,zF0]at hr;obtain⟨H,h1,x,h2,y,h3,rfl⟩:=hr;obtain⟨V',Ee⟩:=yZ h1 hB hs;rw[zE2];refine hf H x τ V' a w _ h2 Ee ?_;rintro z a' w' ⟨p,hp,hm,τ2,V2,De⟩;obtain⟨px,pa⟩:=p;cases px with
  | normal=>
   cases z <;> first|exact hm.elim|skip
   exact tN hf k _ y pa τ2 V2 a' w' h3 (gF hp) De fun y9 a9 w9 h9=>hQ y9 a9 w9 (h9.mono fun q hq=>List.mem_append_right _ hq)
  | exit i=>
   exact QA36
  | ret=>
   exact QA36
theorem xM (hE:Env C U G e eb ρ0):∀(n:Nat) (c:Code) (A:AS) (l:List (Ex × AS)) (τ:Sm) (V:Vl) (a:Act) (w:World) (Q:Exit->Act->World->Prop),nR G eb e n c A=some l->Hs C U G e eb ρ0 β0 A τ V a w->(∀y a w,Pl C U G e eb ρ0 β0 l y a w->Q y a w)->c.wp Tryz.prog Q a w:=by
 intro n;induction n with
 | zero=>intro c A l τ V a w Q h;simp[nR]at h| succ n ih=>
  intro c A l τ V a w Q h hs hQ;cases c with
  | skip=>simp only[nR,zG2]at h;subst h;exact wp_skip (hQ _ _ _ ⟨_,List.mem_singleton.2 rfl,trivial,τ,V,hs⟩)| label _=>simp only[nR,zG2]at h;subst h;exact wp_label (hQ _ _ _ ⟨_,List.mem_singleton.2 rfl,trivial,τ,V,hs⟩)| exit id=>simp only[nR,zG2]at h;subst h;exact wp_exit (hQ _ _ _ ⟨_,List.mem_singleton.2 rfl,rfl,τ,V,hs⟩)| ret=>simp only[nR,zG2]at h;subst h;exact wp_ret (hQ _ _ _ ⟨_,List.mem_singleton.2 rfl,trivial,τ,V,hs⟩)| region id ops dr=>
   simp only[nR,zF0]at h;obtain⟨B,h1,rfl⟩:=h;exact tP hE h1 hs id fun τ V a w h9=>hQ _ _ _ ⟨_,List.mem_singleton.2 rfl,trivial,τ,V,h9⟩
  | seq x y=>
   simp only[nR,Option.bind_eq_some_iff,zF0]at h;obtain⟨l1,h1,r,h2,rfl⟩:=h;refine wp_seq (ih x A l1 τ V a w _ h1 hs ?_);rintro z a' w' ⟨p,hp,hm,τ2,V2,De⟩;obtain⟨px,pa⟩:=p;cases px with
   | normal=>
    cases z <;> first|exact hm.elim|skip
    obtain⟨l2,q1,q2⟩:=tB h2 (gF hp);exact ih y pa l2 τ2 V2 a' w' Q q1 De fun y9 a9 w9 h9=>hQ _ _ _ (h9.mono fun q hq=>List.mem_append_right _ (q2 q hq))
   | exit i=>
    exact QA36
   | ret=>
    exact QA36
  | cond c x y=>
   obtain⟨q1,q2⟩:=hs.ev c;simp only[nR]at h;split at h
   .
    rename_i hc;rw[hc]at q1;exact wp_cond_true q1 (ih x A l τ V a w Q h hs hQ)
   .
    rename_i hc;rw[hc]at q1;exact wp_cond_false q1 (ih y A l τ V a w Q h hs hQ)
   .
    rename_i t f hc;rw[hc]at q1 q2;obtain⟨b,hb,ht,hf⟩:=q1;simp only[Option.bind_eq_some_iff,zF0]at h;obtain⟨l1,h1,l2,h2,rfl⟩:=h;have Wh:∀c ∈ t++f,c.s<A.sy.length:=fun c hc=>q2.1 c.s (by
     simp only[AV.sy,CV.sy];rw[<-List.map_append];exact List.mem_map_of_mem hc)
    cases b with
    | true=>
     obtain⟨B,r1,r2⟩:=oM (l:=t) (fun c hc=>⟨Wh c (List.mem_append_left _ hc),ht rfl c hc⟩) hs;rw[r1]at h1;simp only[aMh]at h1;exact wp_cond_true hb (ih x B l1 τ V a w Q h1 r2 fun y9 a9 w9 h9=>hQ _ _ _ (h9.mono fun q hq=>List.mem_append_left _ hq))
    | false=>
     obtain⟨B,r1,r2⟩:=oM (l:=f) (fun c hc=>⟨Wh c (List.mem_append_right _ hc),hf rfl c hc⟩) hs;rw[r1]at h2;simp only[aMh]at h2;exact wp_cond_false hb (ih y B l2 τ V a w Q h2 r2 fun y9 a9 w9 h9=>hQ _ _ _ (h9.mono fun q hq=>List.mem_append_right _ hq))
   .
    cases h
  | block id b=>
   simp only[nR,Option.bind_eq_some_iff]at h;obtain⟨l1,h1,h2⟩:=h;refine wp_block (ih b A l1 τ V a w _ h1 hs ?_);have out:∀(p:Ex × AS),p ∈ l1->p.1 ≠ .normal/\p.1 ≠ .exit id->p ∈ l:=fun p hp Ae=>by
    have h9:=jR Ae hp;split at h2
    .
     cases h2;exact h9
    .
     simp only[zF0]at h2;obtain⟨J,_,rfl⟩:=h2;exact List.mem_cons_of_mem _ h9
   have nrm:∀(p:Ex × AS) τ V a w,p ∈ l1->p.1=.normal\/p.1=.exit id->Hs C U G e eb ρ0 β0 p.2 τ V a w->Q .normal a w:=fun p τ V a w hp Ae Xt=>by
    have h9:=kC Ae hp;split at h2
    .
     rename_i e9;rw[e9]at h9;cases h9
    .
     rename_i B r e9;simp only[zF0]at h2;obtain⟨J,h3,rfl⟩:=h2;rw[e9]at h9;obtain⟨V',h4⟩:=yZ h3 h9 Xt;exact hQ _ _ _ ⟨(.normal,J),List.mem_cons_self ..,trivial,τ,V',h4⟩
   rintro z a' w' ⟨p,hp,hm,τ2,V2,De⟩;obtain⟨px,pa⟩:=p;cases px with
   | normal=>
    cases z <;> first|exact hm.elim|skip
    exact nrm _ _ _ _ _ hp (.inl rfl) De
   | exit i=>
    cases z <;> first|exact hm.elim|skip
    rename_i j;have hm:i=j:=hm;subst hm;show if i=id then Q .normal a' w' else Q (.exit i) a' w'
    split
    .
     rename_i e9;subst e9;exact nrm _ _ _ _ _ hp (.inr rfl) De
    .
     rename_i e9;exact hQ _ _ _ ⟨_,out _ hp ⟨by simp,by simp[e9]⟩,rfl,τ2,V2,De⟩
   | ret=>
    cases z <;> first|exact hm.elim|skip
    exact hQ _ _ _ ⟨_,out _ hp ⟨by simp,by simp⟩,trivial,τ2,V2,De⟩
  | loop b=>
   simp only[nR]at h;exact zH1 30 (tN (fun B x τ V a w Q h1 h2 h3=>ih b B x τ V a w Q h1 h2 h3) 30 [A] l A τ V a w h (List.mem_singleton.2 rfl) hs hQ)
  | _=>simp[nR]at h
def xY (tmps:Array Value)(w:World):ResultVar->Value->Prop
 | .tmp t,v=>tmps.getD t undef=v| .cell t T,v=>∃a,tmps.getD t undef=.pointer (some a)/\(loadVar T a).run Tryz.prog w=.ok v w
theorem aGl {fn:Func}{tmps:Array Value}{w:World}{r:ResultVar}{v:Value}(h:fn.results=#[r])(hr:xY tmps w r v):(results fn tmps).run Tryz.prog w=.ok v w:=by
 cases r with
 | tmp t=>have hr:tmps.getD t undef=v:=hr;subst hr;exact results_tmp h _ _ _| cell t T=>obtain⟨a,h1,h2⟩:=hr;simp only[Array.getD_eq_getD_getElem?]at h1;simp[results,h,h1,asAddr,h2]
theorem aGk {fn:Func}{tmps:Array Value}{w:World}{r r':ResultVar}{v v':Value}(h:fn.results=#[r,r'])(hr:xY tmps w r v)(Di:xY tmps w r' v'):(results fn tmps).run Tryz.prog w=.ok (.tuple #[v,v']) w:=by
 cases r with
 | tmp t=>
  have hr:tmps.getD t undef=v:=hr;subst hr;cases r' with
  | tmp t'=>have Di:tmps.getD t' undef=v':=Di;subst Di;exact results_tmp2 h _ _ _| cell t' T=>obtain⟨a,h1,h2⟩:=Di;simp only[Array.getD_eq_getD_getElem?]at h1;simp[results,h,h1,asAddr,h2]
 | cell t T=>
  obtain⟨a,h1,h2⟩:=hr;simp only[Array.getD_eq_getD_getElem?]at h1;cases r' with
  | tmp t'=>have Di:tmps.getD t' undef=v':=Di;subst Di;simp[results,h,h1,asAddr,h2]| cell t' T'=>obtain⟨a',h3,h4⟩:=Di;simp only[Array.getD_eq_getD_getElem?]at h3;simp[results,h,h1,h3,asAddr,h2,h4]
theorem aGj {fn:Func}{tmps:Array Value}{w:World}{r r' r2:ResultVar}{v v' v2:Value}(h:fn.results=#[r,r',r2])(hr:xY tmps w r v)(Di:xY tmps w r' v')(Il:xY tmps w r2 v2):(results fn tmps).run Tryz.prog w=.ok (.tuple #[v,v',v2]) w:=by
 cases r with
 | tmp t0=>
  have e0:tmps.getD t0 undef=_:=hr;subst e0;cases r' with
  | tmp t1=>
   have e1:tmps.getD t1 undef=_:=Di;subst e1;cases r2 with
   | tmp t2=>
    have e2:tmps.getD t2 undef=_:=Il;subst e2;simp[results,h]
   | cell t2 T2=>
    obtain⟨a2,h2,g2⟩:=Il;simp only[Array.getD_eq_getD_getElem?]at h2;simp[results,h,h2,g2,asAddr]
  | cell t1 T1=>
   obtain⟨a1,h1,g1⟩:=Di;simp only[Array.getD_eq_getD_getElem?]at h1;cases r2 with
   | tmp t2=>
    have e2:tmps.getD t2 undef=_:=Il;subst e2;simp[results,h,h1,g1,asAddr]
   | cell t2 T2=>
    obtain⟨a2,h2,g2⟩:=Il;simp only[Array.getD_eq_getD_getElem?]at h2;simp[results,h,h1,g1,h2,g2,asAddr]
 | cell t0 T0=>
  obtain⟨a0,h0,g0⟩:=hr;simp only[Array.getD_eq_getD_getElem?]at h0;cases r' with
  | tmp t1=>
   have e1:tmps.getD t1 undef=_:=Di;subst e1;cases r2 with
   | tmp t2=>
    have e2:tmps.getD t2 undef=_:=Il;subst e2;simp[results,h,h0,g0,asAddr]
   | cell t2 T2=>
    obtain⟨a2,h2,g2⟩:=Il;simp only[Array.getD_eq_getD_getElem?]at h2;simp[results,h,h0,g0,h2,g2,asAddr]
  | cell t1 T1=>
   obtain⟨a1,h1,g1⟩:=Di;simp only[Array.getD_eq_getD_getElem?]at h1;cases r2 with
   | tmp t2=>
    have e2:tmps.getD t2 undef=_:=Il;subst e2;simp[results,h,h0,g0,h1,g1,asAddr]
   | cell t2 T2=>
    obtain⟨a2,h2,g2⟩:=Il;simp only[Array.getD_eq_getD_getElem?]at h2;simp[results,h,h0,g0,h1,g1,h2,g2,asAddr]
theorem mM (hs:Hs C U G e eb ρ0 β0 A τ V a w){r:ResultVar}{x:AV}(h:aRt A r=some x):∃v,xY a.tmps w r v/\x.ok τ V v/\lL (·<A.sy.length) (·<A.bk.length) (·<A.ni) x:=by
 cases r with
 | tmp t=>
  have h:bH t A.sl=some x:=h;obtain⟨q1,q2⟩:=hs.sl t;have ev:A.ev (.tmp t)=x:=by show(bH t A.sl).getD _=x;rw[h];rfl
  rw[ev]at q1 q2;exact⟨_,rfl,q1,q2⟩
 | cell t T=>
  simp only[aRt]at h;split at h
  .
   rename_i b n h1 h2;split at h
   .
    rename_i T' l h3;split at h
    .
     cases h
    .
     rename_i hn;split at h
     .
      rename_i hl;cases h;have hn:n ≠ 1:=by simpa using hn
      have hl:l.length=n:=by simpa using hl
      obtain⟨q1,q2⟩:=hs.sl t;have ev:A.ev (.tmp t)=.c (.ptr b 0):=by show(bH t A.sl).getD _=_;rw[h1];rfl
      rw[ev]at q1;have hb:=dB h3;obtain⟨⟨vs,Ck,Km⟩,_⟩:=hs.kn.bk b _ h3 hb;obtain⟨c1,c2,c3⟩:=hs.kn.bc b _ h3 hb;have Ah:=Km.length;refine⟨.agg vs.toArray,⟨_,q1, ?_⟩,⟨vs,rfl,Km⟩,c1,c2,c3⟩;obtain⟨z,ds,z1,z2⟩:=mY h2 hn;obtain⟨fs,by',cs,hu,_,_,hi,_⟩:=aIw vP z1;have Bg:=kH hi w;have Dv:=run_loadCells_list (P:=Tryz.prog) w ⟨V.β b,0,none⟩ vs (fun j v hv=>by rw[Addr.add_lit,zJ0];exact Ck.cell hv);rw[Ah,hl,<-z2]at Dv;unfold loadCells at Dv;simp[loadVar,isAgg,run_underlying hu,Bg,Dv,loadCells,go_sem]
     .
      cases h
   .
    cases h
  .
   cases h
theorem yY {x:AV}(h:(match x with|.c _=>false|_=>true)=true):∀y,x ≠ .c y:=by
 rintro y rfl;cases h
theorem yN (hs:Hs C U G e eb ρ0 β0 A τ V a w){t:Nat}{x:AV}{v:Value}(hx:x.ok τ V v)(hsp:lL (·<A.sy.length) (·<A.bk.length) (·<A.ni) x)(hf:A.fitE (.rc t) x=true)(hc:∀y,x ≠ .c y):∃vs,v=.agg vs.toArray/\RV τ (Dt t).2 vs:=by
 cases x with
 | c y=>exact absurd rfl (hc y)| rc t'=>
  simp only[AS.fitE,zC0,Bool.or_eq_true,beq_iff_eq]at hf;rcases hf.1 with rfl|⟨_,h9⟩
  .
   exact hx
  .
   obtain⟨vs,e,h1⟩:=hx;exact⟨vs,e,rC h9 h1⟩
 | agg l=>
  simp only[AS.fitE,zC0]at hf;obtain⟨vs,e,h1⟩:=hx;exact⟨vs,e,sF hs.kn h1 hsp.1 hf.2⟩
 | tup _ _=>simp[AS.fitE]at hf
theorem rW {x:CV}{v:Value}(hx:x.ok V v)(h:isB x=true):∃b,v=.bool b:=by
 cases x <;> simp[isB]at h
 .
  exact⟨_,hx⟩
 .
  obtain⟨b,e,_⟩:=hx;exact⟨b,e⟩
theorem aDc (hs:Hs C U G e eb ρ0 β0 A τ V a w)(hst:C.st=G.st){x:CV}{v:Value}(hx:x.ok V v)(hsp:∀s ∈ x.sy,s<A.sy.length)(h:aDe A G.st x=true):G.st=true->∀g,v.ownBlock=some g->C.w0.heap.size<=g:=by
 intro hg g hv;cases x <;> simp only[aDe,Bool.false_eq_true]at h
 .
  rename_i s;split at h
  .
   rename_i f hf;rw[hg]at h;have ho:f.own=true:=by simpa using h
   obtain⟨_,_,_,q4,_⟩:=hs.kn.sy s f hf (dB hf);rw[show v=V.ρ s from hx]at hv;exact q4 ho (hst.trans hg) g hv
  .
   cases h
 .
  rw[show v=_ from hx]at hv;cases hv
theorem yL (hs:Hs C U G e eb ρ0 β0 A τ V a w)(hst:C.st=G.st){fn:Func}{I:Inp}{r:RP}{xs:List AV}(hx:kU A fn.results.toList=some xs)(h:aGm A G.st r xs=true):∃v,(results fn a.tmps).run Tryz.prog w=.ok v w/\r.ok G.st τ C.w0.heap.size I v:=by
 have one:∀x,xs=[x]->∃v,(results fn a.tmps).run Tryz.prog w=.ok v w/\x.ok τ V v/\lL (·<A.sy.length) (·<A.bk.length) (·<A.ni) x:=by
  rintro x rfl;obtain⟨rs,Qf⟩:∃l,fn.results.toList=l:=⟨_,rfl⟩
  rw[Qf]at hx
  match rs,hx with
  | [],hx=>simp[kU]at hx| [r1],hx=>
   simp only[kU,Option.map_some,Option.bind_eq_some_iff,zG2,zJ2,and_true]at hx;obtain⟨y,h1,rfl⟩:=hx;obtain⟨v,q1,q2⟩:=mM hs h1;exact⟨v,aGl (Array.toList_inj.1 (by rw[Qf])) q1,q2⟩
  | r1 :: r2 :: rs,hx=>
   simp only[kU,Option.bind_eq_some_iff,zF0]at hx;obtain⟨_,_,_,⟨_,_,_,_,rfl⟩,h9⟩:=hx;simp at h9
 have two:∀x y,xs=[x,y]->∃v u,(results fn a.tmps).run Tryz.prog w=.ok (.tuple #[v,u]) w/\(x.ok τ V v/\lL (·<A.sy.length) (·<A.bk.length) (·<A.ni) x)/\y.ok τ V u/\lL (·<A.sy.length) (·<A.bk.length) (·<A.ni) y:=by
  rintro x y rfl;obtain⟨rs,Qf⟩:∃l,fn.results.toList=l:=⟨_,rfl⟩
  rw[Qf]at hx
  match rs,hx with
  | [],hx=>simp[kU]at hx| [r1],hx=>
   exact QA95
  | [r1,r2],hx=>
   simp only[kU,Option.map_some,Option.bind_eq_some_iff,zF0,zG2,zJ2,and_true]at hx;obtain⟨z1,h1,z2,⟨z3,h2,rfl⟩,rfl,e9⟩:=hx;cases e9;obtain⟨v,q1,q2⟩:=mM hs h1;obtain⟨u,q3,q4⟩:=mM hs h2;exact⟨v,u,aGk (Array.toList_inj.1 (by rw[Qf])) q1 q3,q2,q4⟩
  | r1 :: r2 :: r3 :: rs,hx=>
   simp only[kU,Option.bind_eq_some_iff,zF0]at hx;obtain⟨_,_,_,⟨_,_,_,⟨_,_,_,_,rfl⟩,rfl⟩,h9⟩:=hx;simp at h9
 have aCq:∀x y z,xs=[x,y,z]->∃v u t,(results fn a.tmps).run Tryz.prog w=.ok (.tuple #[v,u,t]) w/\(x.ok τ V v/\lL (·<A.sy.length) (·<A.bk.length) (·<A.ni) x)/\z.ok τ V t/\lL (·<A.sy.length) (·<A.bk.length) (·<A.ni) z:=by
  rintro x y z rfl;obtain⟨rs,Qf⟩:∃l,fn.results.toList=l:=⟨_,rfl⟩
  rw[Qf]at hx
  match rs,hx with
  | [],hx=>simp[kU]at hx| [r1],hx=>
   exact QA95
  | [r1,r2],hx=>
   simp only[kU,Option.map_some,Option.bind_eq_some_iff,zF0,zG2,zJ2]at hx;obtain⟨z1,h1,z2,⟨z3,h2,rfl⟩,_,h9⟩:=hx;simp at h9
  | [r1,r2,r3],hx=>
   simp only[kU,Option.map_some,Option.bind_eq_some_iff,zF0,zG2,zJ2,and_true]at hx;obtain⟨z1,h1,_,⟨z3,h2,_,⟨z4,h3,rfl⟩,rfl⟩,rfl,e9⟩:=hx;cases e9;obtain⟨v,q1,q2⟩:=mM hs h1;obtain⟨u,q3,q4⟩:=mM hs h2;obtain⟨t,q5,q6⟩:=mM hs h3;exact⟨v,u,t,aGj (Array.toList_inj.1 (by rw[Qf])) q1 q3 q5,q2,q6⟩
  | r1 :: r2 :: r3 :: r4 :: rs,hx=>
   simp only[kU,Option.bind_eq_some_iff,zF0]at hx;obtain⟨_,_,_,⟨_,_,_,⟨_,_,_,⟨_,_,_,_,rfl⟩,rfl⟩,rfl⟩,h9⟩:=hx;simp at h9
 have kn:=hs.kn;unfold aGm at h;split at h
 .
  rename_i lo hi x;obtain⟨v,q1,q2,q3⟩:=one _ rfl;split at h
  .
   rename_i p q hr;simp only[zC0,zE3]at h;obtain⟨n,rfl,z1,z2⟩:=iE kn q2 q3.1 hr;exact⟨_,q1,n,rfl,by omega,by omega⟩
  .
   cases h
 .
  obtain⟨v,q1,q2,q3⟩:=one _ rfl;exact⟨v,q1,rW q2 h⟩
 .
  obtain⟨v,q1,q2,q3⟩:=one _ rfl;simp only[zC0]at h;exact⟨v,q1,lO kn q2 q3.1 h.1,aDc hs hst q2 q3.1 h.2⟩
 .
  obtain⟨v,q1,⟨vs,rfl,v0,_,rfl,p0,v1,_,rfl,p1,v2,_,rfl,p2,v3,_,rfl,p3,v4,_,rfl,p4,rfl⟩,q3⟩:=one _ rfl;simp only[zC0]at h;obtain⟨n0,rfl,r0⟩:=lW kn p0 (fun s h9=>q3.1 s (List.mem_flatMap.2 ⟨_,by simp,h9⟩)) h.1;obtain⟨n1,rfl,r1⟩:=lW kn p1 (fun s h9=>q3.1 s (List.mem_flatMap.2 ⟨_,by simp,h9⟩)) h.2;refine⟨_,q1,n0,n1, ?_,r0,r1⟩;rw[show v2=_ from p2,show v3=_ from p3,show v4=_ from p4]
 .
  rename_i z _;obtain⟨v,q1,⟨vs,rfl,v0,_,rfl,p0,v1,_,rfl,p1,v2,_,rfl,p2,v3,_,rfl,p3,v4,_,rfl,p4,rfl⟩,q3⟩:=one _ rfl;simp only[zC0]at h;obtain⟨n0,rfl,r0⟩:=lW kn p0 (fun s h9=>q3.1 s (List.mem_flatMap.2 ⟨_,by simp,h9⟩)) h.1.1;obtain⟨n1,rfl,r1⟩:=lW kn p1 (fun s h9=>q3.1 s (List.mem_flatMap.2 ⟨_,by simp,h9⟩)) h.1.2;obtain⟨n3,r2,r3⟩:=lW kn p3 (fun s h9=>q3.1 s (List.mem_flatMap.2 ⟨_,by simp,h9⟩)) h.2;have e3:ln v3=n3:=by rcases r3 with⟨rfl,rfl⟩|⟨_,_,_,_,rfl,_⟩ <;> rfl
  refine⟨_,q1,n0,n1,v3, ?_,r0,r1,by rw[e3];exact r3,zD1 _,by rw[e3];exact r2⟩;rw[show v2=_ from p2,show v4=_ from p4]
 .
  obtain⟨v,q1,q2,q3⟩:=one _ rfl;simp only[zC0]at h;exact⟨v,q1,yN hs q2 q3 h.1 (yY h.2)⟩
 .
  obtain⟨v,u,q1,⟨q2,q3⟩,q4,q5⟩:=two _ _ rfl;simp only[zC0]at h;obtain⟨vs,rfl,r1⟩:=yN hs q2 q3 h.1.1 (yY h.1.2);obtain⟨b,rfl⟩:=rW q4 h.2;exact⟨_,q1,vs,b,rfl,r1⟩
 .
  obtain⟨v,u,q1,⟨q2,q3⟩,q4,q5⟩:=two _ _ rfl;simp only[zC0]at h;obtain⟨vs,rfl,r1⟩:=yN hs q2 q3 h.1.1 (yY h.1.2);obtain⟨x,rfl,r2⟩:=lW kn q4 q5.1 h.2;exact⟨_,q1,vs,x,rfl,r1,r2⟩
 .
  obtain⟨v,u,t,q1,⟨q2,q3⟩,⟨vs,rfl,v0,_,rfl,p0,v1,_,rfl,p1,v2,_,rfl,p2,rfl⟩,q5⟩:=aCq _ _ _ rfl;simp only[zC0]at h;have slc:∀(c:CV) (x:Value),c.ok V x->(∀s ∈ c.sy,s<A.sy.length)->A.slC c=true->∃a n k,x=.slice a n k:=fun c x h1 h2 h3=>by
   cases c <;> simp only[AS.slC,Bool.false_eq_true]at h3
   .
    rename_i s;obtain⟨f,hf⟩:=Option.isSome_iff_exists.1 h3;obtain⟨a1,_⟩:=kn.sy s f hf (h2 s A38);obtain⟨a,c,e,_⟩:=a1.sh kn.fr.th;exact⟨a,_,c,(show x=_ from h1).trans e⟩
   .
    exact⟨none,0,0,h1⟩
  obtain⟨a0,n0,c0,rfl⟩:=slc _ _ p0 (fun s h9=>q5.1 s (List.mem_flatMap.2 ⟨_,by simp,h9⟩)) h.1.1.2;obtain⟨a1,n1,c1,rfl⟩:=slc _ _ p1 (fun s h9=>q5.1 s (List.mem_flatMap.2 ⟨_,by simp,h9⟩)) h.1.2;obtain⟨a2,n2,c2,rfl⟩:=slc _ _ p2 (fun s h9=>q5.1 s (List.mem_flatMap.2 ⟨_,by simp,h9⟩)) h.2;exact⟨_,q1,v,u,a0,n0,c0,a1,n1,c1,a2,n2,c2,rfl,lO kn q2 q3.1 h.1.1.1.1,aDc hs hst q2 q3.1 h.1.1.1.2⟩
 .
  obtain⟨v,u,q1,⟨q2,q3⟩,q4,q5⟩:=two _ _ rfl;simp only[zC0]at h;obtain⟨vs,rfl,r1⟩:=yN hs q2 q3 h.1.1.1 (yY h.1.1.2);exact⟨_,q1,vs,u,rfl,r1,lO kn q4 q5.1 h.1.2,aDc hs hst q4 q5.1 h.2⟩
 .
  cases h
end
end Eg
end
section
theorem QA61{p:Prop}(h:p:=by
 obtain⟨px,pa⟩:=p
 cases px with
 | normal=>cases z <;> first|exact hm.elim|exact fin
 | ret=>cases z <;> first|exact hm.elim|exact fin
 | exit i=>exact absurd rfl (e1 i)):p:=h
theorem QA67{p:Prop}(h:p:=by
 simp only[zG3,List.not_mem_nil,or_false]at h9
 omega):p:=h
theorem QA82{p:Prop}(h:p:=by
 exact⟨fun s h9=> A14,fun s h9=> A14,fun s h9=> A14⟩):p:=h
namespace Eg
def gSy:List SF:=[sf (.rc 4) 0 2 false,sf (.rc 0) 0 2 false,sf .bt 0 4 false,sf (.rc 1) 0 3 false,sf (.rc 12) 0 3 false,sf (.rc 0) 2 20 false,sf (.rc 0) 0 20 false]
def gBk:Bk:=.cells 170 [.ptr 0 0,.sl 0,.sl 2,.sl 1,.sl 3,.sl 4,.sl 5,.sl 6,.int 1 1,.int mn mx,.bl [] []]
def gX (n:Nat):List CP->List AV
 | []=>[]| .int lo hi :: l=>.c (.int lo hi) :: gX n l| .bool :: l=>.c (.bl [] []) :: gX n l| .str :: l=>.c .str :: gX n l| .sl _ _ _ :: l=>.c (.sl n) :: gX (n+1) l| .rc t :: l=>.rc t :: gX n l| _ :: l=>.c .top :: gX n l
def jP:List CP->List SF
 | []=>[]| .sl k lo hi :: l=>sf k lo hi false :: jP l| _ :: l=>jP l
def iT:List CP->List Value->List Value
 | .sl _ _ _ :: l,v :: r=>v :: iT l r| _ :: l,_ :: r=>iT l r| _,_=>[]
def aJ1 (n:Nat):List CP->List AV
 | .gen :: l=>.c (.ptr 1 0) :: gX n l| .cur :: l=>.c (.ptr 0 0) :: gX n l| l=>gX n l
def eV (c:Con):AS:=⟨oR 0 (aJ1 (if bF c.args then 7 else 0) c.args),(if bF c.args then gSy else [])++jP c.args,(if bF c.args then [.cur,gBk] else if eJ c.args then [.cur] else []),0,[],[],c.tg⟩
def aPp:List CV->Bool
 | [.ptr a b,.sl c,.sl d,.sl e,.sl f,.sl g,.sl h,.sl i,.int j k,.int lo hi,x]=>a == 0 && b == 0 && c == 0 && d == 2 && e == 1 && f == 3 && g == 4 && h == 5 && i == 6 && decide (j=1) && decide (k=1) && decide (mn<=lo) && decide (hi<=mx) && isB x| _=>false
def xP (A:AS):Bool:=match at? A.bk 0 with
 | some .cur=>true| _=>false
def aHv (A:AS):Bool:=match at? A.bk 1 with
 | some (.cells T l)=>T == 170 && aPp l| _=>false
def aM9 (g c:Bool):List (Ex × AS)->Bool
 | []=>true| p :: l=>(!g || (aHv p.2 && xP p.2)) && (!c || xP p.2) && aM9 g c l
def bJ (G:Cfg)(c:Con)(fn:Func):Bool:=G.st == c.st && (!G.us || (bF c.args && c.st)) && aEa c.args && (G.nt == fn.ntmps && Nat.ble c.args.length fn.ntmps) && (match fn.body with
 | some b=>match nR G (eV c).bk.length (eV c).sy.length 100 b (eV c) with
  | some l=>xO fn G.st c.res l && aM9 (bF c.args) (eJ c.args) l| none=>false
 | none=>false)
theorem uA {t:Nat}{x:AV}:∀{l:List AV} {i:Nat},bH t (oR i l)=some x->i<=t/\at? l (t-i)=some x
 | [],_,h=>by cases h
 | y :: l,i,h=>by
  simp only[oR,bH]at h;split at h
  .
   rename_i e;have e:i=t:=by simpa using e
   subst e;cases h;exact⟨zB0 _,by rw[Nat.sub_self];rfl⟩
  .
   obtain⟨h1,h2⟩:=uA h;refine⟨by omega, ?_⟩;rw[show t-i=(t-(i+1))+1 by omega];exact h2
section
variable {C:Cx} {U:Value->Prop} {G:Cfg} {τ:Sm} {V:Vl} {w:World} {I:Inp}
theorem aAy:∀{ps:List CP} {vs:List Value},aCi τ w I ps vs->vs.length=ps.length
 | [],_,h=>by rw[show _=[] from h];rfl
 | _ :: _,_,⟨v,us,e,_,h⟩=>by rw[e,zB1,zB1,aAy h]
theorem fD {B X:Nat->Prop}:∀{ps:List CP} {vs:List Value} {n m:Nat},aCi τ w I ps vs->n+(jP ps).length<=m->(∀q v,(iT ps vs)[q]?=some v->V.ρ (n+q)=v)->∀i x,at? (gX n ps) i=some x->∃v,vs[i]?=some v/\x.ok τ V v/\lL (·<m) B X x
 | [],_,_,_,_,_,_,i,x,h=>by simp[gX,at?]at h
 | p :: ps,_,n,m,⟨v,us,rfl,hp,hr⟩,hm,hV,i,x,h=>by
  have nil:∀y:CV,y.sy=[]->y.bs=[]->y.is=[]->lL (·<m) B X (.c y):=fun y h1 h2 h3=>⟨fun s h9=>(by simp only[AV.sy,h1]at h9;cases h9),fun s h9=>(by simp only[AV.bs,h2]at h9;cases h9),fun s h9=>(by simp only[AV.is,h3]at h9;cases h9)⟩;cases p with
  | sl k lo hi=>
   simp only[jP,zB1]at hm;cases i with
   | zero=>
    simp only[gX,at?,zG2]at h;subst h;exact⟨v,rfl,(hV 0 v rfl).symm,⟨fun s h9=>by simp only[AV.sy,CV.sy,List.mem_singleton]at h9;subst h9;omega,fun s h9=> A14,fun s h9=> A14⟩⟩
   | succ i=>
    exact fD (n:=n+1) hr A0 (fun q u hq=>by rw[show n+1+q=n+(q+1) by omega];exact hV (q+1) u hq) i x h
  | rc t=>
   cases i with
   | zero=>
    simp only[gX,at?,zG2]at h;subst h;exact⟨v,rfl,hp,⟨fun s h9=> A14,fun s h9=> A14,fun s h9=> A14⟩⟩
   | succ i=>exact fD hr hm hV i x h
  | int lo hi=>
   cases i with
   | zero=>simp only[gX,at?,zG2]at h;subst h;exact⟨v,rfl,hp,nil _ rfl rfl rfl⟩| succ i=>exact fD hr hm hV i x h
  | bool=>
   cases i with
   | zero=>simp only[gX,at?,zG2]at h;subst h;obtain⟨b,rfl⟩:=hp;exact⟨_,rfl,eM V b,nil _ rfl rfl rfl⟩| succ i=>exact fD hr hm hV i x h
  | str=>
   cases i with
   | zero=>simp only[gX,at?,zG2]at h;subst h;exact⟨v,rfl,hp,nil _ rfl rfl rfl⟩| succ i=>exact fD hr hm hV i x h
  | cur=>
   cases i with
   | zero=>simp only[gX,at?,zG2]at h;subst h;exact⟨v,rfl,trivial,nil _ rfl rfl rfl⟩| succ i=>exact fD hr hm hV i x h
  | gen=>
   cases i with
   | zero=>simp only[gX,at?,zG2]at h;subst h;exact⟨v,rfl,trivial,nil _ rfl rfl rfl⟩| succ i=>exact fD hr hm hV i x h
  | un=>
   cases i with
   | zero=>simp only[gX,at?,zG2]at h;subst h;exact⟨v,rfl,trivial,nil _ rfl rfl rfl⟩| succ i=>exact fD hr hm hV i x h
  | fa=>
   cases i with
   | zero=>simp only[gX,at?,zG2]at h;subst h;exact⟨v,rfl,trivial,nil _ rfl rfl rfl⟩| succ i=>exact fD hr hm hV i x h
theorem aRp {k:Rs}{lo hi:Nat}{v:Value}(h:SVb τ k lo hi v):(sf k lo hi false).ok C U τ V v:=⟨h.1,h.2.1,h.2.2,(fun h9=>by cases h9),(fun h9=>by cases h9),(fun h9=>by cases h9),(fun s h9=>by cases h9)⟩
theorem sR:∀{ps:List CP} {vs:List Value},aCi τ w I ps vs->∀q f,at? (jP ps) q=some f->∃k lo hi v,f=sf k lo hi false/\(iT ps vs)[q]?=some v/\SVb τ k lo hi v
 | [],_,_,q,f,h=>by simp[jP,at?]at h
 | p :: ps,_,⟨v,us,rfl,hp,hr⟩,q,f,h=>by
  cases p with
  | sl k lo hi=>
   cases q with
   | zero=>simp only[jP,at?,zG2]at h;subst h;exact⟨k,lo,hi,v,rfl,rfl,hp⟩| succ q=>exact sR hr q f h
  | _=>exact sR hr q f h
def rho (l:List Value)(s:Nat):Value:=(l[s]?).getD (.slice none 0 0)
def Inp.sym (I:Inp):List Value:=[I.fa,I.us,I.nv,I.vv,I.pv,I.iv,I.av]
def aMz (I:Inp)(n:Nat):Nat:=if n=0 then I.cb else I.gb
theorem aAh {c:Con}{fn:Func}{vs:List Value}(hst:G.st=c.st)(hT:TH τ w)(Dm:c.tg=true->Tg τ)(Ep:c.Env τ w I)(Bs:aCi τ w I c.args vs)(hh:aEa c.args=true)(Ht:G.nt=fn.ntmps/\c.args.length<=fn.ntmps)(U:Value->Prop):
  Hs ⟨c.st,c.K I,τ,w⟩ U G (eV c).sy.length (eV c).bk.length (rho ((if bF c.args then I.sym else [])++iT c.args vs)) (aMz I) (eV c) τ ⟨rho ((if bF c.args then I.sym else [])++iT c.args vs),aMz I,fun _=>0⟩ { tmps:=vs.toArray++Array.replicate (fn.ntmps-vs.toArray.size) undef,defers:=[] } w:=by
 have Ah:=aAy Bs;have symLen:(if bF c.args then I.sym else []).length=(if bF c.args then gSy else []).length:=by split <;> rfl
 have hn:(if bF c.args then 7 else 0)=(if bF c.args then gSy else []).length:=by split <;> rfl
 have rhoR:∀q v,(iT c.args vs)[q]?=some v->rho ((if bF c.args then I.sym else [])++iT c.args vs) ((if bF c.args then gSy else []).length+q)=v:=fun q v hq=>by
  unfold rho;rw[List.getElem?_append_right A0,symLen,Nat.add_sub_cancel_left,hq];rfl
 have Hw:∀s v,(if bF c.args then I.sym else [])[s]?=some v->rho ((if bF c.args then I.sym else [])++iT c.args vs) s=v:=fun s v hq=>by
  unfold rho;rw[List.getElem?_append_left (zC1.1 hq).1,hq];rfl
 have Wh:∀s f,at? (eV c).sy s=some f->∃k lo hi,f=sf k lo hi false/\SVb τ k lo hi (rho ((if bF c.args then I.sym else [])++iT c.args vs) s):=fun s f hf=>by
  have hf:at? ((if bF c.args then gSy else [])++jP c.args) s=some f:=hf;rw[cL]at hf;by_cases Ad:s<(if bF c.args then gSy else []).length
  .
   rw[if_pos Ad]at hf;cases hg:bF c.args with
   | false=>rw[hg]at hf;simp[at?]at hf| true=>
    have hG:=Ep.gen hg;simp only[hg,if_true]at hf Hw ⊢;have e:=dB hf;have go:∀i k lo hi v,s=i->at? gSy i=some (sf k lo hi false)->I.sym[i]?=some v->SVb τ k lo hi v->∃k lo hi,f=sf k lo hi false/\SVb τ k lo hi (rho (I.sym++iT c.args vs) s):=fun i k lo hi v e1 e2 e3 e4=>by
     subst e1;rw[e2]at hf;cases hf;exact⟨k,lo,hi,rfl,by rw[Hw _ v e3];exact e4⟩
    simp only[gSy,zB1,zC3]at e;have hs7:s=0\/s=1\/s=2\/s=3\/s=4\/s=5\/s=6:=A0;rcases hs7 with h9|h9|h9|h9|h9|h9|h9
    .
     exact go 0 _ _ _ _ h9 rfl rfl hG.fa
    .
     exact go 1 _ _ _ _ h9 rfl rfl hG.us
    .
     exact go 2 _ _ _ _ h9 rfl rfl hG.nv
    .
     exact go 3 _ _ _ _ h9 rfl rfl hG.vv
    .
     exact go 4 _ _ _ _ h9 rfl rfl hG.pv
    .
     exact go 5 _ _ _ _ h9 rfl rfl hG.iv
    .
     exact go 6 _ _ _ _ h9 rfl rfl hG.av
  .
   rw[if_neg Ad]at hf;obtain⟨k,lo,hi,v,rfl,h1,h2⟩:=sR Bs _ _ hf;have:=rhoR _ v h1;rw[Nat.add_sub_cancel' A0]at this;exact⟨k,lo,hi,rfl,by rw[this];exact h2⟩
 have Iy:∀n x,at? (eV c).bk n=some x->((n=0/\x=.cur/\aM4 τ w I.cb/\(bF c.args=true\/eJ c.args=true))\/(n=1/\x=gBk/\Gen τ w I/\bF c.args=true)):=fun n x hx=>by
  have hx:at? (if bF c.args then [.cur,gBk] else if eJ c.args then [.cur] else []) n=some x:=hx;cases hg:bF c.args with
  | true=>
   have hG:=Ep.gen hg;rw[hg]at hx;simp only[if_true]at hx
   match n,hx with
   | 0,hx=>simp only[at?,zG2]at hx;exact .inl ⟨rfl,hx.symm,hG.cur,.inl rfl⟩| 1,hx=>simp only[at?,zG2]at hx;exact .inr ⟨rfl,hx.symm,hG,rfl⟩| n+2,hx=>simp[at?]at hx
  | false=>
   rw[hg]at hx;simp only[Bool.false_eq_true,if_false]at hx;cases hc:eJ c.args with
   | true=>
    rw[hc]at hx;simp only[if_true]at hx
    match n,hx with
    | 0,hx=>simp only[at?,zG2]at hx;exact .inl ⟨rfl,hx.symm,Ep.cur hc,.inr rfl⟩| n+1,hx=>simp[at?]at hx
   | false=>rw[hc]at hx;simp[at?]at hx
 have hK0:(bF c.args=true\/eJ c.args=true)->I.cb ∈ c.K I:=fun h9=>by
  unfold Con.K;rcases h9 with h9|h9
  .
   rw[if_pos h9];simp
  .
   split
   .
    simp
   .
    first|simp;done|(rw[if_pos h9];simp)
 have hK1:bF c.args=true->c.K I=[I.cb,I.gb]:=fun h9=>by unfold Con.K;rw[if_pos h9]
 have hK2:bF c.args=false->∀g ∈ c.K I,g=I.cb:=fun h9 g hg=>by
  unfold Con.K at hg;rw[if_neg (by simp[h9])]at hg;split at hg
  .
   simpa using hg
  .
   cases hg
 have curLt:∀g,Cur w g->g<w.heap.size:=fun g hg=>by
  obtain⟨a9,n9,c9,l9,i9,h9,Lg,_⟩:=hg;exact(zI3.1 Lg).1
 have genLt:Gen τ w I->I.gb<w.heap.size:=fun hG=>by
  obtain⟨left,_,Lg⟩:=hG.blk;exact(zI3.1 Lg).1
 refine⟨⟨Fr.refl hT,fun s f hf _=>?_,fun s f hf _ t ht=>?_,fun n x hx _=>?_,fun n x hx _=>?_,fun n m x y hx hy _ _ Ae=>?_,fun n hx _=>?_,Dm,fun n hx=>?_⟩,fun t=>?_,fun c9 Th=>(by cases Th),fun s _=>rfl,zB0 _,fun _ _=>rfl,zB0 _, ?_,rfl,fun _ h9=>h9⟩
 .
  obtain⟨k,lo,hi,rfl,h1⟩:=Wh s f hf;exact aRp h1
 .
  obtain⟨k,lo,hi,rfl,h1⟩:=Wh s f hf;cases ht
 .
  rcases Iy n x hx with⟨rfl,rfl,h1,h2⟩|⟨rfl,rfl,h1,h2⟩
  .
   exact⟨h1.cur,h1.nc,curLt _ h1.cur,.inl (hK0 h2)⟩
  .
   obtain⟨left,hl,Lg⟩:=h1.blk;refine⟨⟨_,Lg, ?_⟩,h1.ng,genLt h1,.inl (by rw[hK1 h2];show I.gb ∈ _;simp)⟩;rw[h2]at Hw ⊢;simp only[if_true]at Hw ⊢;exact⟨_,_,rfl,rfl,_,_,rfl,(Hw 0 _ rfl).symm,_,_,rfl,(Hw 2 _ rfl).symm,_,_,rfl,(Hw 1 _ rfl).symm,_,_,rfl,(Hw 3 _ rfl).symm,_,_,rfl,(Hw 4 _ rfl).symm,_,_,rfl,(Hw 5 _ rfl).symm,_,_,rfl,(Hw 6 _ rfl).symm,_,_,rfl,⟨1,rfl,Int.le_refl _,Int.le_refl _⟩,_,_,rfl,⟨left,rfl,hl.1,hl.2⟩,_,_,rfl,eM _ _,rfl⟩
 .
  rcases Iy n x hx with⟨rfl,rfl,h1,h2⟩|⟨rfl,rfl,h1,h2⟩
  .
   exact QA82
  .
   have e1:(eV c).sy.length=7+(jP c.args).length:=by
    show((if bF c.args then gSy else [])++jP c.args).length=_
    rw[h2,if_pos rfl,zA1];rfl
   have e2:(eV c).bk.length=2:=by
    show(if bF c.args then [Bk.cur,gBk] else if eJ c.args then [.cur] else []).length=_
    rw[h2];rfl
   refine⟨fun s h9=>?_,fun s h9=>?_,fun s h9=>?_⟩
   .
    have h9:s ∈ [0,2,1,3,4,5,6]:=h9;show s<(eV c).sy.length
    rw[e1];exact QA67
   .
    have h9:s ∈ [0]:=h9;show s<(eV c).bk.length
    rw[e2];exact QA67
   .
    have h9:s ∈ ([]:List Nat):=h9;cases h9
 .
  rcases Iy n x hx with⟨rfl,rfl,h1,h2⟩|⟨rfl,rfl,h1,h2⟩
  .
   rcases Iy m y hy with⟨rfl,rfl,h3,h4⟩|⟨rfl,rfl,h3,h4⟩
   .
    exact absurd rfl Ae
   .
    have:=h3.lt;show I.cb ≠ I.gb;omega
  .
   rcases Iy m y hy with⟨rfl,rfl,h3,h4⟩|⟨rfl,rfl,h3,h4⟩
   .
    have:=h1.lt;show I.gb ≠ I.cb;omega
   .
    exact absurd rfl Ae
 .
  rcases Iy n _ hx with⟨rfl,_,h1,h2⟩|⟨rfl,h9,_⟩
  .
   refine⟨Nat.le_of_lt (curLt _ h1.cur),fun b hb=>⟨h1.lo b hb,fun hm=>?_⟩⟩;have hb:b<I.cb:=hb;cases hg:bF c.args with
   | true=>
    have hm:b ∈ c.K I:=hm;rw[hK1 hg]at hm;have:=(Ep.gen hg).lt;simp only[zG3,List.not_mem_nil,or_false]at hm;omega
   | false=>have:=hK2 hg b hm;omega
  .
   cases h9
 .
  rcases Iy n _ hx with⟨rfl,_⟩|⟨rfl,h9,_⟩
  .
   rfl
  .
   cases h9
 .
  show((bH t (oR 0 (aJ1 (if bF c.args then 7 else 0) c.args))).getD (.c .top)).ok τ _ _/\lL _ _ _ ((bH t (oR 0 (aJ1 (if bF c.args then 7 else 0) c.args))).getD (.c .top))
  cases hf:bH t (oR 0 (aJ1 (if bF c.args then 7 else 0) c.args)) with
  | none=>exact⟨trivial,(fun s h9=>by cases h9),(fun s h9=>by cases h9),(fun s h9=>by cases h9)⟩
  | some x=>
   obtain⟨_,hx⟩:=uA hf;rw[Nat.sub_zero]at hx;rw[zI0];have ev:∀v,vs[t]?=some v->Act.eval { tmps:=vs.toArray++Array.replicate (fn.ntmps-vs.toArray.size) undef,defers:=[] } (.tmp t)=v:=fun v hv=>by
    have Ad:=(zC1.1 hv).1;show(vs.toArray++Array.replicate (fn.ntmps-vs.toArray.size) undef).getD t undef=v
    rw[Array.getD_eq_getD_getElem?,Array.getElem?_append_left (by simpa using Ad)];simp[hv]
   have Fs:∀(ps:List CP) (us:List Value),aCi τ w I ps us->jP ps=jP c.args->iT ps us=iT c.args vs->∀i,at? (gX (if bF c.args then 7 else 0) ps) i=some x->(∀v,us[i]?=some v->vs[t]?=some v)->x.ok τ ⟨rho ((if bF c.args then I.sym else [])++iT c.args vs),aMz I,fun _=>0⟩ (Act.eval { tmps:=vs.toArray++Array.replicate (fn.ntmps-vs.toArray.size) undef,defers:=[] } (.tmp t))/\lL (·<(eV c).sy.length) (·<(eV c).bk.length) (·<(eV c).ni) x:=fun ps us ha e1 e2 i hi hv=>by
    obtain⟨v,q1,q2,q3⟩:=fD (V:=⟨rho ((if bF c.args then I.sym else [])++iT c.args vs),aMz I,fun _=>0⟩) (B:=(·<(eV c).bk.length)) (X:=(·<(eV c).ni)) (m:=(eV c).sy.length) ha (by
     rw[e1,hn];show _<=((if bF c.args then gSy else [])++jP c.args).length
     rw[zA1];exact zB0 _) (fun q v hq=>by rw[e2]at hq;rw[hn];exact rhoR q v hq) i x hi
    rw[ev v (hv v q1)];exact⟨q2,q3⟩
   obtain⟨l,hl⟩:∃l,c.args=l:=⟨_,rfl⟩
   cases l with
   | nil=>rw[hl]at hx;simp[aJ1,gX,at?]at hx| cons p ps=>
    obtain⟨v0,us,Ak,La,Sz⟩:∃v us,vs=v :: us/\p.ok τ w I v/\aCi τ w I ps us:=by rw[hl]at Bs;exact Bs
    by_cases Qh:mO p=true
    .
     have Eb:at? (gX (if bF c.args then 7 else 0) c.args) t=some x:=by
      rw[hl]at hx ⊢;cases p <;> first|exact hx|cases Qh
     exact Fs c.args vs Bs rfl rfl t Eb fun v hv=>hv
    .
     have esf:jP ps=jP c.args:=by rw[hl];cases p <;> first|rfl|exact absurd rfl Qh
     have esv:iT ps us=iT c.args vs:=by rw[hl,Ak];cases p <;> first|rfl|exact absurd rfl Qh
     have nil:∀b,b<(eV c).bk.length->lL (·<(eV c).sy.length) (·<(eV c).bk.length) (·<(eV c).ni) (.c (.ptr b 0)):=fun b hb=>⟨fun s h9=> A14,fun s h9=>by simp only[AV.bs,CV.bs,List.mem_singleton]at h9;subst h9;exact hb,fun s h9=> A14⟩;cases t with
     | succ t=>
      refine Fs ps us Sz esf esv t ?_ fun v hv=>by rw[Ak,List.getElem?_cons_succ];exact hv
      rw[hl]at hx ⊢;cases p <;> first|exact hx|exact absurd rfl Qh
     | zero=>
      rw[ev v0 (by rw[Ak];rfl)];cases p with
      | gen=>
       have hg:bF c.args=true:=by rw[hl];rfl
       rw[hl]at hx;simp only[aJ1,at?,zG2]at hx;subst hx;exact⟨La,nil 1 (by show 1<(if bF c.args then [Bk.cur,gBk] else if eJ c.args then [.cur] else []).length;rw[hg];exact Nat.lt_succ_self 1)⟩
      | cur=>
       have hg:bF c.args=false:=by rw[hl];rfl
       have hc:eJ c.args=true:=by rw[hl];rfl
       rw[hl]at hx;simp only[aJ1,at?,zG2]at hx;subst hx;exact⟨La,nil 0 (by show 0<(if bF c.args then [Bk.cur,gBk] else if eJ c.args then [.cur] else []).length;rw[hg,hc];exact Nat.lt_succ_self 0)⟩
      | _=>exact absurd rfl Qh
 .
  show(vs.toArray++Array.replicate (fn.ntmps-vs.toArray.size) undef).size=G.nt
  rw[Array.size_append,Array.size_replicate,List.size_toArray];omega
theorem lY {fn:Func}{st:Bool}{r:RP}:∀{l:List (Ex × AS)},xO fn st r l=true->∀p ∈ l,(∀i,p.1 ≠ .exit i)/\∃xs,kU p.2 fn.results.toList=some xs/\aGm p.2 st r xs=true
 | [],_,p,h=>by cases h
 | (.exit _,_) :: _,h,_,_=>by cases h
 | (.normal,A) :: l,h,p,hp=>by
  simp only[xO,zC0]at h;rcases zG3.1 hp with rfl|hp
  .
   refine⟨fun i=>by simp, ?_⟩;have h1:=h.1;split at h1
   .
    rename_i xs e;exact⟨xs,e,h1⟩
   .
    cases h1
  .
   exact lY h.2 p hp
 | (.ret,A) :: l,h,p,hp=>by
  simp only[xO,zC0]at h;rcases zG3.1 hp with rfl|hp
  .
   refine⟨fun i=>by simp, ?_⟩;have h1:=h.1;split at h1
   .
    rename_i xs e;exact⟨xs,e,h1⟩
   .
    cases h1
  .
   exact lY h.2 p hp
theorem sM {g c:Bool}:∀{l:List (Ex × AS)},aM9 g c l=true->∀p ∈ l,(g=true->aHv p.2=true/\xP p.2=true)/\(c=true->xP p.2=true)
 | [],_,p,h=>by cases h
 | q :: l,h,p,hp=>by
  simp only[aM9,zC0,Bool.or_eq_true,Bool.not_eq_true']at h;rcases zG3.1 hp with rfl|hp
  .
   exact⟨fun hg=>h.1.1.resolve_left (by rw[hg];simp),fun hc=>h.1.2.resolve_left (by rw[hc];simp)⟩
  .
   exact sM h.2 p hp
theorem aAl {A:AS}(h:xP A=true):at? A.bk 0=some .cur:=by
 unfold xP at h;split at h
 .
  assumption
 .
  cases h
theorem aHu {e:Nat}{ρ0:Nat->Value}{A:AS}{a:Act}(hs:Hs C U G e 2 ρ0 (aMz I) A τ V a w)(he:7<=e)(hr:∀s v,I.sym[s]?=some v->ρ0 s=v)(hg:aHv A=true):∃left cm,I64 left/\Blk w I.gb 170 ({ I with calm:=cm }.vals left):=by
 unfold aHv at hg;split at hg
 .
  rename_i T l hb;simp only[zC0,beq_iff_eq]at hg;obtain⟨rfl,hg⟩:=hg;have Tj:=hs.fb 0 A0;have hb1:=hs.fb 1 A0;obtain⟨⟨vs,Ck,Km⟩,_⟩:=hs.kn.bk 1 _ hb (dB hb);rw[hb1]at Ck;unfold aPp at hg;split at hg
  .
   rename_i a0 b0 c0 d0 e0 f0 g0 h0 i0 j0 k0 lo hi x;simp only[zC0,beq_iff_eq,zE3]at hg;obtain⟨⟨⟨⟨⟨⟨⟨⟨⟨⟨⟨⟨⟨rfl,rfl⟩,rfl⟩,rfl⟩,rfl⟩,rfl⟩,rfl⟩,rfl⟩,rfl⟩,rfl⟩,rfl⟩,h1⟩,h2⟩,h3⟩:=hg;obtain⟨v0,_,rfl,q0,v1,_,rfl,q1,v2,_,rfl,q2,v3,_,rfl,q3,v4,_,rfl,q4,v5,_,rfl,q5,v6,_,rfl,q6,v7,_,rfl,q7,v8,_,rfl,q8,v9,_,rfl,q9,v10,_,rfl,q10,rfl⟩:=Km;obtain⟨x8,rfl,y8,z8⟩:=q8;obtain⟨x9,rfl,y9,z9⟩:=q9;obtain⟨cm,rfl⟩:=rW q10 h3;obtain rfl:x8=1:=A0;have sy:∀s v u,I.sym[s]?=some v->CV.ok V (.sl s) u->s<7->u=v:=fun s v u e1 e2 e3=>by
    rw[show u=V.ρ s from e2,hs.fs s A0];exact hr s v e1
   have e0:v0=.pointer (some ⟨I.cb,0,none⟩):=by rw[show v0=.pointer (some ⟨V.β 0,0,none⟩) from q0,Tj];rfl
   rw[e0,sy 0 _ _ rfl q1 A0,sy 2 _ _ rfl q2 A0,sy 1 _ _ rfl q3 A0,sy 3 _ _ rfl q4 A0,sy 4 _ _ rfl q5 A0,sy 5 _ _ rfl q6 A0,sy 6 _ _ rfl q7 A0]at Ck;unfold mn at h1;unfold mx at h2;exact⟨x9,cm,⟨by omega,by omega⟩,Ck⟩
  .
   cases hg
 .
  cases hg
theorem bN {c:Con}{fn:Func}(hcons:∀k ∈ G.cons,ConOk k)(hf:Tryz.prog.funcs[c.f]?=some fn)(hk:bJ G c fn=true):ConOk c:=by
 unfold bJ at hk;simp only[zC0,beq_iff_eq,Bool.or_eq_true,Bool.not_eq_true',Nat.ble_eq]at hk;obtain⟨⟨⟨⟨h1,h2⟩,h3⟩,h4⟩,h5⟩:=hk;split at h5
 .
  rename_i b hb;split at h5
  .
   rename_i l hl;simp only[zC0]at h5;intro τ w I vs hT Dm Ep Bs;refine calls_of_wp hf hb ?_;have hs:=aAh (G:=G) (fn:=fn) h1 hT Dm Ep Bs h3 h4 (if bF c.args then Us I.fa w else fun _=>True);have hE:Env ⟨c.st,c.K I,τ,w⟩ (if bF c.args then Us I.fa w else fun _=>True) G (eV c).sy.length (eV c).bk.length (rho ((if bF c.args then I.sym else [])++iT c.args vs)):=by
    refine⟨⟨h1.symm,hT,hcons⟩,fun Tw=>?_⟩
    .
     obtain⟨g1,g2⟩:=h2.resolve_left (by rw[Tw];simp);have hG:=Ep.gen g1;rw[g1];simp only[if_true];refine⟨?_,g2,hG.fa,hG.us,hG.use,rfl⟩;show 2<=((if bF c.args then gSy else [])++jP c.args).length
     rw[g1,if_pos rfl,zA1];exact zF2 (by decide:2<=gSy.length) (Nat.le_add_right _ _)
   refine xM hE 100 b _ l _ _ _ _ _ hl hs ?_;rintro z a' w' ⟨p,hp,hm,τ2,V2,De⟩;obtain⟨e1,xs,e2,e3⟩:=lY h5.1 p hp;obtain⟨e4,e5⟩:=sM h5.2 p hp;obtain⟨v,r1,r2⟩:=yL De h1.symm (I:=I) e2 e3;have cur:xP p.2=true->(bF c.args=true\/eJ c.args=true)->Cur w' I.cb:=fun hc hh=>by
    have h9:=aAl hc;have:=(De.kn.bk 0 _ h9 (dB h9)).1;rw[De.fb 0 (by
     show 0<(if bF c.args then [Bk.cur,gBk] else if eJ c.args then [.cur] else []).length
     rcases hh with hh|hh
     .
      rw[if_pos hh];decide
     .
      split
      .
       decide
      .
       first|decide|(rw[if_pos hh];decide))]at this
    exact this
   have fin:a'.defers=[]/\∃v,(results fn a'.tmps).run Tryz.prog w'=.ok v w'/\∃u τ',Ending.returned v=.returned u/\Fr ⟨c.st,c.K I,τ,w⟩ τ' w'/\(c.st=true->Tg τ->Tg τ')/\c.After w' I/\c.res.ok c.st τ' w.heap.size I u:=by
    refine⟨De.df,v,r1,v,τ2,rfl,De.kn.fr,De.tq,⟨fun hg=>⟨cur (e4 hg).2 (.inl hg), ?_⟩,fun hc=>cur (e5 hc) (.inr hc)⟩,by rw[<-h1];exact r2⟩;have e6:(eV c).bk.length=2:=by show(if bF c.args then [Bk.cur,gBk] else if eJ c.args then [.cur] else []).length=_;rw[if_pos hg];rfl
    have Mr:=De;rw[e6]at Mr;refine aHu Mr ?_ (fun s v h9=>?_) (e4 hg).1
    .
     show 7<=((if bF c.args then gSy else [])++jP c.args).length
     rw[if_pos hg,zA1];exact zF2 (by decide:7<=gSy.length) (Nat.le_add_right _ _)
    .
     unfold rho;rw[if_pos hg,List.getElem?_append_left (zC1.1 h9).1,h9];rfl
   exact QA61
  .
   cases h5
 .
  cases h5
end
end Eg
end
namespace Eg
def dU:Con:=⟨10,true,[.cur,.int mn 1000000],.bool,false⟩
def eP:Con:=⟨141,true,[.cur,.sl .ii 1 100],.int mn mx,true⟩
def c4b:Con:=⟨101,true,[.bool],.int 0 1,true⟩
def aAn:Con:=⟨140,true,[.int mn mx],.num,true⟩
def cV:Con:=⟨139,true,[.sl .bt 0 4],.vr,true⟩
def xT (t:Nat):Con:=⟨143,true,[.int mn mx,.rc (t-1),.rc (t-1)],.rc t,true⟩
def cEx (lo hi:Int)(t:Nat):Con:=⟨100,true,[.gen,.int lo hi],.rc t,true⟩
def jI (d:Int)(t:Nat):Con:=⟨142,true,[.gen,.int d d],.tb t,true⟩
def nG:Con:=⟨51,true,[.rc 12],.sl .ii 0 3,true⟩
def cFa:Con:=⟨105,true,[.fa,.un],.ixf,true⟩
def cSt (d:Int)(S:Nat):Con:=⟨138,true,[.gen,.int d d],.sl (.rc S) 1 (if d<=0 then 1 else 2),true⟩
def sW (N:Nat)(d:Int)(S:Nat):Con:=⟨99,true,[.gen,.int 0 N,.int d d],.sl (.rc S) 0 (N*(if d<=0 then 1 else 2)),true⟩
def aAo:Con:=⟨50,true,[.cur,.str,.sl (.rc 4) 0 2,.bool,.bool],.rc 13,true⟩
def aIj:Con:=⟨26,true,[.rc 13],.rc 4,true⟩
def aMx:Con:=⟨25,true,[.cur,.bool],.sl (.rc 13) 1 3,true⟩
def vC:Con:=⟨186,true,[.int mn mx],.int mn mx,true⟩
def aTo:Con:=⟨187,true,[.cur],.int mn mx,true⟩
def aE7:Con:=⟨178,true,[.cur],.int mn mx,true⟩
def aJv:Con:=⟨118,true,[.cur,.sl .bt 0 9000],.sl .bt 0 9001,true⟩
def aTk:Con:=⟨156,true,[.cur],.rc 21,true⟩
def cL4 (m:Nat):Con:=⟨57,true,[.sl (.rc 21) 0 m],.sl .bt 0 (12*m),true⟩
def aE8:Con:=⟨117,true,[.cur],.rc 21,true⟩
def aTn:Con:=⟨56,true,[.sl .bt 0 4,.sl .ii 0 3],.int mn mx,true⟩
def aMw:Con:=⟨60,true,[.cur,.str,.sl (.rc 19) 0 8],.rc 20,true⟩
def cOwnO:Con:=⟨59,true,[.rc 20],.rc 20,true⟩
def vD:Con:=⟨27,true,[.rc 13,.sl (.rc 4) 0 3],.ti 20,true⟩
def aTe:Con:=⟨28,true,[.cur,.rc 4,.sl (.rc 4) 0 3],.rc 20,true⟩
def aJu:Con:=⟨9,true,[.cur,.bool],.t3 (.rc 20) 1 3,true⟩
def aP5:Con:=⟨11,false,[.cur,.sl (.rc 20) 1 3],.sl (.rc 20) 0 12,true⟩
theorem cn {k:Con}{l:List Con}(h:ConOk k)(hl:∀c ∈ l,ConOk c):∀c ∈ k :: l,ConOk c:=fun c hc=>by
  rcases zG3.1 hc with rfl|hc
  . exact h
  . exact hl c hc
theorem cz:∀c ∈ ([]:List Con),ConOk c:=fun c hc=>by cases hc
end Eg
theorem aV.part {w:World}{b off n lo m:Nat}{l:List Int}(h:aV w (some ⟨b,off,none⟩) n l)(hm:lo+m<=n):aV w (some ⟨b,off+lo,none⟩) m ((l.drop lo).take m):=by
 refine⟨by simp[h.1];omega,fun x hx=>h.2.1 x (List.mem_of_mem_drop (List.mem_of_mem_take hx)),fun h0=>⟨b,off+lo,rfl,fun i hi=>?_⟩⟩;obtain⟨b',Kw,e,hc⟩:=h.2.2 A0;simp only[zG2,Addr.mk.injEq,and_true]at e;obtain⟨rfl,rfl⟩:=e;rw[Nat.add_assoc,hc (lo+i) A0];simp[hi]
theorem aV.empty {w:World}(a:Option Addr):aV w a 0 []:=⟨rfl,by simp,by omega⟩
section
variable{l:List Int}{base c off q:Nat}{w w1:World}
theorem hH{ops:Array Oper}{o:Oper}{a:Act}{K:Act->World->Prop}{Q:Exit->Act->World->Prop}{E:Prop}(Le:o.guard=none)(s x:Operand)
  (ho:o.op=.call { callee:=.builtin .append,args:=#[s,x],argTypes:=#[22,22] })
  (base:Nat) (v:Value) (n:Nat) (l:List Int) (hs:a.eval s=v) (Aj:Own w base v n l)
  (ad:Addr) (m c:Nat) (l2:List Int) (hx:a.eval x=.slice (some ad) m c) (hr:aV w (some ad) m l2)
  (Bg:n+m<=1099511627776) (Bw:base<=w.heap.size)
  (h:∀v' w',Own w' base v' (n+m) (l++l2)->w.grownBy w' v.ownBlock->K (a.put o.dst v') w'):
  if Region.wanted o (yielded ops a.tmps)=true then Oper.wp Tryz.prog o a w K Q else E:=by
 have hw:Region.wanted o (yielded ops a.tmps)=true:=by simp[Region.wanted,Le]
 rw[if_pos hw];refine M955 ?_;intro i0 hi Dd Db Cz Bv;refine wp_append_own w s x 22 ho base 5 i0 (.int .u8 0) 1 1 Tryz.underlying22 hi Dd Db Cz rfl A6 v n _ hs Aj.1 ad m c (l2.map (Value.int .u8)) hx (by simp[hr.1]) ?_ (ints_oneCell _ _) A11 A0 Bw ?_
 .
  exact QA24
 .
  exact QA72
theorem Own.cut{n i:Nat}(h:Own w base (.slice (some ⟨q,0,none⟩) n c) n l)(hi:i<=n):Own w base (.slice (some ⟨q,0,none⟩) i c) i (l.take i):=by
 obtain⟨⟨Ah,hr⟩,Bv⟩:=h;refine⟨⟨?_, ?_⟩,fun x hx=>Bv x (List.mem_of_mem_take hx)⟩
 .
  simp at Ah ⊢;omega
 .
  rcases hr with⟨e,_⟩|⟨g,cap,cur,e,hb,hh,Fu,Oi,hs,ht⟩
  .
   simp at e
  .
   simp only[Value.slice.injEq,zG2,Addr.mk.injEq,and_true,true_and]at e;obtain⟨rfl,rfl⟩:=e;refine .inr ⟨q,c,cur,rfl,hb,hh,by omega,Oi,hs, ?_⟩;rw[List.map_take,<-ht,List.take_take];congr 1;omega
theorem Own.storedB{n:Nat}(h:Own w base (.slice (some ⟨q,0,none⟩) n c) n l)(j:Nat)(x:Int)(h0:0<=x)(h1:x<=255):
  Own (w.setCell ⟨q,j,none⟩ (.int .u8 x)) base (.slice (some ⟨q,0,none⟩) n c) n (l.set j x)/\w.grownBy (w.setCell ⟨q,j,none⟩ (.int .u8 x)) (some q):=by
 obtain⟨h2,h3⟩:=h.1.stored j (.int .u8 x);refine⟨⟨by rw[List.map_set];exact h2, ?_⟩,h3⟩;intro y hy;rcases List.mem_or_eq_of_mem_set hy with hy|rfl
 .
  exact h.2 y hy
 .
  exact⟨h0,h1⟩
theorem aV.grown{w':World}{a:Option Addr}{n:Nat}{row:Option Nat}(h:aV w a n l)(hg:w.grownBy w' row)(Ae:∀b off,a=some ⟨b,off,none⟩->row ≠ some b):aV w' a n l:=by
 refine⟨h.1,h.2.1,fun hp=>?_⟩;obtain⟨b,off,e,hc⟩:=h.2.2 hp;exact⟨b,off,e,fun i hi=>hg.cell (hc i hi) (fun e2=>Ae b off e e2.symm)⟩
theorem aV.tail{b n lo:Nat}(h:aV w (some ⟨b,off,none⟩) n l)(hm:lo<=n):aV w (some ⟨b,off+lo,none⟩) (n-lo) (l.drop lo):=by
 have:=h.part (lo:=lo) (m:=n-lo) A0;rwa [zD3 (by rw[List.length_drop,h.1];exact zB0 _)]at this
theorem qR{row:Option Nat}(h:w.grownBy w1 row):w.grownBy w1.drew row:=⟨h.os,h.tape,h.output,h.size,h.block⟩
theorem uN{row:Option Nat}(h:w.drew.grownBy w1 row):w.grownBy w1 row:=⟨h.os,h.tape,h.output,h.size,h.block⟩
theorem aMy (a b:Int):0<=bits .xor .u8 a b/\bits .xor .u8 a b<=255:=by
 unfold bits;simp only[IntKind.wrap_u8];omega
theorem aNw{o b s:Nat}(e:(some ⟨q,o,none⟩:Option Addr)=some ⟨b,off,none⟩)(e2:some s=some b)(h:q<s):False:=by
 simp only[zG2,Addr.mk.injEq,and_true]at e;have:=Option.some.inj e2;omega
theorem qQ{v:Value}{g B:Nat}(It:∀k,v.ownBlock=some k->k=q)(hqb:B<=q)(Fb:g<B)(k:Nat)(hk:v.ownBlock=some k):some g ≠ some k:=by
 intro e;have h1:=It k hk;have h2:=Option.some.inj e;omega
end
end Go.Proofs.YtcbhdhmhidpdgaaGreatDoor

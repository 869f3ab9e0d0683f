import Derived.Test.YtffphdacgblaoaaGreatDoorPackAD
import Derived.LoopN
namespace Go.Proofs.YtffphdacgblaoaaGreatDoor
open Go.RowKit
set_option linter.unusedVariables false
set_option linter.unusedSimpArgs false
set_option maxRecDepth 100000
namespace Eg
section
variable {C:Cx} {U:Value->Prop} {G:Cfg} {A A':AS} {S B X S' B' X':Nat->Prop} {τ τ':Sm} {V V':Vl} {a:Act} {w w':World}
theorem Kn.like (h:Kn C U A S B X τ V w)(h1:A'.sy=A.sy)(h2:A'.bk=A.bk)(h3:A'.tg=A.tg):Kn C U A' S B X τ V w:=by
 obtain⟨a1,a2,a3,a4,a5,a6,a7⟩:=A;obtain⟨b1,b2,b3,b4,b5,b6,b7⟩:=A'
 simp only at h1 h2 h3
 subst h1 h2 h3;exact⟨h.fr,h.sy,h.sc,h.bk,h.bc,h.dj,h.lo,h.tg,h.cu⟩
theorem Kn.syIn (h:Kn C U A S B X τ V w)(hS:∀s,S s->s<A.sy.length):aG4 V S:=fun s hs=>by
 obtain⟨f,hf⟩:∃f,at? A.sy s=some f:=by rw[eK];exact⟨_,zA0 (hS s hs)⟩
 rcases (h.sy s f hf hs).1 with⟨e,_⟩|⟨b,j,c,s',e,_⟩
 .
  exact⟨_,_,_,e⟩
 .
  exact⟨_,_,_,e⟩
theorem Kn.low (h:Kn C U A S B X τ V w){c b:Nat}{x:Bk}(hc:at? A.bk c=some .cur)(hB:B c)(hx:at? A.bk b=some x)(hb:B b)(Aw:b ≠ c):V.β c<V.β b:=by
 obtain⟨h1,h2⟩:=h.lo c hc hB;have h3:=(h.bk b x hx hb).2.2.2;have h4:=h.dj b c x _ hx hc hb hB Aw
 have h5:V.β c<=V.β b:=by
  rcases zJ3 (V.β b) (V.β c) with h9|h9
  .
   rcases h3 with h3|h3
   .
    exact absurd h3 (h2 _ h9).2
   .
    omega
  .
   exact h9
 omega
structure UsE (C:Cx) (U:Value->Prop) (A:AS) (V:Vl):Prop where
 two:2<=A.sy.length
 st:C.st=true
 fa:SVb C.τ0 (.rc 4) 0 2 (V.ρ 0)
 us:SVb C.τ0 (.rc 0) 0 2 (V.ρ 1)
 use:∀b o n c i v,V.ρ 1=.slice (some ⟨b,o,none⟩) n c->i<n->C.w0.cell? ⟨b,o+i,none⟩=some v->Us (V.ρ 0) C.w0 v
 u:U=Us (V.ρ 0) C.w0
theorem UsE.on (h:UsE C U A V)(hA:A.sy.length<=A'.sy.length)(hρ:∀s,s<A.sy.length->V'.ρ s=V.ρ s):UsE C U A' V':=by
 have h0:=hρ 0 (by have:=h.two;omega)
 have h1:=hρ 1 (by have:=h.two;omega)
 refine⟨zF2 h.two hA,h.st,by rw[h0];exact h.fa,by rw[h1];exact h.us, ?_,by rw[h0];exact h.u⟩
 rw[h0,h1];exact h.use
structure aNb (C:Cx) (G:Cfg):Prop where
 st:C.st=G.st
 th:TH C.τ0 C.w0
 con:∀k ∈ G.cons,qK k
theorem aPd {E:AS}(hE:aNb C G)(hU:G.us=true->UsE C U E V)(h:Kn C U A S B X τ V w)(hS:∀s,s<E.sy.length->S s):Ctx C U G A S B V w:=by
 refine⟨hE.st,hE.th,hE.con,fun hg=>?_,fun b c hg hb hc hB=>?_⟩
 .
  have h1:=hU hg
  have:=h1.two
  exact⟨⟨h1.st,hS 0 Q0,hS 1 Q0,h1.fa,h1.us,h1.use⟩,h1.u⟩
 .
  unfold AS.gen at hg
  split at hg
  .
   rename_i hx
   exact h.low hc hB hx hb (fun e=>by subst e;rw[hx]at hc;cases hc)
  .
   cases hg
end
section
variable {C:Cx} {U:Value->Prop} {G:Cfg} {A:AS} {ops:Array Oper} {ms:List Nat} {I:List Ri} {f:Nat->AS} {g:Nat->Out} {st:Nat->Option Bool}
structure Inv (C:Cx) (U:Value->Prop) (G:Cfg) (A:AS) (ops:Array Oper) (ms:List Nat) (I:List Ri) (f:Nat->AS) (g:Nat->Out) (st:Nat->Option Bool) (a0:Act) (V0:Vl) (τ0:Sm) (L R:Nat->Prop) (K:List Bk) (b:Bool) (τ:Sm) (V:Vl) (a:Act) (w:World):Prop where
 kn:Kn C U { f ops.size with bk:=K,tg:=b } (Sb A f R) (Bb A ops R K) (Xb A f R) τ V w
 at_:At ops I f L K b
 sl:Sl A ops g st a0 L R (Sb A f R) (Bb A ops R K) (Xb A f R) τ V a
 rl:∀j,R j->L j
 ls:∀j,L j->j<ops.size
 cl:∀j k,L j->bit ms j k=true->L k
 nt:a.tmps.size=a0.tmps.size
 df:a.defers=a0.defers
 tq:C.st=true->Tg C.τ0->Tg τ
 ρ0:∀s,s<A.sy.length->V.ρ s=V0.ρ s
 β0:∀n,n<A.bk.length->V.β n=V0.β n
 ι0:∀c,c<A.ni->V.ι c=V0.ι c
 un:∀j o T z ds,ops[j]?=some o->o.op=.alloc T->bY T TZ=some (z,ds)->¬L j->at? K (A.bk.length+nAl j ops.toList)=some (.cells T z)
 kl:A.bk.length<=K.length
 sub:Sub τ0 τ
 cf:(∀j ri,L j->I[j]?=some ri->ri.nq=false)->(∀c ∈ A.cf,c.ok V w)/\∀j,R j->∀c ∈ (g j).nc,c.ok V w
 nc:∀j,R j->∀c ∈ (g j).nc,Sb A f R c.s/\Sb A f R c.r/\∀x ∈ c.ix.is,Xb A f R x
structure aJp (A F:AS) (g:Nat->Out) (m:Nat):Prop where
 k:∀c,(c ∈ A.cf\/∃j,j<m/\c ∈ (g j).nc)->F.kd c.s c.k=true/\c.k ≠ .bt
 o:∀c ∈ A.cf,c.s<A.sy.length/\c.r<A.sy.length/\∀x ∈ c.ix.is,x<A.ni
theorem Cf.on {F:AS}{S B X:Nat->Prop}{τ:Sm}{V V':Vl}{w w':World}{c:Cf}(h:Kn C U F S B X τ V w)(hk:F.kd c.s c.k=true)(hb:c.k ≠ .bt)(hs:S c.s)(hr:S c.r)(hx:∀x ∈ c.ix.is,X x)(hq:∀b s,τ b=some s->s.k ≠ .bt->w'.heap[b]?=w.heap[b]?)(hρ:∀s,S s->V'.ρ s=V.ρ s)(hι:∀c,X c->V'.ι c=V.ι c)(hc:c.ok V w):c.ok V' w':=by
 intro b j n q i e hi hix hu;rw[hρ _ hs]at e;unfold AS.kd at hk
 split at hk
 .
  rename_i sf hf
  have hk':=Rs.eq_eq hk;obtain⟨h1,_⟩:=h.sy _ _ hf hs;rw[hk',e]at h1
  have hb':∃s,τ b=some s/\s.k ≠ .bt:=by
   rcases h1 with⟨h9,_⟩|⟨b',j',c',s,h9,hτ,hk9,_⟩
   .
    cases h9
   .
    simp only[Value.slice.injEq,zG2,Addr.mk.injEq]at h9;obtain⟨⟨rfl,_⟩,_⟩:=h9
    exact⟨s,hτ,by rw[hk9];exact hb⟩
  obtain⟨s,hτ,hsk⟩:=hb';rw[hρ _ hr]
  exact(World.cell?_of_block (hq b s hτ hsk)).trans (hc b j n q i e hi (Ix.on hix fun x hx9=>(hι x (hx x hx9)).symm) hu)
 .
  cases hk
theorem oQ (h:eU G A ops ms I f g st){i j:Nat}{o oj:Oper}(ho:ops[i]?=some o)(hoj:ops[j]?=some oj)(hb:bit ms j i=false)(a:Act)(v:Value):yK ops (a.put o.dst v) oj ↔ yK ops a oj:=by
 obtain⟨ri,_,hs⟩:=h.step j oj hoj;have hg:=hs.gbit
 have ev:∀g' b' og t,oj.guard=some (g',b')->ops[g']?=some og->og.dst=some t->(a.put o.dst v).eval (.tmp t)=a.eval (.tmp t):=fun g' b' og t e1 e2 e3=>by
  rw[e1]at hg;simp only[oX,zC0]at hg
  refine kN fun hd=>?_
  have:=h.uniq ho e2 hd e3
  subst this;rw[hg.2]at hb;cases hb
 constructor
 .
  intro hw g' b' e;obtain⟨og,t,q1,q2,q3⟩:=hw g' b' e
  exact⟨og,t,q1,q2,by rw[<-ev g' b' og t e q1 q2];exact q3⟩
 .
  intro hw g' b' e;obtain⟨og,t,q1,q2,q3⟩:=hw g' b' e
  exact⟨og,t,q1,q2,by rw[ev g' b' og t e q1 q2];exact q3⟩
end
end Eg
theorem U81{p:Prop}(h:p:=by
 rw[kN (fun hd=>ht i o ho hd (.inr rfl))]
 exact hs.old t fun j o' ho' hd hL=>ht j o' ho' hd (.inl hL)):p:=h
theorem U101{p:Prop}(h:p:=by
 exact⟨fun s hs=>iS s (q1 s hs),fun s hs=>iB s (q2 s hs),fun s hs=>iX s (q3 s hs)⟩):p:=h
namespace Eg
theorem aEf (a:Act)(d:Option Nat)(v:Value):(a.put d v).defers=a.defers:=by cases d <;> rfl
theorem rX {A:AS}{us:Bool}{f:Nat}{xs:List AV}{u:Out}:∀{cs:List Con},nV A true us f xs cs=some u->u.br=false
 | [],h=>by cases h
 | c :: cs,h=>by
  simp only[nV]at h
  split at h
  .
   rename_i hh
   simp only[zC0,Bool.not_true,Bool.or_false]at hh;cases h
   show(!c.st)=false
   rw[hh.1.1.1.1.2];rfl
  .
   exact rX h
theorem aJb {G:Cfg}{A:AS}{f:Nat}{xs:List AV}{u:Out}(hG:G.st=true)(h:aGj G A f xs=some u):u.br=false:=by
 unfold aGj at h
 (repeat' split at h) <;> first|cases h;done|(cases h;rfl)|skip
 all_goals rw[hG]at h;exact rX h
theorem aEr {G:Cfg}{A:AS}{o:Oper}{u:Out}(hG:G.st=true)(h:cK G A o=some u):u.br=false:=by
 obtain⟨d,op,ty,pos,aft,gd⟩:=o
 cases op <;> simp only[cK]at h
 all_goals
  (repeat' split at h) <;> first|cases h;done|(cases h;rfl)|(simp only[zF0]at h;obtain⟨_,_,rfl⟩:=h;rfl)|skip
 all_goals first
  | (rename_i hh;cases h;simp only[hG,zC0,Bool.not_true,Bool.false_or,Bool.not_eq_true']at hh;exact hh.1.2)
  | exact aJb hG h
section
variable {C:Cx} {U:Value->Prop} {G:Cfg} {A:AS} {ops:Array Oper} {ms:List Nat} {I:List Ri} {f:Nat->AS} {g:Nat->Out} {st:Nat->Option Bool} {a0 a:Act} {L R S B X S' B' X':Nat->Prop} {τ τ':Sm} {V V':Vl} {i:Nat} {o:Oper}
theorem eU.self (h:eU G A ops ms I f g st):bit ms i i=false:=by
 cases hb:bit ms i i with
 | false=>rfl
 | true=>exact absurd (h.low i i hb) (Nat.lt_irrefl _)
theorem nG.mono {x:AV}(h:nG S B X x)(hS:∀s,S s->S' s)(hB:∀s,B s->B' s)(hX:∀s,X s->X' s):nG S' B' X' x:=⟨fun s hs=>hS s (h.1 s hs),fun s hs=>hB s (h.2.1 s hs),fun s hs=>hX s (h.2.2 s hs)⟩
theorem Sl.pass (h:eU G A ops ms I f g st)(hs:Sl A ops g st a0 L R S B X τ V a)(hrl:∀j,R j->L j)(ho:ops[i]?=some o)(hnL:¬L i)(Ab:∀j,L j->bit ms j i=false)(hr:∀j,bit ms i j=true->L j)(hw:¬yK ops a o)(hnt:G.nt<=a.tmps.size):Sl A ops g st a0 (fun j=>L j\/j=i) R S B X τ V (a.put o.dst undef):=by
 have other:∀j o' t,ops[j]?=some o'->o'.dst=some t->j ≠ i->(a.put o.dst undef).eval (.tmp t)=a.eval (.tmp t):=fun j o' t ho' hd Aw=>kN fun hd'=>Aw (h.uniq ho' ho hd hd')
 refine⟨fun j o' t ho' hd hR=>?_,fun j o' t ho' hd hL hR=>?_,fun t ht=>?_,hs.ent,fun j o' ho' hL=>?_,fun j o' ho' hL hst=>?_,fun j o' ho' hL hst=>?_⟩
 .
  rw[other j o' t ho' hd (fun e=>hnL (e ▸ hrl j hR))]
  exact hs.yes j o' t ho' hd hR
 .
  rcases hL with hL|rfl
  .
   rw[other j o' t ho' hd (fun e=>hnL (e ▸ hL))]
   exact hs.no j o' t ho' hd hL hR
  .
   rw[ho]at ho'
   cases ho'
   rw[hd];exact yY _ (Nat.lt_of_lt_of_le (lL h.dst (aTj ho) hd).1 hnt)
 .
  exact U81
 .
  rcases hL with hL|rfl
  .
   rw[oQ h ho ho' (Ab j hL)];exact hs.want j o' ho' hL
  .
   rw[oQ h ho ho' h.self];rw[ho]at ho'
   cases ho'
   exact⟨fun h9=>absurd (hrl j h9) hnL,fun h9=>absurd h9 hw⟩
 .
  rcases hL with hL|rfl
  .
   exact hs.tt j o' ho' hL hst
  .
   exact absurd ((mV h hs ho hr).1 hst) hw
 .
  rcases hL with hL|rfl
  .
   exact hs.ff j o' ho' hL hst
  .
   exact fun h9=>hnL (hrl j h9)
theorem Sl.take (h:eU G A ops ms I f g st)(hs:Sl A ops g st a0 L R S B X τ V a)(hrl:∀j,R j->L j)(ho:ops[i]?=some o)(hnL:¬L i)(Ab:∀j,L j->bit ms j i=false)(hr:∀j,bit ms i j=true->L j)(hw:yK ops a o)(hnt:G.nt<=a.tmps.size){v:Value}
  (hsub:Sub τ τ') (hρ:∀s,S s->V'.ρ s=V.ρ s) (hβ:∀n,B n->V'.β n=V.β n) (hι:∀c,X c->V'.ι c=V.ι c) (hS:∀s,S s->S' s) (hB:∀s,B s->B' s) (hX:∀s,X s->X' s) (hv:(g i).r.ok τ' V' v) (hsp:nG S' B' X' (g i).r):Sl A ops g st a0 (fun j=>L j\/j=i) (fun j=>R j\/j=i) S' B' X' τ' V' (a.put o.dst v):=by
 have other:∀j o' t,ops[j]?=some o'->o'.dst=some t->j ≠ i->(a.put o.dst v).eval (.tmp t)=a.eval (.tmp t):=fun j o' t ho' hd Aw=>kN fun hd'=>Aw (h.uniq ho' ho hd hd')
 have on:∀x u,AV.ok τ V x u->nG S B X x->AV.ok τ' V' x u:=fun x u h1 h2=>AV.on h1 hsub (fun s h9=>hρ s (h2.1 s h9)) (fun s h9=>hβ s (h2.2.1 s h9)) (fun s h9=>hι s (h2.2.2 s h9))
 refine⟨fun j o' t ho' hd hR=>?_,fun j o' t ho' hd hL hR=>?_,fun t ht=>?_,fun t=>?_,fun j o' ho' hL=>?_,fun j o' ho' hL hst=>?_,fun j o' ho' hL hst=>?_⟩
 .
  rcases hR with hR|rfl
  .
   rw[other j o' t ho' hd (fun e=>hnL (e ▸ hrl j hR))]
   obtain⟨q1,q2⟩:=hs.yes j o' t ho' hd hR;exact⟨on _ _ q1 q2,q2.mono hS hB hX⟩
  .
   rw[ho]at ho'
   cases ho'
   rw[hd,yY _ (Nat.lt_of_lt_of_le (lL h.dst (aTj ho) hd).1 hnt)];exact⟨hv,hsp⟩
 .
  rcases hL with hL|rfl
  .
   rw[other j o' t ho' hd (fun e=>hnL (e ▸ hL))]
   exact hs.no j o' t ho' hd hL (fun h9=>hR (.inl h9))
  .
   exact absurd (.inr rfl) hR
 .
  exact U81
 .
  obtain⟨q1,q2⟩:=hs.ent t;exact⟨on _ _ q1 q2,q2.mono hS hB hX⟩
 .
  rcases hL with hL|rfl
  .
   rw[oQ h ho ho' (Ab j hL),<-hs.want j o' ho' hL]
   exact⟨fun h9=>h9.resolve_right (fun e=>hnL (e ▸ hL)),.inl⟩
  .
   rw[oQ h ho ho' h.self];rw[ho]at ho'
   cases ho'
   exact⟨fun _=>hw,fun _=>.inr rfl⟩
 .
  rcases hL with hL|rfl
  .
   exact .inl (hs.tt j o' ho' hL hst)
  .
   exact .inr rfl
 .
  rcases hL with hL|rfl
  .
   rintro (h9|rfl)
   .
    exact hs.ff j o' ho' hL hst h9
   .
    exact hnL hL
  .
   exact absurd hw ((mV h hs ho hr).2 hst)
end
theorem aFl {n:Nat}:∀{l:List Nat},has n l=true->n ∈ l
 | [],h=>by cases h
 | k :: l,h=>by
  simp only[has,Bool.or_eq_true,beq_iff_eq]at h
  rcases h with rfl|h
  .
   simp
  .
   exact List.mem_cons_of_mem _ (aFl h)
theorem aFh {b n h s:Nat}{l:List Nat}(hh:inB b n h l s=true):s<b\/s ∈ l\/(n<=s/\s<h):=by
 simp only[inB,Bool.or_eq_true,zC0,zE3]at hh
 rcases hh with (h1|h1)|h1
 .
  exact .inl h1
 .
  exact .inr (.inl (aFl h1))
 .
  exact .inr (.inr h1)
theorem aAn {A:AS}{s:Nat}:∀{l:List Operand},s ∈ aP1 A l->∃x ∈ l,s ∈ (A.ev x).sy
 | [],h=>by cases h
 | x :: l,h=>by
  rcases List.mem_append.1 h with h|h
  .
   exact⟨x,by simp,h⟩
  .
   obtain⟨y,h1,h2⟩:=aAn h;exact⟨y,by simp[h1],h2⟩
theorem aAp {A:AS}{s:Nat}:∀{l:List Operand},s ∈ aP3 A l->∃x ∈ l,s ∈ (A.ev x).bs
 | [],h=>by cases h
 | x :: l,h=>by
  rcases List.mem_append.1 h with h|h
  .
   exact⟨x,by simp,h⟩
  .
   obtain⟨y,h1,h2⟩:=aAp h;exact⟨y,by simp[h1],h2⟩
theorem aAo {A:AS}{s:Nat}:∀{l:List Operand},s ∈ aP2 A l->∃x ∈ l,s ∈ (A.ev x).is
 | [],h=>by cases h
 | x :: l,h=>by
  rcases List.mem_append.1 h with h|h
  .
   exact⟨x,by simp,h⟩
  .
   obtain⟨y,h1,h2⟩:=aAo h;exact⟨y,by simp[h1],h2⟩
structure yL (A:AS) (u:Out) (S B X:Nat->Prop):Prop where
 up:aP6 A u
 ub:∀b l,u.up=some (b,l)->B b
 r:nG S B X u.r
 ul:∀b l,u.up=some (b,l)->∀x ∈ l,Spo S B X x
 nb:∀T l,u.nb=some (.cells T l)->∀x ∈ l,Spo S B X x
 ns:∀f ∈ u.ns,∀t ∈ f.sy,S t
 nc:∀c ∈ u.nc,S c.s/\S c.r/\∀x ∈ c.ix.is,X x
theorem aNn {E A:AS}{o:Oper}{u:Out}(h:spk E A o u=true){S B X:Nat->Prop}(hx:∀x ∈ looks o,(∀s ∈ (A.ev x).sy,S s)/\(∀n ∈ (A.ev x).bs,B n)/\(∀c ∈ (A.ev x).is,X c))
  (hS0:∀s,s<E.sy.length->S s) (hB0:∀s,s<E.bk.length->B s) (hX0:∀s,s<E.ni->X s)
  (hS1:∀s,A.sy.length<=s->s<A.sy.length+u.ns.length->S s) (hB1:∀s,A.bk.length<=s->s<A.bk.length+u.nb.toList.length->B s) (hX1:u.nx=true->X A.ni):yL A u S B X:=by
 have iS:∀s,inB E.sy.length A.sy.length (A.sy.length+u.ns.length) (aP1 A (looks o)) s=true->S s:=fun s hs=>by
  rcases aFh hs with h1|h1|⟨h1,h2⟩
  .
   exact hS0 s h1
  .
   obtain⟨x,q1,q2⟩:=aAn h1;exact(hx x q1).1 s q2
  .
   exact hS1 s h1 h2
 have iB:∀s,inB E.bk.length A.bk.length (A.bk.length+u.nb.toList.length) (aP3 A (looks o)) s=true->B s:=fun s hs=>by
  rcases aFh hs with h1|h1|⟨h1,h2⟩
  .
   exact hB0 s h1
  .
   obtain⟨x,q1,q2⟩:=aAp h1;exact(hx x q1).2.1 s q2
  .
   exact hB1 s h1 h2
 have iX:∀s,inB E.ni A.ni (if u.nx then A.ni+1 else A.ni) (aP2 A (looks o)) s=true->X s:=fun s hs=>by
  rcases aFh hs with h1|h1|⟨h1,h2⟩
  .
   exact hX0 s h1
  .
   obtain⟨x,q1,q2⟩:=aAo h1;exact(hx x q1).2.2 s q2
  .
   split at h2
   .
    rename_i hn
    rw[show s=A.ni by omega]
    exact hX1 hn
   .
    omega
 simp only[spk,zC0,zF3]at h;obtain⟨⟨⟨⟨⟨⟨⟨h00,h0⟩,h1⟩,h2⟩,h3⟩,h4⟩,h5⟩,h6⟩:=h
 refine⟨fun b l e=>?_,fun b l e=>iB b (by rw[e]at h00;exact h00),⟨fun s hs=>iS s (h1 s hs),fun s hs=>iB s (h2 s hs),fun s hs=>iX s (h3 s hs)⟩,fun b l e x hx9=>?_,fun T l e x hx9=>?_,fun f hf t ht=>iS t (h5 f hf t ht),fun c hc=>?_⟩
 .
  unfold aR3 at h0;rw[e]at h0
  simp only at h0
  split at h0
  .
   rename_i T y e2;exact⟨T,y,e2⟩
  .
   cases h0
 .
  obtain⟨⟨q1,q2⟩,q3⟩:=h4 x (List.mem_append_left _ (by rw[e];exact hx9))
  exact U101
 .
  obtain⟨⟨q1,q2⟩,q3⟩:=h4 x (List.mem_append_right _ (by rw[e];exact hx9))
  exact U101
 .
  obtain⟨⟨q1,q2⟩,q3⟩:=h6 c hc
  exact⟨iS _ q1,iS _ q2,fun s hs=>iX s (q3 s hs)⟩
theorem yL.noNc {A:AS}{u:Out}{S B X:Nat->Prop}(h:yL A u S B X)(b:Bool):yL A (noNc b u) S B X:=by
 unfold Eg.noNc
 split
 .
  exact⟨h.up,h.ub,h.r,h.ul,h.nb,h.ns,fun c hc=>by cases hc⟩
 .
  exact h
end Eg
theorem U53{p:Prop}(h:p:=by
 cases hb:bit ms j i with
 | false=>rfl
 | true=>exact absurd (hv.cl j i hj hb) hnL):p:=h
theorem U55{p:Prop}(h:p:=by
 rcases hj with hj|rfl
 .
  exact .inl (hv.cl j k hj hk)
 .
  exact .inl (hr k hk)):p:=h
theorem U75{p:Prop}(h:p:=by
 rcases hj with hj|rfl
 .
  exact hv.ls j hj
 .
  exact hi):p:=h
theorem U92{p:Prop}(h:p:=by
 rcases h with h|⟨j,h1|rfl,h2,h3⟩
 .
  exact .inl h
 .
  exact .inr ⟨j,h1,h2,h3⟩
 .
  omega):p:=h
namespace Eg
theorem aK0 {A:AS}{K:List Bk}{b:Bool}(n:Nat)(o:Oper)(u:Out):trim { A with bk:=K,tg:=b } n o u=trim A n o u:=by
 unfold trim
 split
 .
  rename_i c x y z e1 e2
  simp only[aHe,aIz]
 .
  rfl
theorem Opd.bk {A:AS}{K:List Bk}{b:Bool}{S B X:Nat->Prop}{τ:Sm}{V:Vl}{a:Act}{x:Operand}(h:Opd A S B X τ V a x):Opd { A with bk:=K,tg:=b } S B X τ V a x:=by
 unfold Opd at *;rw[aIz];exact h
section
variable {C:Cx} {U:Value->Prop} {G:Cfg} {A:AS} {ops:Array Oper} {ms:List Nat} {I:List Ri} {f:Nat->AS} {g:Nat->Out} {st:Nat->Option Bool} {a0 a:Act} {L R:Nat->Prop} {τ0 τ:Sm} {V0 V:Vl} {K:List Bk} {b:Bool} {w:World} {i:Nat} {o:Oper} {ri:Ri}
theorem aM1 {R:Nat->Prop}(he:(f (i+1)).sy.length=(f i).sy.length):Sb A f (fun j=>R j\/j=i)=Sb A f R:=by
 funext s
 refine propext ⟨fun h=>?_,fun h=>aGx h fun j h9=>.inl h9⟩
 exact U92
theorem aMz {R:Nat->Prop}(he:(f (i+1)).ni=(f i).ni):Xb A f (fun j=>R j\/j=i)=Xb A f R:=by
 funext s
 refine propext ⟨fun h=>?_,fun h=>aGw h fun j h9=>.inl h9⟩
 exact U92
theorem Inv.pass (h:eU G A ops ms I f g st)(hv:Inv C U G A ops ms I f g st a0 V0 τ0 L R K b τ V a w)(hnt:G.nt<=a0.tmps.size)(ho:ops[i]?=some o)(hnL:¬L i)(hr:∀j,bit ms i j=true->L j)(hw:¬yK ops a o):Inv C U G A ops ms I f g st a0 V0 τ0 (fun j=>L j\/j=i) R K b τ V (a.put o.dst undef) w:=by
 have hi:i<ops.size:=(zJ0.1 ho).1
 have Ab:∀j,L j->bit ms j i=false:=fun j hj=>by
  exact U53
 obtain⟨ri,hri,hstep⟩:=h.step i o ho
 have hnt':G.nt<=a.tmps.size:=by rw[hv.nt];exact hnt
 have hsp:(g i).up=none/\(g i).nb=none/\(g i).br=false:=by
  cases hst:st i with
  | none=>
   obtain⟨u0,hu,hun,hg,hri'⟩:=hstep.yes Q72;have h1:=hun hst;obtain⟨q1,q2,q3,q4,q5,q6⟩:=lW (A:=f i) A.sy.length o u0 (xM (st i));simp only[aPv,zC0,Option.isNone_iff_eq_none,Bool.not_eq_true']at h1;rw[hg,q2,q3,q6];exact⟨h1.1.1.1,h1.1.1.2,h1.1.2⟩
  | some b=>
   cases b with
   | true=>exact absurd ((mV h hv.sl ho hr).1 hst) hw
   | false=>rw[(hstep.no hst).1];exact⟨rfl,rfl,rfl⟩
 have hat:=At.next h hv.at_ ho hri hr hnL Ab
 have e1:(AS.lay { f i with bk:=K,tg:=b } o.dst (g i)).bk=K:=by simp only[AS.lay,hsp.1,hsp.2.1,Option.toList,List.append_nil]
 rw[e1,(h.row ho hri).2.1,hsp.2.2,Bool.not_false,Bool.and_true]at hat
 refine⟨hv.kn,hat,hv.sl.pass h hv.rl ho hnL Ab hr hw hnt',fun j hj=>.inl (hv.rl j hj),fun j hj=>?_,fun j k hj hk=>?_,by rw[sK];exact hv.nt,by rw[aEf];exact hv.df,hv.tq,hv.ρ0,hv.β0,hv.ι0,fun j o' T z ds q1 q2 q3 q4=>hv.un j o' T z ds q1 q2 q3 (fun h9=>q4 (.inl h9)),hv.kl,hv.sub,fun h9=>hv.cf fun j rj q1 q2=>h9 j rj (.inl q1) q2,hv.nc⟩
 .
  exact U75
 .
  exact U55
theorem Inv.alloc (h:eU G A ops ms I f g st)(hCf:aJp A (f ops.size) g ops.size)(hv:Inv C U G A ops ms I f g st a0 V0 τ0 L R K b τ V a w)(hnt:G.nt<=a0.tmps.size)(ho:ops[i]?=some o)(hnL:¬L i)(hr:∀j,bit ms i j=true->L j)(hw:yK ops a o){T:TypeId}(hT:o.op=.alloc T)(Q:Exit->Act->World->Prop):
  o.wp Tryz.prog a w (fun a' w'=>∃R' K' b' τ' V',Inv C U G A ops ms I f g st a0 V0 τ0 (fun j=>L j\/j=i) R' K' b' τ' V' a' w') Q:=by
 have hi:i<ops.size:=(zJ0.1 ho).1
 have Ab:∀j,L j->bit ms j i=false:=fun j hj=>by
  exact U53
 obtain⟨ri,hri,hstep⟩:=h.step i o ho
 have hnt':G.nt<=a.tmps.size:=by rw[hv.nt];exact hnt
 obtain⟨u0,hu,_,hg,_⟩:=hstep.yes fun e=>(mV h hv.sl ho hr).2 e hw
 have hz:∃z ds,bY T TZ=some (z,ds)/\u0={ r:=.c (.ptr (A.bk.length+nAl i ops.toList) 0) }:=by
  unfold aHl at hu;rw[hT]at hu
  simp only at hu
  split at hu
  .
   rename_i p e1 e2
   cases hu;exact⟨p.1,p.2,e1,rfl⟩
  .
   cases hu
 obtain⟨z,ds,hz,rfl⟩:=hz
 have hgi:g i={ r:=.c (.ptr (A.bk.length+nAl i ops.toList) 0) }:=by
  rw[hg];unfold noNc trim;simp only[hT]
  split <;> rfl
 have e1:(AS.lay { f i with bk:=K,tg:=b } o.dst (g i)).bk=K:=by rw[hgi];simp only[AS.lay,Option.toList,List.append_nil]
 have hat:=At.next h hv.at_ ho hri hr hnL Ab;rw[e1,(h.row ho hri).2.1,hgi,Bool.not_false,Bool.and_true]at hat
 have hnq:ri.nq=false:=by rw[(h.row ho hri).2.2.1,hgi]
 have hp:=hv.un i o T z ds ho hT hz hnL
 have eS:Sb A f (fun j=>R j\/j=i)=Sb A f R:=aM1 (by rw[h.sy1 hi,hgi];simp)
 have eX:Xb A f (fun j=>R j\/j=i)=Xb A f R:=aMz (by rw[h.ni1 hi,hgi];rfl)
 have eB:Bb A ops (fun j=>R j\/j=i) K=fun n=>Bb A ops R K n\/n=A.bk.length+nAl i ops.toList:=by
  funext n
  refine propext ⟨fun h9=>?_,fun h9=>?_⟩
  .
   by_cases e:n=A.bk.length+nAl i ops.toList
   .
    exact .inr e
   .
    refine .inl ⟨h9.1,fun j o' T' q1 q2 q3=>(h9.2 j o' T' q1 q2 q3).resolve_right fun e9=>?_⟩
    subst e9;exact e q3
  .
   rcases h9 with h9|rfl
   .
    exact⟨h9.1,fun j o' T' q1 q2 q3=>.inl (h9.2 j o' T' q1 q2 q3)⟩
   .
    exact⟨dT hp,fun j o' T' q1 q2 q3=>.inr (aLv (aTj q1) (aTj ho) q2 hT Q0)⟩
 have hnB:¬Bb A ops R K (A.bk.length+nAl i ops.toList):=fun h9=>hnL (hv.rl i (h9.2 i o T ho hT rfl))
 have hBlt:∀n,Bb A ops R K n->n<({ f ops.size with bk:=K,tg:=b }:AS).bk.length:=fun n hn=>hn.1
 obtain⟨d,op,ty,pos,aft,gd⟩:=o
 simp only at hT
 subst hT;refine Oper.wp_mono ?_ (aDk hv.kn hz hp hnB hBlt Q);rintro a' w' ⟨τ',V',rfl,hb⟩
 have hn0:∀n,n<A.bk.length->Bb A ops R K n:=fun n hn=>⟨Nat.lt_of_lt_of_le hn hv.kl,fun j o' T' q1 q2 q3=>by omega⟩
 refine⟨fun j=>R j\/j=i,K,b,τ',V',⟨?_,hat, ?_,fun j hj=>hj.imp (hv.rl j) id,fun j hj=>?_,fun j k hj hk=>?_,by rw[sK];exact hv.nt,by rw[aEf];exact hv.df,fun q1 q2=>hb.tg (hv.tq q1 q2),fun s hs=>(hb.ρ s (.inl hs)).trans (hv.ρ0 s hs),fun n hn=>(hb.β n (hn0 n hn)).trans (hv.β0 n hn),fun c hc=>(hb.ι c (.inl hc)).trans (hv.ι0 c hc),fun j o' T' z' ds' q1 q2 q3 q4=>hv.un j o' T' z' ds' q1 q2 q3 (fun h9=>q4 (.inl h9)),hv.kl,hv.sub.trans hb.sub,fun h9=>?_, ?_⟩⟩
 .
  rw[eS,eX,eB];exact hb.kn
 .
  rw[eS,eX,eB]
  refine hv.sl.take h hv.rl ho hnL Ab hr hw hnt' hb.sub hb.ρ hb.β hb.ι (fun _ h9=>h9) (fun _ h9=>.inl h9) (fun _ h9=>h9) ?_ ?_
  .
   rw[hgi];exact rfl
  .
   rw[hgi]
   exact⟨fun s hs=>(by cases hs),fun n hn=>(by simp only[AV.bs,CV.bs,List.mem_singleton]at hn;exact .inr hn),fun s hs=>(by cases hs)⟩
 .
  exact U75
 .
  exact U55
 .
  obtain⟨c1,c2⟩:=hv.cf fun j rj q1 q2=>h9 j rj (.inl q1) q2
  have kd:∀c,({ f ops.size with bk:=K,tg:=b }:AS).kd c=(f ops.size).kd c:=fun c=>rfl
  refine⟨fun c hc=>?_,fun j hj c hc=>?_⟩
  .
   obtain⟨k1,k2⟩:=hCf.k c (.inl hc);obtain⟨o1,o2,o3⟩:=hCf.o c hc
   exact Cf.on hv.kn k1 k2 (.inl o1) (.inl o2) (fun x hx=>.inl (o3 x hx)) hb.qt hb.ρ hb.ι (c1 c hc)
  .
   rcases hj with hj|rfl
   .
    obtain⟨k1,k2⟩:=hCf.k c (.inr ⟨j,hv.ls j (hv.rl j hj),hc⟩);obtain⟨o1,o2,o3⟩:=hv.nc j hj c hc;exact Cf.on hv.kn k1 k2 o1 o2 o3 hb.qt hb.ρ hb.ι (c2 j hj c hc)
   .
    rw[hgi]at hc;cases hc
 .
  rw[eS,eX];intro j hj c hc
  rcases hj with hj|rfl
  .
   exact hv.nc j hj c hc
  .
   rw[hgi]at hc;cases hc
end
end Eg
theorem U108{p:Prop}(h:p:=by
 have:=h.syLe (k:=j+1) (n:=ops.size) (by have:=hRs j h1;omega) (zB0 _)
 omega):p:=h
namespace Eg
section
variable {C:Cx} {U:Value->Prop} {G:Cfg} {A:AS} {ops:Array Oper} {ms:List Nat} {I:List Ri} {f:Nat->AS} {g:Nat->Out} {st:Nat->Option Bool} {a0 a:Act} {L R:Nat->Prop} {τ0 τ:Sm} {V0 V:Vl} {K:List Bk} {b:Bool} {w:World} {i:Nat} {o:Oper} {ri:Ri}
theorem aE9 {E:AS}{d:Option Nat}{u:Out}:(E.lay d u).bk.length=E.bk.length+u.nb.toList.length:=by
 unfold AS.lay;simp only[zA1]
 split
 .
  split
  .
   rw[nI]
  .
   rfl
 .
  rfl
theorem wE {α:Type}{y:α}:∀{l:List α} {n m:Nat},m ≠ n->at? (put l n y) m=at? l m
 | [],_,_,_=>rfl
 | _ :: l,0,0,h=>absurd rfl h
 | _ :: l,0,m+1,h=>rfl
 | z :: l,n+1,0,h=>rfl
 | z :: l,n+1,m+1,h=>by
  simp only[put,at?];exact wE Q0
theorem eU.bkLe (h:eU G A ops ms I f g st){k:Nat}:∀{n:Nat},k<=n->n<=ops.size->(f k).bk.length<=(f n).bk.length
 | 0,hk,_=>by rw[show k=0 by omega];exact zB0 _
 | n+1,hk,hn=>by
  rcases Nat.lt_or_eq_of_le hk with h1|h1
  .
   have h2:=h.bkLe (k:=k) (n:=n) Q0 Q0;obtain⟨o,ho⟩:=nK (ops:=ops) (k:=n) Q0;rw[h.lay ho,aE9]
   omega
  .
   rw[h1];exact zB0 _
theorem lF {ops:List Oper}{is:List Ri}{gd:Option (Nat × Bool)}:∀{l:List Operand},zJ ops ms is i gd l=true->∀x ∈ l,aEq ops ms is i gd none x=true
 | [],_,x,h=>by cases h
 | y :: l,h,x,hx=>by
  simp only[zJ,zC0]at h
  rcases zG3.1 hx with rfl|hx
  .
   exact h.1
  .
   exact lF h.2 x hx
theorem uW (h:eU G A ops ms I f g st){S B X:Nat->Prop}(hs:Sl A ops g st a0 L R S B X τ V a)(ho:ops[i]?=some o)(hr:∀j,bit ms i j=true->L j)(Ab:∀j,L j->bit ms j i=false){pk:Option (Nat × Bool)}(hw:yK ops a o)(hpk:∀c b,pk=some (c,b)->a.eval (.tmp c)=.bool b){x:Operand}(hk:aEq ops.toList ms (I.take i) i o.guard pk x=true):Opd (f i) S B X τ V a x:=by
 cases x with
 | tmp t=>exact yU h hs ho hr Ab hw hpk hk
 | const v=>
  obtain⟨q1,q2,q3⟩:=aGs S B X v;exact⟨aGr τ V v,q1,q2,q3⟩
 | _=>exact⟨trivial,fun s h=> Q69,fun s h=> Q69,fun s h=> Q69⟩
theorem Inv.other (h:eU G A ops ms I f g st)(hE:aNb C G)(hU:G.us=true->UsE C U A V0)(hCf:aJp A (f ops.size) g ops.size)(hv:Inv C U G A ops ms I f g st a0 V0 τ0 L R K b τ V a w)(hnt:G.nt<=a0.tmps.size)(ho:ops[i]?=some o)(hnL:¬L i)(hr:∀j,bit ms i j=true->L j)(hw:yK ops a o)(hT:∀T,o.op ≠ .alloc T)(Q:Exit->Act->World->Prop):
  o.wp Tryz.prog a w (fun a' w'=>∃R' K' b' τ' V',Inv C U G A ops ms I f g st a0 V0 τ0 (fun j=>L j\/j=i) R' K' b' τ' V' a' w') Q:=by
 have hi:i<ops.size:=(zJ0.1 ho).1
 have Ab:∀j,L j->bit ms j i=false:=fun j hj=>by
  exact U53
 obtain⟨ri,hri,hstep⟩:=h.step i o ho
 have hnt':G.nt<=a.tmps.size:=by rw[hv.nt];exact hnt
 obtain⟨u0,hu,_,hg,hri'⟩:=hstep.yes fun e=>(mV h hv.sl ho hr).2 e hw
 have hu':cK G (f i) o=some u0/\spk A (f i) o (trim (f i) A.sy.length o u0)=true:=by
  unfold aHl at hu
  split at hu
  .
   rename_i T e;exact absurd e (hT T)
  .
   simp only[Option.bind_eq_some_iff]at hu;obtain⟨u1,q1,q2⟩:=hu
   split at q2
   .
    rename_i q3
    cases q2;exact⟨q1,q3⟩
   .
    cases q2
 obtain⟨hu1,hspk⟩:=hu'
 have hready:ri.nk=false->K=(f i).bk/\b=(f i).tg:=fun h9=>At.ready h hv.at_ hi hri h9 hr hnL Ab
 have hsp:(g i).up.isSome=true\/(g i).nb.isSome=true->K=(f i).bk/\b=(f i).tg:=fun h9=>by
  refine hready ((jV h.ord hri).1 ?_);rw[(h.row ho hri).1]
  rcases h9 with h9|h9 <;> rw[h9] <;> simp
 have hu2:cK G { f i with bk:=K,tg:=b } o=some u0:=by
  cases hnk:ri.nk with
  | true=>
   rw[hri']at hnk;rw[aEs hnk];exact hu1
  | false=>
   obtain⟨e1,e2⟩:=hready hnk;rw[e1,e2];exact hu1
 obtain⟨t1,t2,t3,t4,t5,t6⟩:=lW (A:=f i) A.sy.length o u0 (xM (st i));rw[<-hg]at t1 t2 t3 t4 t5 t6
 have kn1:Kn C U { ({ f i with bk:=K,tg:=b }:AS) with sy:=(f ops.size).sy } (Sb A f R) (Bb A ops R K) (Xb A f R) τ V w:=hv.kn.like rfl rfl rfl
 have kn2:Kn C U { f i with bk:=K,tg:=b } (Sb A f R) (Bb A ops R K) (Xb A f R) τ V w:=kn1.pre fun s x hx=>h.syIn Q0 hx
 have hRs:∀j,R j->j<ops.size:=fun j hj=>hv.ls j (hv.rl j hj)
 have hnR:¬R i:=fun h9=>hnL (hv.rl i h9)
 have hSlt:∀s,Sb A f R s->s<(f ops.size).sy.length:=fun s hs=>by
  rcases hs with hs|⟨j,h1,h2,h3⟩
  .
   have:=h.syLe (k:=0) (n:=ops.size) Q0 (zB0 _)
   rw[h.f0]at this;exact Nat.lt_of_lt_of_le hs this
  .
   exact U108
 have hSyIn:aG4 V (Sb A f R):=hv.kn.syIn hSlt
 have hC:Ctx C U G { f i with bk:=K,tg:=b } (Sb A f R) (Bb A ops R K) V w:=aPd (E:=A) hE (fun hg=>(hU hg).on (zB0 _) hv.ρ0) kn2 fun s hs=>.inl hs
 have hn:∀q,q<u0.ns.length->¬Sb A f R ((f i).sy.length+q):=fun q hq=>aPr h hRs hi hnR (by rw[t1];exact hq)
 have hnX:u0.nx=true->¬Xb A f R (f i).ni:=fun hx=>aPq h hRs hi hnR (by rw[t4];exact hx)
 have hnB:¬Bb A ops R K K.length:=fun h9=>Nat.lt_irrefl _ h9.1
 have hcf:u0.cu=true->∀c ∈ A.cf,c.ok V w:=fun hcu=>by
  refine(hv.cf fun m rm hm hrm=>?_).1
  cases hq:rm.nq with
  | false=>rfl
  | true=>
   obtain⟨_,h1⟩:=jV h.ord hrm;rw[zJ2]at h1
   have Aw:0+i ≠ m:=fun e=>hnL (by rw[show i=m by omega];exact hm)
   have h2:=(sP h1 hri Aw).1 hq (by rw[hri'];exact hcu)
   rw[zJ2]at h2;rw[Ab m hm]at h2;cases h2
 have hlook:=hstep.look
 have hlk:∀x ∈ looks o,Opd (f i) (Sb A f R) (Bb A ops R K) (Xb A f R) τ V a x:=by
  intro x hx;unfold looks at hx;unfold zV at hlook
  cases hop:o.op with
  | pick c y z=>
   rw[hop]at hx hlook;simp only[List.mem_singleton]at hx;subst hx
   cases x with
   | tmp t=>
    simp only[zC0]at hlook
    exact yU h hv.sl ho hr Ab hw (pk:=none) (fun c b e=>by cases e) hlook.1.1
   | _=>
    simp only at hlook
    exact uW h hv.sl ho hr Ab hw (pk:=none) (fun c b e=>by cases e) (lF hlook _ Q23)
  | _=>
   rw[hop]at hx hlook
   exact uW h hv.sl ho hr Ab hw (pk:=none) (fun c b e=>by cases e) (lF hlook x hx)
 have ok:dW C U { f i with bk:=K,tg:=b } o u0 (Sb A f R) (Bb A ops R K) (Xb A f R) τ V a w:=by
  by_cases hp:∃x y z,o.op=.pick x y z
  .
   obtain⟨c,y,z,hp⟩:=hp
   have hc:Opd (f i) (Sb A f R) (Bb A ops R K) (Xb A f R) τ V a c:=hlk c (by unfold looks;rw[hp];simp)
   have side:(∀q,a.eval c=.bool q->Opd (f i) (Sb A f R) (Bb A ops R K) (Xb A f R) τ V a (if q then y else z)):=by
    intro q hq;unfold zV at hlook;rw[hp]at hlook
    cases c with
    | tmp t=>
     simp only[zC0]at hlook
     cases q with
     | true=>exact uW h hv.sl ho hr Ab hw (pk:=some (t,true)) (fun c b e=>by cases e;exact hq) hlook.1.2
     | false=>exact uW h hv.sl ho hr Ab hw (pk:=some (t,false)) (fun c b e=>by cases e;exact hq) hlook.2
    | _=>
     simp only at hlook
     exact uW h hv.sl ho hr Ab hw (pk:=none) (fun c b e=>by cases e) (lF hlook _ (by cases q <;> simp[Op.operands]))
   obtain⟨d,op,ty,pos,aft,gd⟩:=o
   simp only at hp
   subst hp
   exact aLn kn2 hc.bk (fun e=>(side true e).bk) (fun e=>(side false e).bk) hu2
  .
   have Ae:∀x y z,o.op ≠ .pick x y z:=fun x y z e=>hp ⟨x,y,z,e⟩
   have elk:looks o=o.op.operands.toList:=by
    unfold looks
    split
    .
     rename_i c y z e;exact absurd e (Ae c y z)
    .
     rfl
   refine aQ4 kn2 hSyIn hC hu2 Ae (fun x hx=>(hlk x (by rw[elk];exact hx)).bk) (fun hcu c hc=>?_) hn hnX hnB
   have:c ∈ (f i).cf:=hc
   rw[h.cf Q0]at this;exact hcf hcu c this
 refine Oper.wp_mono ?_ (ok Q);rintro a' w' ⟨v,τ',V',rfl,hres⟩;have hres:=hres.trim (n:=A.sy.length) (o:=o) (xM (st i));rw[aK0,<-hg]at hres;have hat:=At.next h hv.at_ ho hri hr hnL Ab
 have Ak:(AS.lay { f i with bk:=K,tg:=b } o.dst (g i)).bk.length=K.length+(g i).nb.toList.length:=aE9
 have esy:(f (i+1)).sy.length=(f i).sy.length+(g i).ns.length:=by rw[h.sy1 hi];simp
 have hS0:∀s,s<A.sy.length->Sb A f (fun j=>R j\/j=i) s:=fun s hs=>.inl hs
 have hS2:∀s,Sb A f R s->Sb A f (fun j=>R j\/j=i) s:=fun s hs=>aGx hs fun j h9=>.inl h9
 have hX2:∀s,Xb A f R s->Xb A f (fun j=>R j\/j=i) s:=fun s hs=>aGw hs fun j h9=>.inl h9
 have hB2:∀n,Bb A ops R K n->Bb A ops (fun j=>R j\/j=i) (AS.lay { f i with bk:=K,tg:=b } o.dst (g i)).bk n:=fun n hn=>⟨by rw[Ak];have:=hn.1;omega,fun j o' T' q1 q2 q3=>.inl (hn.2 j o' T' q1 q2 q3)⟩
 have hB0:∀n,n<A.bk.length->Bb A ops R K n:=fun n hn=>⟨Nat.lt_of_lt_of_le hn hv.kl,fun j o' T' q1 q2 q3=>by omega⟩
 have hB1:∀n,Bb A ops (fun j=>R j\/j=i) (AS.lay { f i with bk:=K,tg:=b } o.dst (g i)).bk n->Bb A ops R K n\/n=K.length:=fun n hn=>by
  rcases zJ3 n K.length with h9|h9
  .
   refine .inl ⟨h9,fun j o' T' q1 q2 q3=>(hn.2 j o' T' q1 q2 q3).resolve_right fun e=>?_⟩
   subst e;rw[ho]at q1;cases q1;exact hT _ q2
  .
   have:=hn.1
   rw[Ak]at this
   have h8:(g i).nb.toList.length<=1:=by cases (g i).nb <;> simp
   exact .inr Q0
 have hnbB:∀n,(f i).bk.length<=n->n<(f i).bk.length+(g i).nb.toList.length->Bb A ops (fun j=>R j\/j=i) (AS.lay { f i with bk:=K,tg:=b } o.dst (g i)).bk n:=fun n h1 h2=>by
  have hsome:(g i).nb.isSome=true:=by
   cases e:(g i).nb with
   | none=>rw[e]at h2;simp at h2;omega
   | some x=>rfl
  obtain⟨e1,_⟩:=hsp (.inr hsome)
  refine⟨by rw[Ak,e1];exact h2,fun j o' T' q1 q2 q3=>?_⟩
  obtain⟨_,z,ds,hz⟩:=tO h.al (aTj q1) q2;have h3:=dT (zB (aTj q1) q2 hz);have h4:=h.bkLe (k:=0) (n:=i) Q0 Q0;rw[h.f0]at h4;simp only[zA1]at h4
  omega
 have spo:yL (f i) (g i) (Sb A f (fun j=>R j\/j=i)) (Bb A ops (fun j=>R j\/j=i) (AS.lay { f i with bk:=K,tg:=b } o.dst (g i)).bk) (Xb A f (fun j=>R j\/j=i)):=by
  rw[show yL (f i) (g i)=yL (f i) (noNc (xM (st i)) (trim (f i) A.sy.length o u0)) from congrArg _ hg]
  obtain⟨p1,p2,p3,p4,p5,p6⟩:=lW (A:=f i) A.sy.length o u0 false
  have p0:noNc false (trim (f i) A.sy.length o u0)=trim (f i) A.sy.length o u0:=rfl
  rw[p0]at p1 p2 p3 p4 p5 p6
  refine(aNn hspk (fun x hx=>?_) hS0 (fun n hn=>hB2 n (hB0 n hn)) (fun c hc=>Or.inl hc) (fun s h1 h2=>?_) (fun n h1 h2=>?_) (fun hx=>?_)).noNc _
  .
   obtain⟨_,q2,q3,q4⟩:=hlk x hx
   exact⟨fun s hs=>hS2 s (q2 s hs),fun s hs=>hB2 s (q3 s hs),fun s hs=>hX2 s (q4 s hs)⟩
  .
   rw[p1,<-t1]at h2
   exact .inr ⟨i,.inr rfl,h1,by omega⟩
  .
   rw[p2,<-t2]at h2;exact hnbB n h1 h2
  .
   refine .inr ⟨i,.inr rfl,zB0 _, ?_⟩;rw[p4,<-t4]at hx;rw[h.ni1 hi,hx];exact Nat.lt_succ_self _
 have hupIn:aP6 { f i with bk:=K,tg:=b } (g i):=fun n l e=>by
  obtain⟨e1,e2⟩:=hsp (.inl (by rw[e];rfl))
  obtain⟨T,x,h9⟩:=spo.up n l e
  exact⟨T,x,by rw[e1];exact h9⟩
 have kn3:=kn1.post (d:=o.dst) hres hupIn (S':=Sb A f (fun j=>R j\/j=i)) (B':=Bb A ops (fun j=>R j\/j=i) (AS.lay { f i with bk:=K,tg:=b } o.dst (g i)).bk) (X':=Xb A f (fun j=>R j\/j=i))
  (fun q x hq hx=>h.syNew hi hq hx) (fun s hs=>aPs hs esy) hS2 hB1 hB2 hnB hX2 (fun q x hq t ht=>spo.ns x (by rw[eK]at hq;exact zA3 hq) t ht) spo.ul spo.nb
 refine⟨fun j=>R j\/j=i,(AS.lay { f i with bk:=K,tg:=b } o.dst (g i)).bk,b && !ri.br,τ',V',⟨?_,hat, ?_,fun j hj=>hj.imp (hv.rl j) id,fun j hj=>?_,fun j k hj hk=>?_,by rw[sK];exact hv.nt,by rw[aEf];exact hv.df,fun q1 q2=>hres.tg (by rw[t6];exact aEr (hE.st ▸ q1) hu1) (hv.tq q1 q2),fun s hs=>(hres.ρ s (.inl hs)).trans (hv.ρ0 s hs),fun n hn=>(hres.β n (hB0 n hn)).trans (hv.β0 n hn),fun c hc=>(hres.ι c (.inl hc)).trans (hv.ι0 c hc),fun j o' T' z' ds' q1 q2 q3 q4=>?_,by rw[Ak];have:=hv.kl;omega,hv.sub.trans hres.sub,fun h9=>?_,fun j hj c hc=>?_⟩⟩
 .
  exact kn3.like rfl rfl (by rw[(h.row ho hri).2.1];rfl)
 .
  exact hv.sl.take h hv.rl ho hnL Ab hr hw hnt' hres.sub hres.ρ hres.β hres.ι hS2 hB2 hX2 hres.r spo.r
 .
  exact U75
 .
  exact U55
 .
  have hq4:¬L j:=fun h9=>q4 (.inl h9)
  have h1:=hv.un j o' T' z' ds' q1 q2 q3 hq4
  cases hup:(g i).up with
  | none=>
   simp only[AS.lay,hup];rw[dG,if_pos (dT h1)];exact h1
  | some p=>
   obtain⟨n,l⟩:=p;obtain⟨T,x,hx⟩:=hupIn n l hup
   have hx':at? K n=some (.cells T x):=hx
   have Aw:n ≠ A.bk.length+nAl j ops.toList:=fun e=>by
    rcases (spo.ub n l hup).2 j o' T' q1 q2 e with h9|h9
    .
     exact hq4 (hv.rl j h9)
    .
     exact q4 (.inr h9)
   simp only[AS.lay,hup,hx]
   rw[dG,if_pos (by rw[nI];exact dT h1)]
   exact(wE (Ne.symm Aw)).trans h1
 .
  obtain⟨c1,c2⟩:=hv.cf fun j rj q1 q2=>h9 j rj (.inl q1) q2
  have hq:=hres.qt (by rw[<-(h.row ho hri).2.2.1];exact h9 i ri (.inr rfl) hri)
  refine⟨fun c hc=>?_,fun j hj c hc=>?_⟩
  .
   obtain⟨k1,k2⟩:=hCf.k c (.inl hc);obtain⟨o1,o2,o3⟩:=hCf.o c hc
   exact Cf.on hv.kn k1 k2 (.inl o1) (.inl o2) (fun x hx=>.inl (o3 x hx)) hq hres.ρ hres.ι (c1 c hc)
  .
   rcases hj with hj|rfl
   .
    obtain⟨k1,k2⟩:=hCf.k c (.inr ⟨j,hv.ls j (hv.rl j hj),hc⟩);obtain⟨o1,o2,o3⟩:=hv.nc j hj c hc;exact Cf.on hv.kn k1 k2 o1 o2 o3 hq hres.ρ hres.ι (c2 j hj c hc)
   .
    exact hres.nc c hc
 .
  rcases hj with hj|rfl
  .
   obtain⟨o1,o2,o3⟩:=hv.nc j hj c hc
   exact⟨hS2 _ o1,hS2 _ o2,fun x hx=>hX2 x (o3 x hx)⟩
  .
   exact spo.nc c hc
end
end Eg
namespace Eg
section
variable {α β:Type}
theorem oO (n:Nat)(k:Nat->α):fN n k=k n:=by cases n <;> rfl
theorem aRi (x:Int)(k:Int->α):fI x k=k x:=by cases x <;> simp only[fI,oO]
theorem aIx (b:Bool)(k:Bool->α):fB b k=k b:=by cases b <;> rfl
theorem vT {f:β->(β->α)->α}(hf:∀x k,f x k=k x):∀(l:List β) (k:List β->α),fL f l k=k l
 | [],_=>rfl
 | x :: l,k=>by rw[fL,hf,vT hf]
theorem aRg {f:β->(β->α)->α}(hf:∀x k,f x k=k x)(x:Option β)(k:Option β->α):fO f x k=k x:=by
 cases x with
 | none=>rfl
 | some x=>rw[fO,hf]
theorem aO8 (x:Ix)(k:Ix->α):fX x k=k x:=by cases x <;> simp only[fX,oO]
theorem aMg (x:Rs)(k:Rs->α):fR x k=k x:=by cases x <;> simp only[fR,oO]
theorem aRe (x:Ct)(k:Ct->α):fT x k=k x:=by simp only[fT,oO,aIx]
theorem aMh (x:CV)(k:CV->α):fC x k=k x:=by cases x <;> simp only[fC,oO,aRi,aIx,aMg,aO8,vT aRe]
theorem aRl (x:AV)(k:AV->α):fA x k=k x:=by cases x <;> simp only[fA,oO,aMh,vT aMh]
theorem aRk (x:SF)(k:SF->α):fF x k=k x:=by simp only[fF,oO,aIx,aMg,aRg oO]
theorem aRh (x:Bk)(k:Bk->α):fK x k=k x:=by cases x <;> simp only[fK,oO,vT aMh]
theorem aRj (x:Cf)(k:Cf->α):fG x k=k x:=by simp only[fG,oO,aMg,aO8]
theorem aRf (x:Nat × AV)(k:Nat × AV->α):fP x k=k x:=by simp only[fP,oO,aRl]
theorem aMf (A:AS)(k:AS->α):fS A k=k A:=by simp only[fS,oO,aIx,vT aRf,vT aRk,vT aRh,vT aRj]
end
theorem sL:∀{l:List Oper} {n:Nat},n<(pre l).length->∃j o T,l[j]?=some o/\o.op=.alloc T/\nAl j l=n
 | [],n,h=>by simp[pre]at h
 | x :: l,n,h=>by
  cases hx:x.op with
  | alloc T=>
   have hl:(pre (x :: l)).length=(pre l).length+1:=by
    simp only[pre,hx]
    split <;> simp
   cases n with
   | zero=>exact⟨0,x,T,rfl,hx,rfl⟩
   | succ n=>
    obtain⟨j,o,T',h1,h2,h3⟩:=sL (l:=l) (n:=n) Q0
    exact⟨j+1,o,T',by rw[List.getElem?_cons_succ];exact h1,h2,by simp only[nAl,hx,h3]⟩
  | _=>
   have hl:pre (x :: l)=pre l:=by simp only[pre,hx]
   rw[hl]at h;obtain⟨j,o,T',h1,h2,h3⟩:=sL (l:=l) h
   exact⟨j+1,o,T',by rw[List.getElem?_cons_succ];exact h1,h2,by simp only[nAl,hx,h3]⟩
theorem zS {l:List Oper}(he:∀i o,l[i]?=some o->lZ i o.after.toList=true):∀(n i j:Nat),i<=n->bit (lO [] l) i j=true->j<i
 | n,i,j,hi,h=>by
  cases ho:l[i]? with
  | none=>
   exfalso
   unfold bit at h
   rw[eK,List.getElem?_eq_none (by rw[vD];have:=List.getElem?_eq_none_iff.1 ho;simpa using this)]at h
   simp at h
  | some o=>
   obtain⟨e,_,_,h1,h2⟩:=vE ho (he i o ho) h
   rcases h2 with h2|h2
   .
    omega
   .
    cases n with
    | zero=>omega
    | succ n=>have:=zS he n e.on j Q0 h2;omega
def aCo (dr:Bool)(ops:Array Oper):List Nat:=if dr then lO [] ops.toList else xT 0 ops.toList
section
variable {C:Cx} {U:Value->Prop} {G:Cfg} {A B:AS} {ops:Array Oper} {ms:List Nat} {I:List Ri} {f:Nat->AS} {g:Nat->Out} {st:Nat->Option Bool} {dr:Bool} {e eb:Nat} {ρ0:Nat->Value} {β0:Nat->Nat} {τ:Sm} {V:Vl} {a:Act} {w:World}
def aF6 (G:Cfg)(ops:Array Oper)(I:List Ri)(F:AS):AS:={ F with sl:=qA G.keep (mX ops.toList I F.sl),cf:=if yG I then [] else F.nc++F.cf,nc:=[] }
theorem aEa (h:region G A ops dr=some B):∃I f g st,eU G A ops (aCo dr ops) I f g st/\aMr (f ops.size) ((f ops.size).nc++(f ops.size).cf)=true/\B=aF6 G ops I (f ops.size)/\I.length=ops.size:=by
 unfold region at h
 change (if aDg G.nt ops.toList && aM8 ops.toList then (uO G ops.toList (aCo dr ops) A 0 ops.toList { A with nc:=[],bk:=A.bk++pre ops.toList } []).bind (fun p=>if aCg (aCo dr ops) p.2 0 p.2 && aMr p.1 (p.1.nc++p.1.cf) then fS (aF6 G ops p.2 p.1) some else none) else none)=some B at h
 split at h
 .
  rename_i hc
  simp only[zC0]at hc;simp only[Option.bind_eq_some_iff]at h;obtain⟨⟨F,I⟩,hg,h⟩:=h
  split at h
  .
   rename_i hd
   simp only[zC0]at hd;rw[aMf]at h;cases h;obtain⟨f,g,st,h1,h2,h3,h4,h5⟩:=uN ops.toList 0 _ [] rfl hg;simp only[zJ2,Array.length_toList]at h2 h4 h5
   have hst:∀k o,ops[k]?=some o->∃ri,I[k]?=some ri/\wG G ops.toList (aCo dr ops) A (I.take k) k o (f k) (g k) (st k) (f (k+1)) ri:=fun k o ho=>h5 k o (by simpa using ho)
   refine⟨I,f,g,st,⟨h1,hst,hd.1,hc.1,fun i j hb=>?_,hc.2⟩,by rw[h2];exact hd.2,by rw[h2],h4⟩
   cases dr with
   | true=>exact zS (fun i o ho=>(hst i o (by simpa using ho)).elim fun _ hx=>hx.2.edge) i i j (zB0 _) hb
   | false=>exact vJ hb
  .
   cases h
 .
  cases h
theorem eU.nc1 (h:eU G A ops ms I f g st){k:Nat}(hk:k<ops.size):(f (k+1)).nc=(g k).nc++(f k).nc:=by
 obtain⟨o,ho⟩:=nK hk;rw[h.lay ho]
 rfl
theorem eU.ncIn (h:eU G A ops ms I f g st){c:Cf}{j:Nat}:∀{n:Nat},j<n->n<=ops.size->c ∈ (g j).nc->c ∈ (f n).nc
 | 0,hj,_,_=>by omega
 | n+1,hj,hn,hc=>by
  rw[h.nc1 Q0]
  rcases Nat.lt_or_eq_of_le (Nat.le_of_lt_succ hj) with h1|h1
  .
   exact List.mem_append_right _ (h.ncIn h1 Q0 hc)
  .
   subst h1;exact List.mem_append_left _ hc
theorem eU.ncOf (h:eU G A ops ms I f g st){c:Cf}:∀{n:Nat},n<=ops.size->c ∈ (f n).nc->∃j,j<n/\c ∈ (g j).nc
 | 0,_,hc=>by rw[h.f0]at hc;cases hc
 | n+1,hn,hc=>by
  rw[h.nc1 Q0]at hc
  rcases List.mem_append.1 hc with hc|hc
  .
   exact⟨n,by omega,hc⟩
  .
   obtain⟨j,h1,h2⟩:=h.ncOf (n:=n) Q0 hc;exact⟨j,by omega,h2⟩
theorem aAu {F:AS}:∀{l:List Cf},aMr F l=true->∀c ∈ l,F.kd c.s c.k=true/\c.k ≠ .bt
 | [],_,c,hc=>by cases hc
 | x :: l,h,c,hc=>by
  simp only[aMr,zC0,Bool.not_eq_true']at h
  rcases zG3.1 hc with rfl|hc
  .
   exact⟨h.1.1.1,fun e=>by have:=h.1.1.2;rw[e]at this;cases this⟩
  .
   exact aAu h.2 c hc
structure Env (C:Cx) (U:Value->Prop) (G:Cfg) (e eb:Nat) (ρ0:Nat->Value):Prop where
 z:aNb C G
 us:G.us=true->2<=e/\C.st=true/\SVb C.τ0 (.rc 4) 0 2 (ρ0 0)/\SVb C.τ0 (.rc 0) 0 2 (ρ0 1)/\(∀b o n c i v,ρ0 1=.slice (some ⟨b,o,none⟩) n c->i<n->C.w0.cell? ⟨b,o+i,none⟩=some v->Us (ρ0 0) C.w0 v)/\U=Us (ρ0 0) C.w0
structure Hs (C:Cx) (U:Value->Prop) (G:Cfg) (e eb:Nat) (ρ0:Nat->Value) (β0:Nat->Nat) (A:AS) (τ:Sm) (V:Vl) (a:Act) (w:World):Prop where
 kn:Kn C U A (·<A.sy.length) (·<A.bk.length) (·<A.ni) τ V w
 sl:∀t,(A.ev (.tmp t)).ok τ V (a.eval (.tmp t))/\nG (·<A.sy.length) (·<A.bk.length) (·<A.ni) (A.ev (.tmp t))
 cf:∀c ∈ A.cf,c.ok V w/\c.s<A.sy.length/\c.r<A.sy.length/\∀x ∈ c.ix.is,x<A.ni
 fs:∀s,s<e->V.ρ s=ρ0 s
 es:e<=A.sy.length
 fb:∀n,n<eb->V.β n=β0 n
 bs:eb<=A.bk.length
 nt:a.tmps.size=G.nt
 df:a.defers=[]
 tq:C.st=true->Tg C.τ0->Tg τ
theorem Hs.usE (hE:Env C U G e eb ρ0)(h:Hs C U G e eb ρ0 β0 A τ V a w)(hg:G.us=true):UsE C U A V:=by
 obtain⟨h1,h2,h3,h4,h5,h6⟩:=hE.us hg;have h9:=h.es;have e0:=h.fs 0 Q0;have e1:=h.fs 1 Q0
 exact⟨by omega,h2,by rw[e0];exact h3,by rw[e1];exact h4,by rw[e0,e1];exact h5,by rw[e0];exact h6⟩
theorem Kn.heq {S B X:Nat->Prop}{w':World}(h:Kn C U A S B X τ V w)(he:w'.heap=w.heap)(h1:w'.os=w.os)(h2:w'.tape=w.tape)(h3:w'.output=w.output):Kn C U A S B X τ V w':=by
 have hb:∀b:Nat,w'.heap[b]?=w.heap[b]?:=fun b=>by rw[he]
 have hz:w'.heap.size=w.heap.size:=by rw[he]
 refine⟨⟨h.fr.th.on fun b s _=>hb b,h.fr.sub,h1.trans h.fr.os,h2.trans h.fr.tape,h3.trans h.fr.output,by rw[hz];exact h.fr.size,h.fr.non,fun b q1 q2 q3=>(hb b).trans (h.fr.blk b q1 q2 q3),fun q0 b q1 q2=>⟨(h.fr.str q0 b q1 q2).1,(hb b).trans (h.fr.str q0 b q1 q2).2⟩⟩,h.sy,h.sc,fun n x hx hn=>?_,h.bc,h.dj,h.lo,h.tg,h.cu⟩
 obtain⟨q1,q2,q3,q4⟩:=h.bk n x hx hn
 refine⟨?_,q2,by rw[hz];exact q3,q4⟩
 cases x with
 | cur=>exact Cur.on q1 fun b _=>hb b
 | cells T l=>obtain⟨vs,q5,q6⟩:=q1;exact⟨vs,(hb _).trans q5,q6⟩
theorem Cf.heq {c:Cf}{w':World}(h:c.ok V w)(he:w'.heap=w.heap):c.ok V w':=fun b j n q i q1 q2 q3 q4=>(World.cell?_of_block (show w'.heap[b]?=w.heap[b]? by rw[he])).trans (h b j n q i q1 q2 q3 q4)
theorem Hs.heq {w':World}(h:Hs C U G e eb ρ0 β0 A τ V a w)(he:w'.heap=w.heap)(h1:w'.os=w.os)(h2:w'.tape=w.tape)(h3:w'.output=w.output):Hs C U G e eb ρ0 β0 A τ V a w':=
 ⟨h.kn.heq he h1 h2 h3,h.sl,fun c hc=>⟨Cf.heq (h.cf c hc).1 he,(h.cf c hc).2⟩,h.fs,h.es,h.fb,h.bs,h.nt,h.df,h.tq⟩
theorem Inv.start (h:eU G A ops ms I f g st)(hs:Hs C U G e eb ρ0 β0 A τ V a w):Inv C U G A ops ms I f g st a V τ (fun _=>False) (fun _=>False) (A.bk++pre ops.toList) A.tg τ V a w:=by
 have hsy:∀s x,s<A.sy.length->at? (f ops.size).sy s=some x->at? A.sy s=some x:=fun s x Aj hx=>by
  obtain⟨r,hr⟩:=h.syN (k:=0) (n:=ops.size) (zD1 _) (zB0 _)
  have h0:(f 0).sy=A.sy:=by rw[h.f0]
  rw[hr,h0,dG,if_pos Aj]at hx;exact hx
 have hS:∀s,Sb A f (fun _=>False) s->s<A.sy.length:=fun s hs=>hs.resolve_right (fun ⟨_,h9,_⟩=>h9)
 have hX:∀s,Xb A f (fun _=>False) s->s<A.ni:=fun s hs=>hs.resolve_right (fun ⟨_,h9,_⟩=>h9)
 have hB:∀n,Bb A ops (fun _=>False) (A.bk++pre ops.toList) n->n<A.bk.length:=fun n hn=>by
  rcases zJ3 n A.bk.length with h9|h9
  .
   exact h9
  .
   have h1:=hn.1;rw[zA1]at h1;obtain⟨j,o,T,q1,q2,q3⟩:=sL (l:=ops.toList) (n:=n-A.bk.length) Q0
   exact(hn.2 j o T (by simpa using q1) q2 Q0).elim
 have hB':∀n,n<A.bk.length->Bb A ops (fun _=>False) (A.bk++pre ops.toList) n:=fun n hn=>⟨by rw[zA1];omega,fun j o T _ _ q=>by omega⟩
 have hbk:∀n x,at? (A.bk++pre ops.toList) n=some x->n<A.bk.length->at? A.bk n=some x:=fun n x hx hn=>by rw[dG,if_pos hn]at hx;exact hx
 have k:=hs.kn
 refine⟨⟨k.fr,fun s x hx hs=>k.sy s x (hsy s x (hS s hs) hx) (hS s hs),fun s x hx hs t ht=>.inl (k.sc s x (hsy s x (hS s hs) hx) (hS s hs) t ht),fun n x hx hn=>k.bk n x (hbk n x hx (hB n hn)) (hB n hn),fun n x hx hn=>?_,fun n m x y hx hy hn hm=>k.dj n m x y (hbk n x hx (hB n hn)) (hbk m y hy (hB m hm)) (hB n hn) (hB m hm),fun n hx hn=>k.lo n (hbk n _ hx (hB n hn)) (hB n hn),k.tg,fun n hx=>?_⟩,⟨fun i hi h1 h2=>?_,fun i hi h1 h2=>?_⟩,⟨fun _ _ _ _ _ h9=>h9.elim,fun _ _ _ _ _ h9=>h9.elim,fun _ _=>rfl,fun t=>?_,fun _ _ _ h9=>h9.elim,fun _ _ _ h9=>h9.elim,fun _ _ _ h9=>h9.elim⟩,fun _ h9=>h9,fun _ h9=>h9.elim,fun _ _ h9=>h9.elim,rfl,rfl,hs.tq,fun _ _=>rfl,fun _ _=>rfl,fun _ _=>rfl,fun j o T z ds q1 q2 q3 _=>?_,by rw[zA1];omega,Sub.refl _,fun _=>⟨fun c hc=>(hs.cf c hc).1,fun _ h9=>h9.elim⟩,fun _ h9=>h9.elim⟩
 .
  obtain⟨c1,c2,c3⟩:=k.bc n x (hbk n x hx (hB n hn)) (hB n hn)
  exact⟨fun s h9=>.inl (c1 s h9),fun m h9=>hB' m (c2 m h9),fun c h9=>.inl (c3 c h9)⟩
 .
  have hx':at? (A.bk++pre ops.toList) n=some .cur:=hx
  rcases zJ3 n A.bk.length with h9|h9
  .
   exact k.cu n (hbk n _ hx' h9)
  .
   exfalso
   have h1:=dT hx';rw[zA1]at h1;obtain⟨j,o,T,q1,q2,q3⟩:=sL (l:=ops.toList) (n:=n-A.bk.length) Q0;obtain⟨_,z,ds,hz⟩:=tO h.al q1 q2;have h2:=zB q1 q2 hz;rw[q3]at h2;rw[dG,if_neg Q0,h2]at hx'
   cases hx'
 .
  rw[h.bkN (zD1 i) hi fun m ri _ hm hri=>?_,h.f0]
  cases hsp:ri.sp with
  | false=>rfl
  | true=>exact(h1 m ri hm hri hsp).elim
 .
  rw[h.tgN (zD1 i) hi fun m ri _ hm hri=>?_,h.f0]
  cases hsp:ri.br with
  | false=>rfl
  | true=>exact(h1 m ri hm hri hsp).elim
 .
  obtain⟨q1,q2⟩:=hs.sl t
  exact⟨q1,q2.mono (fun s h9=>.inl h9) hB' (fun s h9=>.inl h9)⟩
 .
  rw[dG,if_neg Q0,Nat.add_sub_cancel_left];exact zB (aTj q1) q2 q3
theorem Inv.turn (h:eU G A ops ms I f g st)(hE:aNb C G){a0:Act}{V0:Vl}{τ0:Sm}{L R:Nat->Prop}{K:List Bk}{b:Bool}(hU:G.us=true->UsE C U A V0)(hCf:aJp A (f ops.size) g ops.size)(hv:Inv C U G A ops ms I f g st a0 V0 τ0 L R K b τ V a w)(hnt:G.nt<=a0.tmps.size){i:Nat}(hi:i<ops.size)(hnL:¬L i)(hr:∀j,bit ms i j=true->L j)(Q:Exit->Act->World->Prop){P:Act->World->Prop}(hP:∀R' K' b' τ' V' a' w',Inv C U G A ops ms I f g st a0 V0 τ0 (fun j=>L j\/j=i) R' K' b' τ' V' a' w'->P a' w'):
  wpOp Tryz.prog ops Q i P a w:=by
 obtain⟨o,ho⟩:=nK hi;unfold wpOp;rw[ho]
 simp only
 split
 .
  rename_i hw
  have hw':=yN.1 hw
  left
  have key:o.wp Tryz.prog a w (fun a' w'=>∃R' K' b' τ' V',Inv C U G A ops ms I f g st a0 V0 τ0 (fun j=>L j\/j=i) R' K' b' τ' V' a' w') Q:=by
   by_cases hT:∃T,o.op=.alloc T
   .
    obtain⟨T,hT⟩:=hT;exact Inv.alloc h hCf hv hnt ho hnL hr hw' hT Q
   .
    exact Inv.other h hE hU hCf hv hnt ho hnL hr hw' (fun T hT9=>hT ⟨T,hT9⟩) Q
  exact Oper.wp_mono (fun a' w' ⟨R',K',b',τ',V',h9⟩=>hP R' K' b' τ' V' a' w' h9) key
 .
  rename_i hw
  exact hP _ _ _ _ _ _ _ (Inv.pass h hv hnt ho hnL hr (fun h9=>hw (yN.2 h9)))
theorem Inv.same {a0:Act}{V0:Vl}{τ0:Sm}{L L' R:Nat->Prop}{K:List Bk}{b:Bool}(hv:Inv C U G A ops ms I f g st a0 V0 τ0 L R K b τ V a w)(h:∀j,j<ops.size->(L j ↔ L' j))(h':∀j,L' j->j<ops.size):Inv C U G A ops ms I f g st a0 V0 τ0 L' R K b τ V a w:=by
 have:L=L':=by
  funext j
  refine propext ⟨fun h9=>(h j (hv.ls j h9)).1 h9,fun h9=>(h j (h' j h9)).2 h9⟩
 subst this;exact hv
theorem zH (h:eU G A ops (aCo false ops) I f g st)(hE:aNb C G){a0:Act}{V0:Vl}{τ0:Sm}(hU:G.us=true->UsE C U A V0)(hCf:aJp A (f ops.size) g ops.size)(hnt:G.nt<=a0.tmps.size)(Q:Exit->Act->World->Prop)(hQ:∀R K b τ V a w,Inv C U G A ops (aCo false ops) I f g st a0 V0 τ0 (·<ops.size) R K b τ V a w->Q .normal a w):
  ∀(n k:Nat) (R:Nat->Prop) (K:List Bk) (b:Bool) (τ:Sm) (V:Vl) (a:Act) (w:World),k+n=ops.size->Inv C U G A ops (aCo false ops) I f g st a0 V0 τ0 (·<k) R K b τ V a w->wpOps Tryz.prog ops Q (List.range' k n) a w
 | 0,k,R,K,b,τ,V,a,w,hk,hv=>by
  rw[show k=ops.size by omega]at hv
  exact hQ _ _ _ _ _ _ _ hv
 | n+1,k,R,K,b,τ,V,a,w,hk,hv=>by
  rw[List.range'_succ,wpOps_cons]
  refine Inv.turn h hE hU hCf hv hnt (i:=k) Q0 (Nat.lt_irrefl k) (fun j hj=>vJ hj) Q (fun R' K' b' τ' V' a' w' h9=>?_)
  exact zH h hE hU hCf hnt Q hQ n (k+1) R' K' b' τ' V' a' w' Q0 (h9.same (fun j hj=>by omega) (fun j hj=>by omega))
theorem aI1 (h:eU G A ops (aCo true ops) I f g st)(hE:aNb C G){a0:Act}{V0:Vl}{τ0:Sm}(hU:G.us=true->UsE C U A V0)(hCf:aJp A (f ops.size) g ops.size)(hnt:G.nt<=a0.tmps.size)(Q:Exit->Act->World->Prop)(hQ:∀R K b τ V a w,Inv C U G A ops (aCo true ops) I f g st a0 V0 τ0 (·<ops.size) R K b τ V a w->Q .normal a w):
  ∀(n:Nat) (l:List Nat) (d:Array Bool) (R:Nat->Prop) (K:List Bk) (b:Bool) (τ:Sm) (V:Vl) (a:Act) (w:World),l.length<=n->d.size=ops.size->(∀j,j<ops.size->d[j]? ≠ some true->j ∈ l)->Inv C U G A ops (aCo true ops) I f g st a0 V0 τ0 (fun j=>d[j]?=some true) R K b τ V a w->wpAny Tryz.prog .any ops Q n d a w:=by
 have hms:aCo true ops=lO [] ops.toList:=rfl
 have rdy:∀(d:Array Bool) i,i ∈ Region.ready .any ops d ↔ i<ops.size/\d.getD i true=false/\∃o,ops[i]?=some o/\∀e ∈ o.after.toList,Region.binds .any e=true->d.getD e.on false=true:=by
  intro d i;unfold Region.ready;simp only[List.mem_filter,List.mem_range,zC0,Bool.not_eq_true']
  constructor
  .
   rintro⟨h1,h2,h3⟩;refine⟨h1,h2, ?_⟩
   cases ho:ops[i]? with
   | none=>rw[ho]at h3;simp at h3
   | some o=>
    rw[ho]at h3;simp only[Option.map_some,zI1,Array.all_eq_true_iff_forall_mem]at h3
    refine⟨o,rfl,fun e he hb=>?_⟩
    have:=h3 e (by simpa using he)
    simp only[Bool.or_eq_true,Bool.not_eq_true']at this
    rcases this with h9|h9
    .
     rw[hb]at h9;cases h9
    .
     exact h9
  .
   rintro⟨h1,h2,o,ho,h3⟩;refine⟨h1,h2, ?_⟩;rw[ho];simp only[Option.map_some,zI1,Array.all_eq_true_iff_forall_mem];intro e he;simp only[Bool.or_eq_true,Bool.not_eq_true']
   cases hb:Region.binds .any e with
   | false=>exact .inl rfl
   | true=>exact .inr (h3 e (by simpa using he) hb)
 have least:∀(d:Array Bool),d.size=ops.size->Region.ready .any ops d=[]->∀j,j<ops.size->d[j]?=some true:=by
  intro d hd hr j
  induction j using Nat.strongRecOn with
  | _ j ih=>
   intro hj
   cases hdj:d[j]? with
   | none=>rw[Array.getElem?_eq_none_iff]at hdj;omega
   | some q=>
    cases q with
    | true=>rfl
    | false=>
     exfalso
     obtain⟨o,ho⟩:=nK hj;obtain⟨ri,_,hstep⟩:=h.step j o ho
     have:j ∈ Region.ready .any ops d:=(rdy d j).2 ⟨hj,by rw[Array.getD_eq_getD_getElem?,hdj];rfl,o,ho,fun e he hb=>by
      have Aj:=nS hstep.edge e he hb;rw[Array.getD_eq_getD_getElem?,ih e.on Aj Q0]
      rfl⟩
     rw[hr]at this;cases this
 have done:∀(d:Array Bool) R K b τ V a w,(∀j,j<ops.size->d[j]?=some true)->Inv C U G A ops (aCo true ops) I f g st a0 V0 τ0 (fun j=>d[j]?=some true) R K b τ V a w->Q .normal a w:=fun d R K b τ V a w Ah hv=>hQ _ _ _ _ _ _ _ (hv.same (fun j hj=>⟨fun _=>hj,fun _=>Ah j hj⟩) (fun j hj=>hj))
 intro n
 induction n with
 | zero=>
  intro l d R K b τ V a w hl hd hin hv
  have Ah:∀j,j<ops.size->d[j]?=some true:=fun j hj=>by
   by_cases h9:d[j]?=some true
   .
    exact h9
   .
    have:=hin j hj h9
    rw[List.length_eq_zero_iff.1 (Nat.le_zero.1 hl)]at this;cases this
  refine⟨?_,done d R K b τ V a w Ah hv⟩
  refine List.eq_nil_iff_forall_not_mem.2 fun i hi=>?_
  obtain⟨h1,h2,_⟩:=(rdy d i).1 hi;rw[Array.getD_eq_getD_getElem?,Ah i h1]at h2;cases h2
 | succ n ih=>
  intro l d R K b τ V a w hl hd hin hv
  refine⟨fun hr=>done d R K b τ V a w (least d hd hr) hv,fun i hi=>?_⟩
  obtain⟨h1,h2,o,ho,h3⟩:=(rdy d i).1 hi
  have hni:¬d[i]?=some true:=fun h9=>by rw[Array.getD_eq_getD_getElem?,h9]at h2;cases h2
  obtain⟨ri,_,hstep⟩:=h.step i o ho
  have hr:∀j,bit (aCo true ops) i j=true->d[j]?=some true:=fun j hj=>by
   obtain⟨e,q1,q2,q3,q4⟩:=vE (aTj ho) hstep.edge hj
   have he:d[e.on]?=some true:=by
    have:=h3 e q1 q2
    rw[Array.getD_eq_getD_getElem?]at this
    cases hde:d[e.on]? with
    | none=>rw[hde]at this;cases this
    | some q=>rw[hde]at this;rw[show q=true from this]
   rcases q4 with q4|q4
   .
    rw[<-q4];exact he
   .
    exact hv.cl e.on j he q4
  refine Inv.turn h hE hU hCf hv hnt h1 hni hr Q (fun R' K' b' τ' V' a' w' h9=>?_)
  refine ih (l.erase i) (d.setIfInBounds i true) R' K' b' τ' V' a' w' ?_ (by simp[hd]) (fun j hj Aw=>?_) (h9.same (fun j hj=>?_) (fun j hj=>?_))
  .
   rw[List.length_erase_of_mem (hin i h1 hni)];omega
  .
   have hne2:j ≠ i:=by rintro rfl;exact Aw (by simp[hd,h1])
   refine(List.mem_erase_of_ne hne2).2 (hin j hj fun h8=>Aw ?_)
   rw[Array.getElem?_setIfInBounds_ne (Ne.symm hne2)];exact h8
  .
   by_cases e:j=i
   .
    subst e;simp[hd,hj]
   .
    rw[Array.getElem?_setIfInBounds_ne (Ne.symm e)]
    exact⟨fun h8=>h8.resolve_right e,.inl⟩
  .
   have:=(zJ0.1 hj).1
   rw[Array.size_setIfInBounds]at this
   omega
end
end Eg
theorem Q80{p:Prop}(h:p:=by kernel_rfl):p:=h
namespace Eg
theorem jZ {α:Type}{t:Nat}:∀{l:List (Nat × α)},bY t (del t l)=none
 | []=>rfl
 | (k,x) :: l=>by
  simp only[del]
  split
  .
   exact jZ
  .
   rename_i e
   simp only[bY];rw[if_neg e];exact jZ
theorem lX {t:Nat}{x:AV}:∀{l:List Oper} {m:List Ri} {sl:List (Nat × AV)},bY t (mX l m sl)=some x->bY t sl=some x/\∀(j:Nat) (o:Oper) (ri:Ri),l[j]?=some o->m[j]?=some ri->o.dst=some t->ri.un=false
 | [],m,sl,h=>⟨by cases m <;> exact h,fun j o ri q=>by simp at q⟩
 | o :: l,[],sl,h=>⟨h,fun j o ri _ q=>by simp at q⟩
 | o :: l,r :: m,sl,h=>by
  simp only[mX]at h
  cases hd:o.dst with
  | none=>
   rw[hd]at h;obtain⟨h1,h2⟩:=lX h
   refine⟨h1,fun j o' ri q1 q2 q3=>?_⟩
   cases j with
   | zero=>simp only[List.getElem?_cons_zero,zG2]at q1;subst q1;rw[hd]at q3;cases q3
   | succ j=>rw[List.getElem?_cons_succ]at q1 q2;exact h2 j o' ri q1 q2 q3
  | some d=>
   rw[hd]at h
   simp only at h
   obtain⟨h1,h2⟩:=lX h
   have h3:bY t sl=some x/\(d=t->r.un=false):=by
    split at h1
    .
     rename_i hu
     by_cases e:t=d
     .
      subst e;rw[jZ]at h1;cases h1
     .
      exact⟨by rw[kX e]at h1;exact h1,fun e'=>absurd e'.symm e⟩
    .
     rename_i hu
     exact⟨h1,fun _=>by simpa using hu⟩
   refine⟨h3.1,fun j o' ri q1 q2 q3=>?_⟩
   cases j with
   | zero=>
    simp only[List.getElem?_cons_zero,zG2]at q1 q2;subst q1 q2;rw[hd]at q3;cases q3;exact h3.2 rfl
   | succ j=>rw[List.getElem?_cons_succ]at q1 q2;exact h2 j o' ri q1 q2 q3
theorem nO {t:Nat}{x:AV}{K:List Nat}:∀{l:List (Nat × AV)},bY t (qA K l)=some x->bY t l=some x
 | [],h=>h
 | (k,y) :: l,h=>by
  simp only[qA]at h;simp only[bY]
  split at h
  .
   simp only[bY]at h
   split at h
   .
    rename_i e;rw[if_pos e];exact h
   .
    rename_i e;rw[if_neg e];exact nO h
  .
   rename_i hk
   have h1:=nO h
   by_cases e:(k == t)=true
   .
    exfalso
    have e':k=t:=by simpa using e
    subst e'
    have:∀(l:List (Nat × AV)),bY k (qA K l)=none:=fun l=>by
     induction l with
     | nil=>rfl
     | cons p l ih=>
      obtain⟨q,z⟩:=p;simp only[qA]
      split
      .
       rename_i hq
       simp only[bY];rw[if_neg,ih];intro e9
       have e9:q=k:=by simpa using e9
       subst e9;exact hk hq
      .
       exact ih
    rw[this]at h;cases h
   .
    rw[if_neg e];exact h1
theorem aA3:∀{l:List Ri},yG l=false->∀{j:Nat} {ri:Ri},l[j]?=some ri->ri.nq=false
 | [],_,j,ri,h=>by simp at h
 | r :: l,h,j,ri,hj=>by
  simp only[yG,Bool.or_eq_false_iff]at h
  cases j with
  | zero=>simp only[List.getElem?_cons_zero,zG2]at hj;subst hj;exact h.1
  | succ j=>rw[List.getElem?_cons_succ]at hj;exact aA3 h.2 hj
section
variable {C:Cx} {U:Value->Prop} {G:Cfg} {A B:AS} {ops:Array Oper} {ms:List Nat} {I:List Ri} {f:Nat->AS} {g:Nat->Out} {st:Nat->Option Bool} {dr:Bool} {e eb:Nat} {ρ0:Nat->Value} {β0:Nat->Nat} {τ τ0:Sm} {V V0:Vl} {a a0:Act} {w w0:World}
theorem eU.sySplit (h:eU G A ops ms I f g st){s:Nat}:∀{n:Nat},n<=ops.size->s<(f n).sy.length->s<A.sy.length\/∃j,j<n/\(f j).sy.length<=s/\s<(f (j+1)).sy.length
 | 0,_,hs=>by rw[h.f0]at hs;exact .inl hs
 | n+1,hn,hs=>by
  rcases zJ3 s (f n).sy.length with h1|h1
  .
   exact(h.sySplit (n:=n) Q0 h1).imp id fun ⟨j,q1,q2⟩=>⟨j,by omega,q2⟩
  .
   exact .inr ⟨n,by omega,h1,hs⟩
theorem aJp.of (h:eU G A ops ms I f g st)(hs:Hs C U G e eb ρ0 β0 A τ V a w)(hc:aMr (f ops.size) ((f ops.size).nc++(f ops.size).cf)=true):aJp A (f ops.size) g ops.size:=by
 refine⟨fun c hc9=>aAu hc c ?_,fun c hc9=>(hs.cf c hc9).2⟩
 rcases hc9 with h9|⟨j,h8,h9⟩
 .
  rw[h.cf (zB0 _)];exact List.mem_append_right _ h9
 .
  exact List.mem_append_left _ (h.ncIn h8 (zB0 _) h9)
open Classical in
theorem Inv.fin (h:eU G A ops ms I f g st)(hs:Hs C U G e eb ρ0 β0 A τ0 V0 a0 w0){R:Nat->Prop}{K:List Bk}{b:Bool}(hv:Inv C U G A ops ms I f g st a0 V0 τ0 (·<ops.size) R K b τ V a w):∃V',Hs C U G e eb ρ0 β0 (aF6 G ops I (f ops.size)) τ V' a w:=by
 have hK:K=(f ops.size).bk:=hv.at_.bk ops.size (zB0 _) (fun m _ hm _ _=>hm) (fun m _ hm _ _ h9=>by omega)
 have hb:b=(f ops.size).tg:=hv.at_.tg ops.size (zB0 _) (fun m _ hm _ _=>hm) (fun m _ hm _ _ h9=>by omega)
 subst hK hb;have kn:=hv.kn
 let V':Vl:={ V with ρ:=fun s=>if Sb A f R s then V.ρ s else .slice none 0 0 }
 have hρ:∀s,Sb A f R s->V'.ρ s=V.ρ s:=fun s h9=>if_pos h9
 have hρn:∀s,¬Sb A f R s->V'.ρ s=.slice none 0 0:=fun s h9=>if_neg h9
 have hA:A.sy.length<=(f ops.size).sy.length:=by
  have:=h.syLe (k:=0) (n:=ops.size) (zD1 _) (zB0 _)
  rw[h.f0]at this;exact this
 have hAi:A.ni<=(f ops.size).ni:=by
  have:=h.niLe (k:=0) (n:=ops.size) (zD1 _) (zB0 _)
  rw[h.f0]at this;exact this
 have hRs:∀j,R j->j<ops.size:=hv.rl
 have Slt:∀s,Sb A f R s->s<(f ops.size).sy.length:=fun s hs9=>by
  rcases hs9 with h9|⟨j,h1,h2,h3⟩
  .
   omega
  .
   exact U108
 have Xlt:∀s,Xb A f R s->s<(f ops.size).ni:=fun s hs9=>by
  rcases hs9 with h9|⟨j,h1,h2,h3⟩
  .
   omega
  .
   have:=h.niLe (k:=j+1) (n:=ops.size) (by have:=hRs j h1;omega) (zB0 _)
   omega
 have un:∀j o,ops[j]?=some o->¬R j->(∀x ∈ (g j).ns,x.lo=0/\x.un=false/\x.abv=none)/\(g j).nc=[]:=fun j o ho hnR=>by
  have hj:j<ops.size:=(zJ0.1 ho).1;obtain⟨ri,hri,hstep⟩:=h.step j o ho
  cases hst:st j with
  | none=>
   obtain⟨u0,_,hun,hg,_⟩:=hstep.yes Q72;have h1:=hun hst;simp only[aPv,zC0,Option.isNone_iff_eq_none,Bool.not_eq_true',zF3,beq_iff_eq]at h1;obtain⟨t1,_⟩:=lW (A:=f j) A.sy.length o u0 (xM (st j));rw[hg]
   refine⟨fun x hx=>?_, ?_⟩
   .
    rw[t1]at hx;obtain⟨⟨q1,q2⟩,q3⟩:=h1.2 x hx;exact⟨q1,q2,q3⟩
   .
    rw[hst];rfl
  | some q=>
   cases q with
   | true=>exact absurd (hv.sl.tt j o ho hj hst) hnR
   | false=>
    rw[(hstep.no hst).1]
    exact⟨fun x hx=>(by cases hx),rfl⟩
 have nb:∀s x,at? (f ops.size).sy s=some x->¬Sb A f R s->x.lo=0/\x.un=false/\x.abv=none:=fun s x hx hnS=>by
  rcases h.sySplit (zB0 _) (dT hx) with h1|⟨j,h1,h2,h3⟩
  .
   exact absurd (.inl h1) hnS
  .
   obtain⟨o,ho⟩:=nK h1
   have e1:(f (j+1)).sy.length=(f j).sy.length+(g j).ns.length:=by rw[h.sy1 h1];simp
   have hx':=h.syNew h1 (q:=s-(f j).sy.length) (x:=x) Q0 (by rw[Nat.add_sub_cancel' h2];exact hx)
   rw[eK]at hx'
   exact(un j o ho (fun hR=>hnS (.inr ⟨j,hR,h2,h3⟩))).1 x (zA3 hx')
 have hB:∀n,n<(f ops.size).bk.length->Bb A ops R (f ops.size).bk n:=fun n hn=>⟨hn,fun j o T ho hT _=>by
  have hg:=(tO h.al (aTj ho) hT).1
  exact(hv.sl.want j o ho (zJ0.1 ho).1).2 fun g' b' e9=>by rw[hg]at e9;cases e9⟩
 have on:∀x u,AV.ok τ V x u->nG (Sb A f R) (Bb A ops R (f ops.size).bk) (Xb A f R) x->AV.ok τ V' x u/\nG (·<(f ops.size).sy.length) (·<(f ops.size).bk.length) (·<(f ops.size).ni) x:=fun x u h1 h2=>⟨AV.on h1 (Sub.refl _) (fun s h9=>hρ s (h2.1 s h9)) (fun _ _=>rfl) (fun _ _=>rfl),h2.mono Slt (fun n h9=>h9.1) Xlt⟩
 refine⟨V',⟨⟨kn.fr,fun s x hx _=>?_,fun s x hx _ t ht=>?_,fun n x hx hn=>?_,fun n x hx hn=>?_,fun n m x y hx hy hn hm=>kn.dj n m x y hx hy (hB n hn) (hB m hm),fun n hx hn=>kn.lo n hx (hB n hn),kn.tg,kn.cu⟩,fun t=>?_,fun c hc=>?_,fun s h9=>?_,zF2 hs.es hA,fun n hn=>(hv.β0 n (Nat.lt_of_lt_of_le hn hs.bs)).trans (hs.fb n hn),zF2 hs.bs hv.kl,by rw[hv.nt];exact hs.nt,hv.df.trans hs.df,hv.tq⟩⟩
 .
  by_cases hS:Sb A f R s
  .
   rw[hρ s hS]
   exact SF.on (kn.sy s x hx hS) (Sub.refl _) fun t ht=>hρ t (kn.sc s x hx hS t ht)
  .
   obtain⟨q1,q2,q3⟩:=nb s x hx hS;rw[hρn s hS]
   exact⟨SV.nil _,by rw[q1];exact zB0 _,zD1 _,(fun _ _ g' h9=>by cases h9),(fun h9=>by rw[q2]at h9;cases h9),(fun _ a' n' c' h9=>by cases h9;rfl),fun t h9=>by rw[q3]at h9;cases h9⟩
 .
  by_cases hS:Sb A f R s
  .
   exact Slt t (kn.sc s x hx hS t ht)
  .
   rw[SF.sy,(nb s x hx hS).2.2]at ht;cases ht
 .
  obtain⟨q1,q2⟩:=kn.bk n x hx (hB n hn);obtain⟨c1,c2,c3⟩:=kn.bc n x hx (hB n hn)
  exact⟨Bk.on q1 (fun s h9=>hρ s (c1 s h9)) (fun _ _=>rfl) (fun _ _=>rfl),q2⟩
 .
  obtain⟨c1,c2,c3⟩:=kn.bc n x hx (hB n hn)
  exact⟨fun s h9=>Slt s (c1 s h9),fun m h9=>(c2 m h9).1,fun c h9=>Xlt c (c3 c h9)⟩
 .
  show((bY t (qA G.keep (mX ops.toList I (f ops.size).sl))).getD (.c .top)).ok τ V' _/\nG _ _ _ ((bY t (qA G.keep (mX ops.toList I (f ops.size).sl))).getD (.c .top))
  cases hf:bY t (qA G.keep (mX ops.toList I (f ops.size).sl)) with
  | none=>exact⟨trivial,(fun s h9=>by cases h9),(fun s h9=>by cases h9),(fun s h9=>by cases h9)⟩
  | some x=>
   obtain⟨h1,h2⟩:=lX (nO hf);rw[zI1]
   by_cases hw:∃(j:Nat) (o:Oper),ops[j]?=some o/\o.dst=some t
   .
    obtain⟨j,o,ho,hd⟩:=hw;have hj:j<ops.size:=(zJ0.1 ho).1;obtain⟨ri,hri,hstep⟩:=h.step j o ho;have e1:=h.slot1 ho hd (zB0 _) hj;rw[h1]at e1;cases e1;have hun:=h2 j o ri (aTj ho) hri hd
    cases hst:st j with
    | none=>
     have:=(h.row ho hri).2.2.2.2 hst
     rw[hun]at this;cases this
    | some q=>
     cases q with
     | true=>
      obtain⟨q1,q2⟩:=hv.sl.yes j o t ho hd (hv.sl.tt j o ho hj hst);exact on _ _ q1 q2
     | false=>
      rw[(hstep.no hst).1,hv.sl.no j o t ho hd hj (hv.sl.ff j o ho hj hst)]
      exact⟨rfl,(fun s h9=>by cases h9),(fun s h9=>by cases h9),(fun s h9=>by cases h9)⟩
   .
    have hn:∀(j:Nat) (o:Oper),ops[j]?=some o->o.dst ≠ some t:=fun j o ho hd=>hw ⟨j,o,ho,hd⟩
    rw[h.slot0 (zB0 _) (fun j o _ ho=>hn j o ho)]at h1
    obtain⟨q1,q2⟩:=hv.sl.ent t
    have e1:A.ev (.tmp t)=x:=by show(bY t A.sl).getD _=x;rw[h1];rfl
    rw[e1]at q1 q2
    rw[hv.sl.old t fun j o ho hd=>absurd hd (hn j o ho)]
    exact on _ _ q1 q2
 .
  have hc':c ∈ (if yG I then [] else (f ops.size).nc++(f ops.size).cf):=hc
  split at hc'
  .
   cases hc'
  .
   rename_i hq
   have hq:yG I=false:=by simpa using hq
   obtain⟨c1,c2⟩:=hv.cf fun j ri _ hri=>aA3 hq hri
   have go:c.ok V w->Sb A f R c.s->Sb A f R c.r->c.ok V' w:=fun h1 h2 h3 b j n q i q1 q2 q3 q4=>by
    rw[hρ _ h2]at q1;rw[hρ _ h3]
    exact h1 b j n q i q1 q2 (Ix.on q3 fun _ _=>rfl) q4
   rcases List.mem_append.1 hc' with h9|h9
   .
    obtain⟨j,h1,h2⟩:=h.ncOf (zB0 _) h9;obtain⟨o,ho⟩:=nK h1
    have hR:R j:=by
     by_cases hR:R j
     .
      exact hR
     .
      rw[(un j o ho hR).2]at h2;cases h2
    obtain⟨q1,q2,q3⟩:=hv.nc j hR c h2
    exact⟨go (c2 j hR c h2) q1 q2,Slt _ q1,Slt _ q2,fun x hx=>Xlt x (q3 x hx)⟩
   .
    rw[h.cf (zB0 _)]at h9;obtain⟨_,q1,q2,q3⟩:=hs.cf c h9
    exact⟨go (c1 c h9) (.inl q1) (.inl q2),Nat.lt_of_lt_of_le q1 hA,Nat.lt_of_lt_of_le q2 hA,fun x hx=>Nat.lt_of_lt_of_le (q3 x hx) hAi⟩
 .
  rw[hρ s (.inl (Nat.lt_of_lt_of_le h9 hs.es)),hv.ρ0 s (Nat.lt_of_lt_of_le h9 hs.es)];exact hs.fs s h9
theorem uM (hE:Env C U G e eb ρ0)(h:region G A ops dr=some B)(hs:Hs C U G e eb ρ0 β0 A τ V a w)(id:Nat){Q:Exit->Act->World->Prop}(hQ:∀τ V a w,Hs C U G e eb ρ0 β0 B τ V a w->Q .normal a w):(Code.region id ops dr).wp Tryz.prog Q a w:=by
 obtain⟨I,f,g,st,hr,hc,rfl,hI⟩:=aEa h
 cases dr with
 | false=>
  refine wp_region ?_;rw[List.range_eq_range']
  exact zH hr hE.z (hs.usE hE) (aJp.of hr hs hc) (Nat.le_of_eq hs.nt.symm) Q (fun R K b τ' V' a' w' hv=>(Inv.fin hr hs hv).elim fun V2 h9=>hQ _ V2 _ _ h9) ops.size 0 _ _ _ τ V a w Q0 ((Inv.start hr hs).same (fun j hj=>by simp) (fun j hj=>by omega))
 | true=>
  have hs':Hs C U G e eb ρ0 β0 A τ V a { w with drawn:=w.drawn+1 }:=hs.heq rfl rfl rfl rfl
  refine wp_region_any Q80 ?_
  refine aI1 hr hE.z (hs'.usE hE) (aJp.of hr hs' hc) (Nat.le_of_eq hs'.nt.symm) Q (fun R K b τ' V' a' w' hv=>(Inv.fin hr hs' hv).elim fun V2 h9=>hQ _ V2 _ _ h9) ops.size (List.range ops.size) _ _ _ _ τ V a _ Q9 Q9 (fun j hj _=>List.mem_range.2 hj) ((Inv.start hr hs').same (fun j hj=>by simp[hj]) (fun j hj=>?_))
  simp only[Array.getElem?_replicate]at hj
  split at hj
  .
   assumption
  .
   cases hj
end
end Eg
namespace Eg
section
variable {C:Cx} {U:Value->Prop} {G:Cfg} {A B J:AS} {e eb:Nat} {ρ0:Nat->Value} {β0:Nat->Nat} {τ:Sm} {V:Vl} {a:Act} {w:World} {m:Mp}
theorem Hs.ev (h:Hs C U G e eb ρ0 β0 A τ V a w)(x:Operand):(A.ev x).ok τ V (a.eval x)/\nG (·<A.sy.length) (·<A.bk.length) (·<A.ni) (A.ev x):=by
 cases x with
 | tmp t=>exact h.sl t
 | const v=>exact⟨aGr τ V v,aGs _ _ _ v⟩
 | _=>exact⟨trivial,fun s h=> Q69,fun s h=> Q69,fun s h=> Q69⟩
theorem Hs.bound (h:Hs C U G e eb ρ0 β0 A τ V a w){s:Nat}{f f':SF}(hf:at? A.sy s=some f)(hk:f'.k=f.k/\f'.own=f.own/\f'.un=f.un/\f'.c0=f.c0/\f'.abv=f.abv)(hl:f'.lo<=ln (V.ρ s))(hh:ln (V.ρ s)<=f'.hi):Hs C U G e eb ρ0 β0 { A with sy:=put A.sy s f' } τ V a w:=by
 obtain⟨k1,k2,k3,k4,k5⟩:=hk
 have Ak:(put A.sy s f').length=A.sy.length:=nI _ _ _
 have hS:(fun x=>x<({ A with sy:=put A.sy s f' }:AS).sy.length)=(fun x=>x<A.sy.length):=by funext x;show(x<(put A.sy s f').length)=_;rw[Ak]
 have k:=h.kn
 refine⟨?_, ?_, ?_,h.fs,by show e<=(put A.sy s f').length;rw[Ak];exact h.es,h.fb,h.bs,h.nt,h.df,h.tq⟩
 .
  rw[hS]
  refine⟨k.fr,fun q x hx hq=>?_,fun q x hx hq=>?_,k.bk,k.bc,k.dj,k.lo,k.tg,k.cu⟩
  .
   have hx':at? (put A.sy s f') q=some x:=hx
   rcases tL hx' with⟨rfl,rfl,_⟩|⟨_,h2⟩
   .
    obtain⟨q1,q2,q3,q4,q5,q6,q7⟩:=k.sy q f hf hq
    exact⟨by rw[k1];exact q1,hl,hh,by rw[k2];exact q4,by rw[k3];exact q5,by rw[k4];exact q6,by rw[k5];exact q7⟩
   .
    exact k.sy q x h2 hq
  .
   have hx':at? (put A.sy s f') q=some x:=hx
   rcases tL hx' with⟨rfl,rfl,_⟩|⟨_,h2⟩
   .
    have:=k.sc q f hf hq
    unfold SF.sy at this ⊢;rw[k5];exact this
   .
    exact k.sc q x h2 hq
 .
  rw[hS];exact h.sl
 .
  intro c hc
  show _/\c.s<(put A.sy s f').length/\c.r<(put A.sy s f').length/\_
  rw[Ak];exact h.cf c hc
theorem pO:∀{l:List Ct} {A:AS},(∀c ∈ l,c.s<A.sy.length/\c.ok V)->Hs C U G e eb ρ0 β0 A τ V a w->∃B,refine l A=some B/\Hs C U G e eb ρ0 β0 B τ V a w
 | [],A,_,h=>⟨A,rfl,h⟩
 | c :: l,A,hc,h=>by
  obtain⟨h1,h2⟩:=hc c Q9
  obtain⟨f,hf⟩:∃f,at? A.sy c.s=some f:=by rw[eK];exact⟨_,zA0 h1⟩
  obtain⟨_,q2,q3,_⟩:=h.kn.sy c.s f hf h1
  have tail:∀f',Hs C U G e eb ρ0 β0 { A with sy:=put A.sy c.s f' } τ V a w->∃B,refine l { A with sy:=put A.sy c.s f' }=some B/\Hs C U G e eb ρ0 β0 B τ V a w:=fun f' h9=>pO (fun d hd=>by
   obtain⟨q,q'⟩:=hc d (by simp[hd])
   exact⟨by show d.s<(put A.sy c.s f').length;rw[nI];exact q,q'⟩) h9
  unfold Ct.ok at h2;simp only[refine,hf]
  split at h2
  .
   rename_i hg
   rw[if_pos hg,if_neg Q29];exact tail _ (h.bound hf ⟨rfl,rfl,rfl,rfl,rfl⟩ (Nat.max_le.2 ⟨q2,h2⟩) q3)
  .
   rename_i hg
   rw[if_neg hg,if_neg Q29];exact tail _ (h.bound hf ⟨rfl,rfl,rfl,rfl,rfl⟩ q2 (Nat.le_min.2 ⟨q3,h2⟩))
def Vl.by (V:Vl)(m:Mp):Vl:={ V with ρ:=fun s=>match at? m s with|some (some t)=>V.ρ t|some none=>.slice none 0 0|none=>V.ρ s }
theorem Vl.by_some {V:Vl}{s t:Nat}(h:at? m s=some (some t)):(V.by m).ρ s=V.ρ t:=by show(match at? m s with|some (some t)=>V.ρ t|some none=>_|none=>_)=_;rw[h]
theorem Vl.by_none {V:Vl}{s:Nat}(h:at? m s=some none):(V.by m).ρ s=.slice none 0 0:=by show(match at? m s with|some (some t)=>V.ρ t|some none=>_|none=>_)=_;rw[h]
theorem uG {i s:Nat}(h:sEq m i s=true):at? m i=some (some s):=by
 unfold sEq at h
 split at h
 .
  rename_i t e
  rw[e,show t=s by simpa using h]
 .
  cases h
theorem aKe {S B' X:Nat->Prop}(h:Kn C U B S B' X τ V w){x y:CV}{v:Value}(hl:leC B m x y=true)(hy:y.ok V v)(hs:∀s ∈ y.sy,S s):x.ok (V.by m) v/\(∀s ∈ x.sy,s<m.length)/\x.is=[]:=by
 have lt:∀{i s:Nat},sEq m i s=true->i<m.length:=fun h9=>dT (uG h9)
 cases x with
 | top=>exact⟨trivial,fun s h9=> Q25,rfl⟩
 | und=>cases y <;> simp[leC]at hl;exact⟨hy,fun s h9=> Q25,rfl⟩
 | int lo hi=>
  simp only[leC]at hl
  split at hl
  .
   rename_i a b hr
   simp only[zC0,zE3]at hl;obtain⟨n,rfl,q1,q2⟩:=kD h hy hs hr
   exact⟨⟨n,rfl,by omega,by omega⟩,fun s h9=> Q25,rfl⟩
  .
   cases hl
 | len s k=>
  cases y <;> simp only[leC,Bool.false_eq_true,zC0,beq_iff_eq]at hl
  obtain⟨h1,rfl⟩:=hl
  refine⟨?_,fun s' h9=>by simp only[CV.sy,List.mem_singleton]at h9;subst h9;exact lt h1,rfl⟩
  simp only[CV.ok]at hy ⊢;rw[Vl.by_some (uG h1)];exact hy
 | idx s k=>
  cases y <;> simp only[leC,Bool.false_eq_true,zC0,beq_iff_eq]at hl
  obtain⟨h1,rfl⟩:=hl
  refine⟨?_,fun s' h9=>by simp only[CV.sy,List.mem_singleton]at h9;subst h9;exact lt h1,rfl⟩
  simp only[CV.ok]at hy ⊢;rw[Vl.by_some (uG h1)];exact hy
 | byte=>cases y <;> simp[leC]at hl;exact⟨hy,fun s h9=> Q25,rfl⟩
 | tv b=>
  cases y <;> simp only[leC,Bool.false_eq_true,beq_iff_eq]at hl
  subst hl
  exact⟨hy,fun s h9=> Q25,rfl⟩
 | bl t f=>
  cases t with
  | cons _ _=>simp[leC]at hl
  | nil=>
   cases f with
   | cons _ _=>simp[leC]at hl
   | nil=>
    refine⟨?_,fun s h9=> Q25,rfl⟩
    cases y <;> simp[leC,isB]at hl
    .
     rename_i b;rw[show v=.bool b from hy];exact⟨b,rfl,fun _ c hc=>(by cases hc),fun _ c hc=>(by cases hc)⟩
    .
     obtain⟨b,rfl,_⟩:=hy;exact⟨b,rfl,fun _ c hc=>(by cases hc),fun _ c hc=>(by cases hc)⟩
 | str=>cases y <;> simp[leC]at hl;exact⟨hy,fun s h9=> Q25,rfl⟩
 | sl s=>
  cases y <;> simp only[leC,Bool.false_eq_true]at hl
  .
   exact⟨by show v=_;rw[Vl.by_some (uG hl)];exact hy,fun s' h9=>by simp only[CV.sy,List.mem_singleton]at h9;subst h9;exact lt hl,rfl⟩
  .
   split at hl
   .
    rename_i h1
    exact⟨by show v=_;rw[Vl.by_none h1];exact hy,fun s' h9=>by simp only[CV.sy,List.mem_singleton]at h9;subst h9;exact dT h1,rfl⟩
   .
    cases hl
 | nil=>cases y <;> simp[leC]at hl;exact⟨hy,fun s h9=> Q25,rfl⟩
 | ptr b p=>
  cases y <;> simp only[leC,Bool.false_eq_true,zC0,beq_iff_eq]at hl
  obtain⟨rfl,rfl⟩:=hl
  exact⟨hy,fun s h9=> Q25,rfl⟩
 | elp s k ix p=>
  cases ix with
  | u=>
   cases y <;> simp only[leC,Bool.false_eq_true,zC0,beq_iff_eq]at hl
   obtain⟨⟨h1,h2⟩,rfl⟩:=hl
   have:=Rs.eq_eq h2
   subst this;obtain⟨b,j,n,c,i,q1,q2,q3,_⟩:=hy
   exact⟨⟨b,j,n,c,i,by rw[Vl.by_some (uG h1)];exact q1,q2,q3,trivial⟩,fun s' h9=>by simp only[CV.sy,List.mem_singleton]at h9;subst h9;exact lt h1,rfl⟩
  | _=>simp[leC]at hl
theorem zW {S B' X:Nat->Prop}(h:Kn C U B S B' X τ V w):∀{l r:List CV} {vs:List Value},leL B m l r=true->iD V r vs->(∀s ∈ r.flatMap CV.sy,S s)->iD (V.by m) l vs/\(∀s ∈ l.flatMap CV.sy,s<m.length)/\l.flatMap CV.is=[]
 | [],[],vs,_,hv,_=>⟨hv,fun s h9=> Q25,rfl⟩
 | [],_ :: _,_,hl,_,_=>by cases hl
 | _ :: _,[],_,hl,_,_=>by cases hl
 | x :: l,y :: r,vs,hl,⟨v,us,e,h1,h2⟩,hs=>by
  simp only[leL,zC0]at hl
  obtain⟨q1,q2,q3⟩:=aKe h hl.1 h1 fun s h9=>hs s (by rw[List.flatMap_cons];exact List.mem_append_left _ h9)
  obtain⟨p1,p2,p3⟩:=zW h hl.2 h2 fun s h9=>hs s (by rw[List.flatMap_cons];exact List.mem_append_right _ h9)
  refine⟨⟨v,us,e,q1,p1⟩,fun s h9=>?_,by rw[List.flatMap_cons,q3,p3];rfl⟩
  rw[List.flatMap_cons]at h9
  rcases List.mem_append.1 h9 with h9|h9
  .
   exact q2 s h9
  .
   exact p2 s h9
theorem aOp {S B' X:Nat->Prop}(h:Kn C U B S B' X τ V w){x y:AV}{v:Value}(hl:leA B m x y=true)(hy:y.ok τ V v)(hs:∀s ∈ y.sy,S s):x.ok τ (V.by m) v/\(∀s ∈ x.sy,s<m.length)/\x.is=[]:=by
 have top:AV.ok τ (V.by m) (.c .top) v/\(∀s ∈ AV.sy (.c .top),s<m.length)/\AV.is (.c .top)=[]:=⟨trivial,fun s h9=> Q25,rfl⟩
 cases x with
 | c x=>
  by_cases hx:x=.top
  .
   subst hx;exact top
  .
   cases y with
   | c y=>
    have hl':leC B m x y=true:=by cases x <;> first|exact hl|exact absurd rfl hx
    exact aKe h hl' hy hs
   | _=>cases x <;> first|exact absurd rfl hx|cases hl
 | rc t=>
  cases y <;> simp only[leA,Bool.false_eq_true,beq_iff_eq]at hl
  subst hl
  exact⟨hy,fun s h9=> Q25,rfl⟩
 | agg l=>
  cases y <;> simp only[leA,Bool.false_eq_true]at hl
  obtain⟨vs,e,h1⟩:=hy;obtain⟨q1,q2,q3⟩:=zW h hl h1 hs;exact⟨⟨vs,e,q1⟩,q2,q3⟩
 | tup _ _=>cases y <;> simp[leA]at hl
theorem aE8:∀{l:List (Nat × AV)},aPz B m l=true->∀{t:Nat} {x:AV},bY t l=some x->∃y,bY t B.sl=some y/\leA B m x y=true
 | [],_,_,_,h=>by cases h
 | (n,z) :: l,hl,t,x,h=>by
  simp only[aPz,zC0]at hl;simp only[bY]at h
  split at h
  .
   rename_i hn
   cases h
   have hn:n=t:=by simpa using hn
   subst hn;have h1:=hl.1
   split at h1
   .
    rename_i y hy;exact⟨y,hy,h1⟩
   .
    cases h1
  .
   exact aE8 hl.2 h
theorem oH:∀{l r:List Bk},leB B m l r=true->∀{n:Nat} {x:Bk},at? l n=some x->∃y,at? r n=some y/\((x=.cur/\y=.cur)\/∃T p q,x=.cells T p/\y=.cells T q/\leL B m p q=true)
 | [],_,_,_,_,h=>by simp[at?]at h
 | .cur :: l,[],hl,_,_,_=>by cases hl
 | .cells _ _ :: l,[],hl,_,_,_=>by cases hl
 | .cur :: l,.cells _ _ :: r,hl,_,_,_=>by cases hl
 | .cells _ _ :: l,.cur :: r,hl,_,_,_=>by cases hl
 | .cur :: l,.cur :: r,hl,n,x,h=>by
  cases n with
  | zero=>simp only[at?,zG2]at h;subst h;exact⟨.cur,rfl,.inl ⟨rfl,rfl⟩⟩
  | succ n=>exact oH (l:=l) (r:=r) hl h
 | .cells T p :: l,.cells T' q :: r,hl,n,x,h=>by
  simp only[leB,zC0,beq_iff_eq]at hl;obtain⟨⟨rfl,h1⟩,h2⟩:=hl
  cases n with
  | zero=>simp only[at?,zG2]at h;subst h;exact⟨_,rfl,.inr ⟨T,p,q,rfl,rfl,h1⟩⟩
  | succ n=>exact oH (l:=l) (r:=r) h2 h
theorem xJ:∀{m:Mp} {l:List SF},aM6 B m l=true->m.length=l.length/\∀{s:Nat} {f:SF},at? l s=some f->(∃t g,at? m s=some (some t)/\at? B.sy t=some g/\leF f g=true)\/(at? m s=some none/\f.lo=0/\f.un=false/\f.abv=none)
 | [],[],_=>⟨rfl,fun h=>by simp[at?]at h⟩
 | [],_ :: _,h=>by cases h
 | none :: _,[],h=>by cases h
 | some _ :: _,[],h=>by cases h
 | some t :: m,f :: l,h=>by
  simp only[aM6,zC0]at h;obtain⟨h1,h2⟩:=xJ h.2
  refine⟨by simp[h1],fun {s f'} hs=>?_⟩
  cases s with
  | zero=>
   simp only[at?,zG2]at hs;subst hs;have h3:=h.1
   split at h3
   .
    rename_i g hg;exact .inl ⟨t,g,rfl,hg,h3⟩
   .
    cases h3
  | succ s=>exact h2 hs
 | none :: m,f :: l,h=>by
  simp only[aM6,zC0,beq_iff_eq,Bool.not_eq_true',Option.isNone_iff_eq_none]at h;obtain⟨h1,h2⟩:=xJ h.2
  refine⟨by simp[h1],fun {s f'} hs=>?_⟩
  cases s with
  | zero=>
   simp only[at?,zG2]at hs;subst hs;exact .inr ⟨rfl,h.1.1.1,h.1.1.2,h.1.2⟩
  | succ s=>exact h2 hs
theorem aFi:∀{e i:Nat} {m:Mp},aP0 e i m=true->∀q,q<e->at? m q=some (some (i+q))
 | 0,_,_,_,q,h=>by omega
 | e+1,i,[],h,q,_=>by cases h
 | e+1,i,none :: m,h,q,_=>by cases h
 | e+1,i,some s :: m,h,q,hq=>by
  simp only[aP0,zC0,beq_iff_eq]at h;obtain⟨rfl,h2⟩:=h
  cases q with
  | zero=>rfl
  | succ q=>
   have:=aFi h2 q Q0
   simp only[at?];rw[this]
   congr 2
   omega
theorem aQ7 (hl:le eb e J A m=true)(h:Hs C U G e eb ρ0 β0 A τ V a w):Hs C U G e eb ρ0 β0 J τ (V.by m) a w:=by
 simp only[le,zC0,Bool.or_eq_true,Bool.not_eq_true',aJ1,zF3,Nat.blt_eq,Nat.ble_eq]at hl;obtain⟨⟨⟨⟨⟨⟨⟨h1,h2⟩,h3⟩,h4⟩,h5⟩,h6⟩,h7⟩,h8,h9⟩:=hl;obtain⟨hm,h3'⟩:=xJ h3;have kn:=h.kn;have hid:=aFi h4
 have sl:∀t x,bY t J.sl=some x->x.ok τ (V.by m) (a.eval (.tmp t))/\nG (·<J.sy.length) (·<J.bk.length) (·<J.ni) x:=fun t x hx=>by
  obtain⟨y,q1,q2⟩:=aE8 h1 hx
  have ey:A.ev (.tmp t)=y:=by show(bY t A.sl).getD _=y;rw[q1];rfl
  obtain⟨q3,q4⟩:=h.sl t;rw[ey]at q3 q4;obtain⟨p1,p2,p3⟩:=aOp kn q2 q3 q4.1
  exact⟨p1,fun s h9=>by rw[<-hm];exact p2 s h9,fun n hn=>h8 _ (qD hx) n hn,fun c hc=>by rw[p3]at hc;cases hc⟩
 refine⟨⟨kn.fr,fun s f hf hs=>?_,fun s f hf hs t ht=>?_,fun n x hx hn=>?_,fun n x hx hn=>?_,fun n k x y hx hy hn hk=>?_,fun n hx hn=>?_,fun ht=>kn.tg ?_,fun n hx=>?_⟩,fun t=>?_,fun c hc=>?_,fun s hs=>?_, ?_,h.fb, ?_,h.nt,h.df,h.tq⟩
 .
  rcases h3' hf with⟨t,g,q1,q2,q3⟩|⟨q1,q2,q3,q4⟩
  .
   rw[Vl.by_some q1];simp only[leF,zC0,zE3,Bool.or_eq_true,Bool.not_eq_true',Option.isNone_iff_eq_none]at q3;obtain⟨⟨⟨⟨⟨⟨z1,z2⟩,z3⟩,z4⟩,z5⟩,z6⟩,z7⟩:=q3;obtain⟨p1,p2,p3,p4,p5,p6,_⟩:=kn.sy t g q2 (dT q2);rw[<-Rs.eq_eq z1]at p1
   exact⟨p1,by omega,by omega,fun ho=>p4 (z4.resolve_left (by rw[ho];simp)),fun ho=>p5 (z5.resolve_left (by rw[ho];simp)),fun ho=>p6 (z6.resolve_left (by rw[ho];simp)),fun t h9=>by rw[z7]at h9;cases h9⟩
  .
   rw[Vl.by_none q1]
   exact⟨SV.nil _,by rw[q2];exact zB0 _,zD1 _,(fun _ _ g' h9=>by cases h9),(fun h9=>by rw[q3]at h9;cases h9),(fun _ a' n' c' h9=>by cases h9;rfl),fun t h9=>by rw[q4]at h9;cases h9⟩
 .
  have:f.abv=none:=by
   rcases h3' hf with⟨t,g,q1,q2,q3⟩|⟨q1,q2,q3,q4⟩
   .
    simp only[leF,zC0,Option.isNone_iff_eq_none]at q3;exact q3.2
   .
    exact q4
  rw[SF.sy,this]at ht;cases ht
 .
  obtain⟨y,q1,q2⟩:=oH h2 hx;obtain⟨p1,p2⟩:=kn.bk n y q1 (dT q1);refine⟨?_,p2⟩
  rcases q2 with⟨rfl,rfl⟩|⟨T,p,q,rfl,rfl,q3⟩
  .
   exact p1
  .
   obtain⟨vs,z1,z2⟩:=p1;exact⟨vs,z1,(zW kn q3 z2 (kn.bc n _ q1 (dT q1)).1).1⟩
 .
  obtain⟨y,q1,q2⟩:=oH h2 hx
  refine⟨?_,fun b hb=>h9 x (by rw[eK]at hx;exact zA3 hx) b hb, ?_⟩
  all_goals
   rcases q2 with⟨rfl,rfl⟩|⟨T,p,q,rfl,rfl,q3⟩
   .
    intro s hs;cases hs
   .
    obtain⟨_,vs,z1,z2⟩:True/\∃vs,Blk w (V.β n) T vs/\iD V q vs:=⟨trivial,(kn.bk n _ q1 (dT q1)).1⟩
    obtain⟨_,p2,p3⟩:=zW kn q3 z2 (kn.bc n _ q1 (dT q1)).1
    first
     | exact fun s hs=>by rw[<-hm];exact p2 s hs
     | exact fun c hc=>by have hc':c ∈ p.flatMap CV.is:=hc;rw[p3]at hc';cases hc'
 .
  obtain⟨y1,q1,_⟩:=oH h2 hx;obtain⟨y2,q2,_⟩:=oH h2 hy;exact kn.dj n k y1 y2 q1 q2 (dT q1) (dT q2)
 .
  obtain⟨y,q1,q2⟩:=oH h2 hx
  rcases q2 with⟨_,rfl⟩|⟨T,p,q,h9,_⟩
  .
   exact kn.lo n q1 (dT q1)
  .
   cases h9
 .
  rcases h5 with h5|h5
  .
   rw[ht]at h5;cases h5
  .
   exact h5
 .
  obtain⟨y,q1,q2⟩:=oH h2 hx
  rcases q2 with⟨_,rfl⟩|⟨T,p,q,h9,_⟩
  .
   exact kn.cu n q1
  .
   cases h9
 .
  show((bY t J.sl).getD (.c .top)).ok τ _ _/\nG _ _ _ ((bY t J.sl).getD (.c .top))
  cases hx:bY t J.sl with
  | none=>exact⟨trivial,(fun s h9=>by cases h9),(fun s h9=>by cases h9),(fun s h9=>by cases h9)⟩
  | some x=>exact sl t x hx
 .
  split at h6
  .
   rename_i e9;rw[e9]at hc;cases hc
  .
   cases h6
 .
  have:=hid s hs
  rw[zJ2]at this;rw[Vl.by_some this];exact h.fs s hs
 .
  rw[<-hm]
  cases e with
  | zero=>exact zD1 _
  | succ e=>exact dT (hid e (Nat.lt_succ_self e))
 .
  have:=h.bs
  omega
theorem aLz (hl:le eb e J A m=true)(h:Hs C U G e eb ρ0 β0 A τ V a w):∃V',Hs C U G e eb ρ0 β0 J τ V' a w:=⟨_,aQ7 hl h⟩
theorem aGn:∀{l:List AS},all eb e J l=true->∀A ∈ l,le eb e J A (aIe e J A)=true
 | [],_,A,h=>by cases h
 | B :: l,hl,A,h=>by
  simp only[all,zC0]at hl
  rcases zG3.1 h with rfl|h
  .
   exact hl.1
  .
   exact aGn hl.2 A h
theorem zR {l:List AS}(hm:aIa eb e l=some J)(hA:A ∈ l)(h:Hs C U G e eb ρ0 β0 A τ V a w):∃V',Hs C U G e eb ρ0 β0 J τ V' a w:=by
 simp only[aIa,Option.bind_eq_some_iff]at hm;obtain⟨K,_,h2⟩:=hm
 split at h2
 .
  rename_i h3
  cases h2;exact aLz (aGn h3 A hA) h
 .
  cases h2
end
end Eg
theorem U29{p:Prop}(h:p:=by
 cases z <;> first|exact hm.elim|skip
 exact hQ _ _ _ ⟨_,List.mem_append_left _ (gI Q9 hp),hm,τ2,V2,hs2⟩):p:=h
namespace Eg
def ExM:Ex->Exit->Prop
 | .normal,.normal=>True
 | .exit i,.exit j=>i=j
 | .ret,.ret=>True
 | _,_=>False
section
variable {C:Cx} {U:Value->Prop} {G:Cfg} {A B J:AS} {e eb:Nat} {ρ0:Nat->Value} {β0:Nat->Nat} {τ:Sm} {V:Vl} {a:Act} {w:World}
def Pl (C:Cx)(U:Value->Prop)(G:Cfg)(e eb:Nat)(ρ0:Nat->Value)(β0:Nat->Nat)(l:List (Ex × AS))(x:Exit)(a:Act)(w:World):Prop:=∃p ∈ l,ExM p.1 x/\∃τ V,Hs C U G e eb ρ0 β0 p.2 τ V a w
theorem Pl.mono {l r:List (Ex × AS)}(h:∀p ∈ l,p ∈ r){x:Exit}(hp:Pl C U G e eb ρ0 β0 l x a w):Pl C U G e eb ρ0 β0 r x a w:=by
 obtain⟨p,h1,h2⟩:=hp;exact⟨p,h p h1,h2⟩
theorem iR:∀{l:List (Ex × AS)},(.normal,A) ∈ l->A ∈ pV l
 | [],h=>by cases h
 | (.normal,B) :: l,h=>by
  rcases zG3.1 h with h|h
  .
   cases h;exact List.mem_cons_self ..
  .
   exact List.mem_cons_of_mem _ (iR h)
 | (.exit _,B) :: l,h=>by
  rcases zG3.1 h with h|h
  .
   cases h
  .
   exact iR (l:=l) h
 | (.ret,B) :: l,h=>by
  rcases zG3.1 h with h|h
  .
   cases h
  .
   exact iR (l:=l) h
theorem gI {p:Ex × AS}(hp:p.1 ≠ .normal):∀{l:List (Ex × AS)},p ∈ l->p ∈ uV l
 | [],h=>by cases h
 | (.normal,B) :: l,h=>by
  rcases zG3.1 h with h|h
  .
   subst h;exact absurd rfl hp
  .
   exact gI hp (l:=l) h
 | (.exit _,B) :: l,h=>by
  rcases zG3.1 h with h|h
  .
   exact zG3.2 (.inl h)
  .
   exact List.mem_cons_of_mem _ (gI hp h)
 | (.ret,B) :: l,h=>by
  rcases zG3.1 h with h|h
  .
   exact zG3.2 (.inl h)
  .
   exact List.mem_cons_of_mem _ (gI hp h)
theorem kZ {id:Nat}{p:Ex × AS}(hp:p.1=.normal\/p.1=.exit id):∀{l:List (Ex × AS)},p ∈ l->p.2 ∈ xZ id l
 | [],h=>by cases h
 | (.normal,B) :: l,h=>by
  rcases zG3.1 h with h|h
  .
   subst h;exact List.mem_cons_self ..
  .
   exact List.mem_cons_of_mem _ (kZ hp h)
 | (.exit i,B) :: l,h=>by
  simp only[xZ]
  rcases zG3.1 h with h|h
  .
   subst h
   have:i=id:=by rcases hp with hp|hp <;> cases hp;rfl
   subst this;rw[if_pos Q9];exact List.mem_cons_self ..
  .
   split
   .
    exact List.mem_cons_of_mem _ (kZ hp h)
   .
    exact kZ hp h
 | (.ret,B) :: l,h=>by
  rcases zG3.1 h with h|h
  .
   subst h;rcases hp with hp|hp <;> cases hp
  .
   exact kZ hp (l:=l) h
theorem kJ {id:Nat}{p:Ex × AS}(hp:p.1 ≠ .normal/\p.1 ≠ .exit id):∀{l:List (Ex × AS)},p ∈ l->p ∈ stays id l
 | [],h=>by cases h
 | (.normal,B) :: l,h=>by
  rcases zG3.1 h with h|h
  .
   subst h;exact absurd rfl hp.1
  .
   exact kJ hp (l:=l) h
 | (.exit i,B) :: l,h=>by
  simp only[stays]
  rcases zG3.1 h with h|h
  .
   subst h
   rw[if_neg (by simp only[beq_iff_eq];rintro rfl;exact hp.2 rfl)]
   exact List.mem_cons_self ..
  .
   split
   .
    exact kJ hp h
   .
    exact List.mem_cons_of_mem _ (kJ hp h)
 | (.ret,B) :: l,h=>by
  rcases zG3.1 h with h|h
  .
   exact zG3.2 (.inl h)
  .
   exact List.mem_cons_of_mem _ (kJ hp h)
theorem uA {f:AS->Option (List (Ex × AS))}:∀{l:List AS} {r:List (Ex × AS)},aHh f l=some r->A ∈ l->∃x,f A=some x/\∀p ∈ x,p ∈ r
 | [],_,_,h=>by cases h
 | B :: l,r,hr,h=>by
  simp only[aHh,Option.bind_eq_some_iff,zF0]at hr;obtain⟨x,h1,y,h2,rfl⟩:=hr
  rcases zG3.1 h with rfl|h
  .
   exact⟨x,h1,fun p hp=>List.mem_append_left _ hp⟩
  .
   obtain⟨z,q1,q2⟩:=uA h2 h
   exact⟨z,q1,fun p hp=>List.mem_append_right _ (q2 p hp)⟩
theorem uL {f:AS->Option (List (Ex × AS))}{c:Code}{Q:Exit->Act->World->Prop}(hf:∀(B:AS) (x:List (Ex × AS)) (τ:Sm) (V:Vl) (a:Act) (w:World) (Q:Exit->Act->World->Prop),f B=some x->Hs C U G e eb ρ0 β0 B τ V a w->(∀y a w,Pl C U G e eb ρ0 β0 x y a w->Q y a w)->c.wp Tryz.prog Q a w):
  ∀(k:Nat) (L:List AS) (r:List (Ex × AS)) (B:AS) (τ:Sm) (V:Vl) (a:Act) (w:World),rounds eb e f k L=some r->B ∈ L->Hs C U G e eb ρ0 β0 B τ V a w->(∀y a w,Pl C U G e eb ρ0 β0 r y a w->Q y a w)->Code.rounds Tryz.prog c Q k a w
 | _,[],_,_,_,_,_,_,_,hB,_,_=>by cases hB
 | 0,_ :: _,_,_,_,_,_,_,hr,_,_,_=>by cases hr
 | k+1,A :: l,r,B,τ,V,a,w,hr,hB,hs,hQ=>by
  simp only[rounds,Option.bind_eq_some_iff,zF0]at hr;obtain⟨H,h1,x,h2,y,h3,rfl⟩:=hr;obtain⟨V',hs'⟩:=zR h1 hB hs;rw[zE2];refine hf H x τ V' a w _ h2 hs' ?_;rintro z a' w' ⟨p,hp,hm,τ2,V2,hs2⟩;obtain⟨px,pa⟩:=p
  cases px with
  | normal=>
   cases z <;> first|exact hm.elim|skip
   exact uL hf k _ y pa τ2 V2 a' w' h3 (iR hp) hs2 fun y9 a9 w9 h9=>hQ y9 a9 w9 (h9.mono fun q hq=>List.mem_append_right _ hq)
  | exit i=>
   exact U29
  | ret=>
   exact U29
theorem aFv (hE:Env C U G e eb ρ0):∀(n:Nat) (c:Code) (A:AS) (l:List (Ex × AS)) (τ:Sm) (V:Vl) (a:Act) (w:World) (Q:Exit->Act->World->Prop),qO G eb e n c A=some l->Hs C U G e eb ρ0 β0 A τ V a w->(∀y a w,Pl C U G e eb ρ0 β0 l y a w->Q y a w)->c.wp Tryz.prog Q a w:=by
 intro n
 induction n with
 | zero=>intro c A l τ V a w Q h;simp[qO]at h
 | succ n ih=>
  intro c A l τ V a w Q h hs hQ
  cases c with
  | skip=>simp only[qO,zG2]at h;subst h;exact wp_skip (hQ _ _ _ ⟨_,List.mem_singleton.2 rfl,trivial,τ,V,hs⟩)
  | label _=>simp only[qO,zG2]at h;subst h;exact wp_label (hQ _ _ _ ⟨_,List.mem_singleton.2 rfl,trivial,τ,V,hs⟩)
  | exit id=>simp only[qO,zG2]at h;subst h;exact wp_exit (hQ _ _ _ ⟨_,List.mem_singleton.2 rfl,rfl,τ,V,hs⟩)
  | ret=>simp only[qO,zG2]at h;subst h;exact wp_ret (hQ _ _ _ ⟨_,List.mem_singleton.2 rfl,trivial,τ,V,hs⟩)
  | region id ops dr=>
   simp only[qO,zF0]at h;obtain⟨B,h1,rfl⟩:=h
   exact uM hE h1 hs id fun τ V a w h9=>hQ _ _ _ ⟨_,List.mem_singleton.2 rfl,trivial,τ,V,h9⟩
  | seq x y=>
   simp only[qO,Option.bind_eq_some_iff,zF0]at h;obtain⟨l1,h1,r,h2,rfl⟩:=h;refine wp_seq (ih x A l1 τ V a w _ h1 hs ?_);rintro z a' w' ⟨p,hp,hm,τ2,V2,hs2⟩;obtain⟨px,pa⟩:=p
   cases px with
   | normal=>
    cases z <;> first|exact hm.elim|skip
    obtain⟨l2,q1,q2⟩:=uA h2 (iR hp)
    exact ih y pa l2 τ2 V2 a' w' Q q1 hs2 fun y9 a9 w9 h9=>hQ _ _ _ (h9.mono fun q hq=>List.mem_append_right _ (q2 q hq))
   | exit i=>
    exact U29
   | ret=>
    exact U29
  | cond c x y=>
   obtain⟨q1,q2⟩:=hs.ev c;simp only[qO]at h
   split at h
   .
    rename_i hc
    rw[hc]at q1;exact wp_cond_true q1 (ih x A l τ V a w Q h hs hQ)
   .
    rename_i hc
    rw[hc]at q1;exact wp_cond_false q1 (ih y A l τ V a w Q h hs hQ)
   .
    rename_i t f hc
    rw[hc]at q1 q2;obtain⟨b,hb,ht,hf⟩:=q1;simp only[Option.bind_eq_some_iff,zF0]at h;obtain⟨l1,h1,l2,h2,rfl⟩:=h
    have hsy:∀c ∈ t++f,c.s<A.sy.length:=fun c hc=>q2.1 c.s (by
     simp only[AV.sy,CV.sy];rw[<-List.map_append]
     exact List.mem_map_of_mem hc)
    cases b with
    | true=>
     obtain⟨B,r1,r2⟩:=pO (l:=t) (fun c hc=>⟨hsy c (List.mem_append_left _ hc),ht rfl c hc⟩) hs
     rw[r1]at h1;simp only[aMf]at h1
     exact wp_cond_true hb (ih x B l1 τ V a w Q h1 r2 fun y9 a9 w9 h9=>hQ _ _ _ (h9.mono fun q hq=>List.mem_append_left _ hq))
    | false=>
     obtain⟨B,r1,r2⟩:=pO (l:=f) (fun c hc=>⟨hsy c (List.mem_append_right _ hc),hf rfl c hc⟩) hs
     rw[r1]at h2;simp only[aMf]at h2
     exact wp_cond_false hb (ih y B l2 τ V a w Q h2 r2 fun y9 a9 w9 h9=>hQ _ _ _ (h9.mono fun q hq=>List.mem_append_right _ hq))
   .
    cases h
  | block id b=>
   simp only[qO,Option.bind_eq_some_iff]at h;obtain⟨l1,h1,h2⟩:=h;refine wp_block (ih b A l1 τ V a w _ h1 hs ?_)
   have out:∀(p:Ex × AS),p ∈ l1->p.1 ≠ .normal/\p.1 ≠ .exit id->p ∈ l:=fun p hp Aw=>by
    have h9:=kJ Aw hp
    split at h2
    .
     cases h2;exact h9
    .
     simp only[zF0]at h2;obtain⟨J,_,rfl⟩:=h2;exact List.mem_cons_of_mem _ h9
   have nrm:∀(p:Ex × AS) τ V a w,p ∈ l1->p.1=.normal\/p.1=.exit id->Hs C U G e eb ρ0 β0 p.2 τ V a w->Q .normal a w:=fun p τ V a w hp Aw hs9=>by
    have h9:=kZ Aw hp
    split at h2
    .
     rename_i e9;rw[e9]at h9;cases h9
    .
     rename_i B r e9
     simp only[zF0]at h2;obtain⟨J,h3,rfl⟩:=h2;rw[e9]at h9;obtain⟨V',h4⟩:=zR h3 h9 hs9;exact hQ _ _ _ ⟨(.normal,J),List.mem_cons_self ..,trivial,τ,V',h4⟩
   rintro z a' w' ⟨p,hp,hm,τ2,V2,hs2⟩;obtain⟨px,pa⟩:=p
   cases px with
   | normal=>
    cases z <;> first|exact hm.elim|skip
    exact nrm _ _ _ _ _ hp (.inl rfl) hs2
   | exit i=>
    cases z <;> first|exact hm.elim|skip
    rename_i j
    have hm:i=j:=hm;subst hm
    show if i=id then Q .normal a' w' else Q (.exit i) a' w'
    split
    .
     rename_i e9;subst e9;exact nrm _ _ _ _ _ hp (.inr rfl) hs2
    .
     rename_i e9;exact hQ _ _ _ ⟨_,out _ hp ⟨by simp,by simp[e9]⟩,rfl,τ2,V2,hs2⟩
   | ret=>
    cases z <;> first|exact hm.elim|skip
    exact hQ _ _ _ ⟨_,out _ hp ⟨by simp,by simp⟩,trivial,τ2,V2,hs2⟩
  | loop b=>
   simp only[qO]at h
   exact zH1 30 (uL (fun B x τ V a w Q h1 h2 h3=>ih b B x τ V a w Q h1 h2 h3) 30 [A] l A τ V a w h (List.mem_singleton.2 rfl) hs hQ)
  | _=>simp[qO]at h
def aJo (tmps:Array Value)(w:World):ResultVar->Value->Prop
 | .tmp t,v=>tmps.getD t undef=v
 | .cell t T,v=>∃a,tmps.getD t undef=.pointer (some a)/\(loadVar T a).run Tryz.prog w=.ok v w
theorem aHu {fn:Func}{tmps:Array Value}{w:World}{r:ResultVar}{v:Value}(h:fn.results=#[r])(hr:aJo tmps w r v):(results fn tmps).run Tryz.prog w=.ok v w:=by
 cases r with
 | tmp t=>have hr:tmps.getD t undef=v:=hr;subst hr;exact results_tmp h _ _ _
 | cell t T=>obtain⟨a,h1,h2⟩:=hr;simp only[Array.getD_eq_getD_getElem?]at h1;simp[results,h,h1,asAddr,h2]
theorem aHt {fn:Func}{tmps:Array Value}{w:World}{r r':ResultVar}{v v':Value}(h:fn.results=#[r,r'])(hr:aJo tmps w r v)(hr':aJo tmps w r' v'):(results fn tmps).run Tryz.prog w=.ok (.tuple #[v,v']) w:=by
 cases r with
 | tmp t=>
  have hr:tmps.getD t undef=v:=hr
  subst hr
  cases r' with
  | tmp t'=>have hr':tmps.getD t' undef=v':=hr';subst hr';exact results_tmp2 h _ _ _
  | cell t' T=>obtain⟨a,h1,h2⟩:=hr';simp only[Array.getD_eq_getD_getElem?]at h1;simp[results,h,h1,asAddr,h2]
 | cell t T=>
  obtain⟨a,h1,h2⟩:=hr;simp only[Array.getD_eq_getD_getElem?]at h1
  cases r' with
  | tmp t'=>have hr':tmps.getD t' undef=v':=hr';subst hr';simp[results,h,h1,asAddr,h2]
  | cell t' T'=>obtain⟨a',h3,h4⟩:=hr';simp only[Array.getD_eq_getD_getElem?]at h3;simp[results,h,h1,h3,asAddr,h2,h4]
theorem wS (hs:Hs C U G e eb ρ0 β0 A τ V a w){r:ResultVar}{x:AV}(h:aQk A r=some x):∃v,aJo a.tmps w r v/\x.ok τ V v/\nG (·<A.sy.length) (·<A.bk.length) (·<A.ni) x:=by
 cases r with
 | tmp t=>
  have h:bY t A.sl=some x:=h
  obtain⟨q1,q2⟩:=hs.sl t
  have ev:A.ev (.tmp t)=x:=by show(bY t A.sl).getD _=x;rw[h];rfl
  rw[ev]at q1 q2;exact⟨_,rfl,q1,q2⟩
 | cell t T=>
  simp only[aQk]at h
  split at h
  .
   rename_i b n h1 h2
   split at h
   .
    rename_i T' l h3
    split at h
    .
     cases h
    .
     rename_i hn
     split at h
     .
      rename_i hl
      cases h
      have hn:n ≠ 1:=by simpa using hn
      have hl:l.length=n:=by simpa using hl
      obtain⟨q1,q2⟩:=hs.sl t
      have ev:A.ev (.tmp t)=.c (.ptr b 0):=by show(bY t A.sl).getD _=_;rw[h1];rfl
      rw[ev]at q1;have hb:=dT h3;obtain⟨⟨vs,hbl,hal⟩,_⟩:=hs.kn.bk b _ h3 hb;obtain⟨c1,c2,c3⟩:=hs.kn.bc b _ h3 hb;have Ak:=hal.length;refine⟨.agg vs.toArray,⟨_,q1, ?_⟩,⟨vs,rfl,hal⟩,c1,c2,c3⟩;obtain⟨z,ds,z1,z2⟩:=nT h2 hn
      obtain⟨fs,by',cs,hu,_,_,hi,_⟩:=aJu wM z1
      have Am:=lC hi w
      have hl2:=run_loadCells_list (P:=Tryz.prog) w ⟨V.β b,0,none⟩ vs (fun j v hv=>by rw[Addr.add_lit,zJ2];exact hbl.cell hv)
      rw[Ak,hl,<-z2]at hl2;unfold loadCells at hl2
      simp[loadVar,isAgg,run_underlying hu,Am,hl2,loadCells,go_sem]
     .
      cases h
   .
    cases h
  .
   cases h
theorem aE1 {x:AV}(h:(match x with|.c _=>false|_=>true)=true):∀y,x ≠ .c y:=by
 rintro y rfl;cases h
theorem aEb (hs:Hs C U G e eb ρ0 β0 A τ V a w){t:Nat}{x:AV}{v:Value}(hx:x.ok τ V v)(hsp:nG (·<A.sy.length) (·<A.bk.length) (·<A.ni) x)(hf:A.fitE (.rc t) x=true)(hc:∀y,x ≠ .c y):∃vs,v=.agg vs.toArray/\RV τ (Dt t).2 vs:=by
 cases x with
 | c y=>exact absurd rfl (hc y)
 | rc t'=>
  simp only[AS.fitE,zC0,beq_iff_eq]at hf;obtain⟨rfl,_⟩:=hf;exact hx
 | agg l=>
  simp only[AS.fitE,zC0]at hf;obtain⟨vs,e,h1⟩:=hx;exact⟨vs,e,tB hs.kn h1 hsp.1 hf.2⟩
 | tup _ _=>simp[AS.fitE]at hf
theorem sX {x:CV}{v:Value}(hx:x.ok V v)(h:isB x=true):∃b,v=.bool b:=by
 cases x <;> simp[isB]at h
 .
  exact⟨_,hx⟩
 .
  obtain⟨b,e,_⟩:=hx;exact⟨b,e⟩
theorem aJ6 (hs:Hs C U G e eb ρ0 β0 A τ V a w)(hst:C.st=G.st){x:CV}{v:Value}(hx:x.ok V v)(hsp:∀s ∈ x.sy,s<A.sy.length)(h:aH3 A G.st x=true):G.st=true->∀g,v.ownBlock=some g->C.w0.heap.size<=g:=by
 intro hg g hv
 cases x <;> simp only[aH3,Bool.false_eq_true]at h
 .
  rename_i s
  split at h
  .
   rename_i f hf
   rw[hg]at h
   have ho:f.own=true:=by simpa using h
   obtain⟨_,_,_,q4,_⟩:=hs.kn.sy s f hf (dT hf)
   rw[show v=V.ρ s from hx]at hv
   exact q4 ho (hst.trans hg) g hv
  .
   cases h
 .
  rw[show v=_ from hx]at hv;cases hv
theorem aHv (hs:Hs C U G e eb ρ0 β0 A τ V a w)(hst:C.st=G.st){fn:Func}{I:Inp}{r:RP}{xs:List AV}(hx:pN A fn.results.toList=some xs)(h:aHw A G.st r xs=true):∃v,(results fn a.tmps).run Tryz.prog w=.ok v w/\r.ok G.st τ C.w0.heap.size I v:=by
 have one:∀x,xs=[x]->∃v,(results fn a.tmps).run Tryz.prog w=.ok v w/\x.ok τ V v/\nG (·<A.sy.length) (·<A.bk.length) (·<A.ni) x:=by
  rintro x rfl
  obtain⟨rs,hrs⟩:∃l,fn.results.toList=l:=⟨_,rfl⟩
  rw[hrs]at hx
  match rs,hx with
  | [],hx=>simp[pN]at hx
  | [r1],hx=>
   simp only[pN,Option.map_some,Option.bind_eq_some_iff,zG2,zK0,and_true]at hx;obtain⟨y,h1,rfl⟩:=hx;obtain⟨v,q1,q2⟩:=wS hs h1
   exact⟨v,aHu (Array.toList_inj.1 (by rw[hrs])) q1,q2⟩
  | r1 :: r2 :: rs,hx=>
   simp only[pN,Option.bind_eq_some_iff,zF0]at hx;obtain⟨_,_,_,⟨_,_,_,_,rfl⟩,h9⟩:=hx
   simp at h9
 have two:∀x y,xs=[x,y]->∃v u,(results fn a.tmps).run Tryz.prog w=.ok (.tuple #[v,u]) w/\(x.ok τ V v/\nG (·<A.sy.length) (·<A.bk.length) (·<A.ni) x)/\y.ok τ V u/\nG (·<A.sy.length) (·<A.bk.length) (·<A.ni) y:=by
  rintro x y rfl
  obtain⟨rs,hrs⟩:∃l,fn.results.toList=l:=⟨_,rfl⟩
  rw[hrs]at hx
  match rs,hx with
  | [],hx=>simp[pN]at hx
  | [r1],hx=>
   simp only[pN,Option.map_some,Option.bind_eq_some_iff,zG2,zK0]at hx;obtain⟨_,_,_,h9⟩:=hx;cases h9
  | [r1,r2],hx=>
   simp only[pN,Option.map_some,Option.bind_eq_some_iff,zF0,zG2,zK0,and_true]at hx;obtain⟨z1,h1,z2,⟨z3,h2,rfl⟩,rfl,e9⟩:=hx;cases e9;obtain⟨v,q1,q2⟩:=wS hs h1;obtain⟨u,q3,q4⟩:=wS hs h2
   exact⟨v,u,aHt (Array.toList_inj.1 (by rw[hrs])) q1 q3,q2,q4⟩
  | r1 :: r2 :: r3 :: rs,hx=>
   simp only[pN,Option.bind_eq_some_iff,zF0]at hx;obtain⟨_,_,_,⟨_,_,_,⟨_,_,_,_,rfl⟩,rfl⟩,h9⟩:=hx
   simp at h9
 have kn:=hs.kn;unfold aHw at h
 split at h
 .
  rename_i lo hi x
  obtain⟨v,q1,q2,q3⟩:=one _ rfl
  split at h
  .
   rename_i p q hr
   simp only[zC0,zE3]at h;obtain⟨n,rfl,z1,z2⟩:=kD kn q2 q3.1 hr
   exact⟨_,q1,n,rfl,by omega,by omega⟩
  .
   cases h
 .
  obtain⟨v,q1,q2,q3⟩:=one _ rfl;exact⟨v,q1,sX q2 h⟩
 .
  obtain⟨v,q1,q2,q3⟩:=one _ rfl;simp only[zC0]at h;exact⟨v,q1,oC kn q2 q3.1 h.1,aJ6 hs hst q2 q3.1 h.2⟩
 .
  obtain⟨v,q1,⟨vs,rfl,v0,_,rfl,p0,v1,_,rfl,p1,v2,_,rfl,p2,v3,_,rfl,p3,v4,_,rfl,p4,rfl⟩,q3⟩:=one _ rfl;simp only[zC0]at h
  obtain⟨n0,rfl,r0⟩:=oJ kn p0 (fun s h9=>q3.1 s (List.mem_flatMap.2 ⟨_,by simp,h9⟩)) h.1
  obtain⟨n1,rfl,r1⟩:=oJ kn p1 (fun s h9=>q3.1 s (List.mem_flatMap.2 ⟨_,by simp,h9⟩)) h.2
  refine⟨_,q1,n0,n1, ?_,r0,r1⟩
  rw[show v2=_ from p2,show v3=_ from p3,show v4=_ from p4]
 .
  rename_i z _
  obtain⟨v,q1,⟨vs,rfl,v0,_,rfl,p0,v1,_,rfl,p1,v2,_,rfl,p2,v3,_,rfl,p3,v4,_,rfl,p4,rfl⟩,q3⟩:=one _ rfl;simp only[zC0]at h
  obtain⟨n0,rfl,r0⟩:=oJ kn p0 (fun s h9=>q3.1 s (List.mem_flatMap.2 ⟨_,by simp,h9⟩)) h.1.1
  obtain⟨n1,rfl,r1⟩:=oJ kn p1 (fun s h9=>q3.1 s (List.mem_flatMap.2 ⟨_,by simp,h9⟩)) h.1.2
  obtain⟨n3,r2,r3⟩:=oJ kn p3 (fun s h9=>q3.1 s (List.mem_flatMap.2 ⟨_,by simp,h9⟩)) h.2
  have e3:ln v3=n3:=by rcases r3 with⟨rfl,rfl⟩|⟨_,_,_,_,rfl,_⟩ <;> rfl
  refine⟨_,q1,n0,n1,v3, ?_,r0,r1,by rw[e3];exact r3,zD1 _,by rw[e3];exact r2⟩
  rw[show v2=_ from p2,show v4=_ from p4]
 .
  obtain⟨v,q1,q2,q3⟩:=one _ rfl;simp only[zC0]at h;exact⟨v,q1,aEb hs q2 q3 h.1 (aE1 h.2)⟩
 .
  obtain⟨v,u,q1,⟨q2,q3⟩,q4,q5⟩:=two _ _ rfl;simp only[zC0]at h;obtain⟨vs,rfl,r1⟩:=aEb hs q2 q3 h.1.1 (aE1 h.1.2);obtain⟨b,rfl⟩:=sX q4 h.2;exact⟨_,q1,vs,b,rfl,r1⟩
 .
  obtain⟨v,u,q1,⟨q2,q3⟩,q4,q5⟩:=two _ _ rfl;simp only[zC0]at h;obtain⟨vs,rfl,r1⟩:=aEb hs q2 q3 h.1.1.1 (aE1 h.1.1.2);exact⟨_,q1,vs,u,rfl,r1,oC kn q4 q5.1 h.1.2,aJ6 hs hst q4 q5.1 h.2⟩
 .
  cases h
end
end Eg
theorem U113{p:Prop}(h:p:=by
 obtain⟨px,pa⟩:=p
 cases px with
 | normal=>cases z <;> first|exact hm.elim|exact fin
 | ret=>cases z <;> first|exact hm.elim|exact fin
 | exit i=>exact absurd rfl (e1 i)):p:=h
theorem U56{p:Prop}(h:p:=by
 simp only[zG3,List.not_mem_nil,or_false]at h9
 omega):p:=h
theorem U73{p:Prop}(h:p:=by
 exact⟨fun s h9=> Q25,fun s h9=> Q25,fun s h9=> Q25⟩):p:=h
namespace Eg
def gSy:List SF:=[sf (.rc 4) 0 2 false,sf (.rc 0) 0 2 false,sf .bt 0 4 false,sf (.rc 1) 0 3 false,sf (.rc 12) 0 3 false,sf (.rc 0) 2 20 false,sf (.rc 0) 0 20 false]
def gBk:Bk:=.cells 139 [.ptr 0 0,.sl 0,.sl 2,.sl 1,.sl 3,.sl 4,.sl 5,.sl 6,.int 1 1,.int mn mx,.bl [] []]
def iY (n:Nat):List CP->List AV
 | []=>[]
 | .int lo hi :: l=>.c (.int lo hi) :: iY n l
 | .bool :: l=>.c (.bl [] []) :: iY n l
 | .str :: l=>.c .str :: iY n l
 | .sl _ _ _ :: l=>.c (.sl n) :: iY (n+1) l
 | .rc t :: l=>.rc t :: iY n l
 | _ :: l=>.c .top :: iY n l
def kG:List CP->List SF
 | []=>[]
 | .sl k lo hi :: l=>sf k lo hi false :: kG l
 | _ :: l=>kG l
def kF:List CP->List Value->List Value
 | .sl _ _ _ :: l,v :: r=>v :: kF l r
 | _ :: l,_ :: r=>kF l r
 | _,_=>[]
def aKt (n:Nat):List CP->List AV
 | .gen :: l=>.c (.ptr 1 0) :: iY n l
 | .cur :: l=>.c (.ptr 0 0) :: iY n l
 | l=>iY n l
def iG (c:Con):AS:=⟨number 0 (aKt (if bW c.args then 7 else 0) c.args),(if bW c.args then gSy else [])++kG c.args,(if bW c.args then [.cur,gBk] else if iC c.args then [.cur] else []),0,[],[],c.tg⟩
def aO5:List CV->Bool
 | [.ptr a b,.sl c,.sl d,.sl e,.sl f,.sl g,.sl h,.sl i,.int j k,.int lo hi,x]=>a == 0 && b == 0 && c == 0 && d == 2 && e == 1 && f == 3 && g == 4 && h == 5 && i == 6 && decide (j=1) && decide (k=1) && decide (mn<=lo) && decide (hi<=mx) && isB x
 | _=>false
def yA (A:AS):Bool:=match at? A.bk 0 with
 | some .cur=>true
 | _=>false
def aIt (A:AS):Bool:=match at? A.bk 1 with
 | some (.cells T l)=>T == 139 && aO5 l
 | _=>false
def aP4 (g c:Bool):List (Ex × AS)->Bool
 | []=>true
 | p :: l=>(!g || (aIt p.2 && yA p.2)) && (!c || yA p.2) && aP4 g c l
def aGd (G:Cfg)(c:Con)(fn:Func):Bool:=G.st == c.st && (!G.us || (bW c.args && c.st)) && aFj c.args && (G.nt == fn.ntmps && Nat.ble c.args.length fn.ntmps) && (match fn.body with
 | some b=>match qO G (iG c).bk.length (iG c).sy.length 100 b (iG c) with
  | some l=>aF7 fn G.st c.res l && aP4 (bW c.args) (iC c.args) l
  | none=>false
 | none=>false)
theorem uZ {t:Nat}{x:AV}:∀{l:List AV} {i:Nat},bY t (number i l)=some x->i<=t/\at? l (t-i)=some x
 | [],_,h=>by cases h
 | y :: l,i,h=>by
  simp only[number,bY]at h
  split at h
  .
   rename_i e
   have e:i=t:=by simpa using e
   subst e;cases h
   exact⟨zB0 _,by rw[Nat.sub_self];rfl⟩
  .
   obtain⟨h1,h2⟩:=uZ h
   refine⟨by omega, ?_⟩
   rw[show t-i=(t-(i+1))+1 by omega]
   exact h2
section
variable {C:Cx} {U:Value->Prop} {G:Cfg} {τ:Sm} {V:Vl} {w:World} {I:Inp}
theorem aA1:∀{ps:List CP} {vs:List Value},aDn τ w I ps vs->vs.length=ps.length
 | [],_,h=>by rw[show _=[] from h];rfl
 | _ :: _,_,⟨v,us,e,_,h⟩=>by rw[e,zB1,zB1,aA1 h]
theorem gZ {B X:Nat->Prop}:∀{ps:List CP} {vs:List Value} {n m:Nat},aDn τ w I ps vs->n+(kG ps).length<=m->(∀q v,(kF ps vs)[q]?=some v->V.ρ (n+q)=v)->∀i x,at? (iY n ps) i=some x->∃v,vs[i]?=some v/\x.ok τ V v/\nG (·<m) B X x
 | [],_,_,_,_,_,_,i,x,h=>by simp[iY,at?]at h
 | p :: ps,_,n,m,⟨v,us,rfl,hp,hr⟩,hm,hV,i,x,h=>by
  have nil:∀y:CV,y.sy=[]->y.bs=[]->y.is=[]->nG (·<m) B X (.c y):=fun y h1 h2 h3=>⟨fun s h9=>(by simp only[AV.sy,h1]at h9;cases h9),fun s h9=>(by simp only[AV.bs,h2]at h9;cases h9),fun s h9=>(by simp only[AV.is,h3]at h9;cases h9)⟩
  cases p with
  | sl k lo hi=>
   simp only[kG,zB1]at hm
   cases i with
   | zero=>
    simp only[iY,at?,zG2]at h;subst h
    exact⟨v,rfl,(hV 0 v rfl).symm,⟨fun s h9=>by simp only[AV.sy,CV.sy,List.mem_singleton]at h9;subst h9;omega,fun s h9=> Q25,fun s h9=> Q25⟩⟩
   | succ i=>
    exact gZ (n:=n+1) hr Q0 (fun q u hq=>by rw[show n+1+q=n+(q+1) by omega];exact hV (q+1) u hq) i x h
  | rc t=>
   cases i with
   | zero=>
    simp only[iY,at?,zG2]at h;subst h
    exact⟨v,rfl,hp,⟨fun s h9=> Q25,fun s h9=> Q25,fun s h9=> Q25⟩⟩
   | succ i=>exact gZ hr hm hV i x h
  | int lo hi=>
   cases i with
   | zero=>simp only[iY,at?,zG2]at h;subst h;exact⟨v,rfl,hp,nil _ rfl rfl rfl⟩
   | succ i=>exact gZ hr hm hV i x h
  | bool=>
   cases i with
   | zero=>simp only[iY,at?,zG2]at h;subst h;obtain⟨b,rfl⟩:=hp;exact⟨_,rfl,iK V b,nil _ rfl rfl rfl⟩
   | succ i=>exact gZ hr hm hV i x h
  | str=>
   cases i with
   | zero=>simp only[iY,at?,zG2]at h;subst h;exact⟨v,rfl,hp,nil _ rfl rfl rfl⟩
   | succ i=>exact gZ hr hm hV i x h
  | cur=>
   cases i with
   | zero=>simp only[iY,at?,zG2]at h;subst h;exact⟨v,rfl,trivial,nil _ rfl rfl rfl⟩
   | succ i=>exact gZ hr hm hV i x h
  | gen=>
   cases i with
   | zero=>simp only[iY,at?,zG2]at h;subst h;exact⟨v,rfl,trivial,nil _ rfl rfl rfl⟩
   | succ i=>exact gZ hr hm hV i x h
  | un=>
   cases i with
   | zero=>simp only[iY,at?,zG2]at h;subst h;exact⟨v,rfl,trivial,nil _ rfl rfl rfl⟩
   | succ i=>exact gZ hr hm hV i x h
  | fa=>
   cases i with
   | zero=>simp only[iY,at?,zG2]at h;subst h;exact⟨v,rfl,trivial,nil _ rfl rfl rfl⟩
   | succ i=>exact gZ hr hm hV i x h
theorem aQi {k:Rs}{lo hi:Nat}{v:Value}(h:SVb τ k lo hi v):(sf k lo hi false).ok C U τ V v:=⟨h.1,h.2.1,h.2.2,(fun h9=>by cases h9),(fun h9=>by cases h9),(fun h9=>by cases h9),(fun s h9=>by cases h9)⟩
theorem tM:∀{ps:List CP} {vs:List Value},aDn τ w I ps vs->∀q f,at? (kG ps) q=some f->∃k lo hi v,f=sf k lo hi false/\(kF ps vs)[q]?=some v/\SVb τ k lo hi v
 | [],_,_,q,f,h=>by simp[kG,at?]at h
 | p :: ps,_,⟨v,us,rfl,hp,hr⟩,q,f,h=>by
  cases p with
  | sl k lo hi=>
   cases q with
   | zero=>simp only[kG,at?,zG2]at h;subst h;exact⟨k,lo,hi,v,rfl,rfl,hp⟩
   | succ q=>exact tM hr q f h
  | _=>exact tM hr q f h
def rho (l:List Value)(s:Nat):Value:=(l[s]?).getD (.slice none 0 0)
def Inp.sym (I:Inp):List Value:=[I.fa,I.us,I.nv,I.vv,I.pv,I.iv,I.av]
def aPj (I:Inp)(n:Nat):Nat:=if n=0 then I.cb else I.gb
theorem aI0 {c:Con}{fn:Func}{vs:List Value}(hst:G.st=c.st)(hT:TH τ w)(hTg:c.tg=true->Tg τ)(hEnv:c.Env τ w I)(hArgs:aDn τ w I c.args vs)(hh:aFj c.args=true)(hnt:G.nt=fn.ntmps/\c.args.length<=fn.ntmps)(U:Value->Prop):
  Hs ⟨c.st,c.K I,τ,w⟩ U G (iG c).sy.length (iG c).bk.length (rho ((if bW c.args then I.sym else [])++kF c.args vs)) (aPj I) (iG c) τ ⟨rho ((if bW c.args then I.sym else [])++kF c.args vs),aPj I,fun _=>0⟩ { tmps:=vs.toArray++Array.replicate (fn.ntmps-vs.toArray.size) undef,defers:=[] } w:=by
 have Ak:=aA1 hArgs
 have symLen:(if bW c.args then I.sym else []).length=(if bW c.args then gSy else []).length:=by split <;> rfl
 have hn:(if bW c.args then 7 else 0)=(if bW c.args then gSy else []).length:=by split <;> rfl
 have rhoR:∀q v,(kF c.args vs)[q]?=some v->rho ((if bW c.args then I.sym else [])++kF c.args vs) ((if bW c.args then gSy else []).length+q)=v:=fun q v hq=>by
  unfold rho;rw[List.getElem?_append_right Q0,symLen,Nat.add_sub_cancel_left,hq]
  rfl
 have rhoL:∀s v,(if bW c.args then I.sym else [])[s]?=some v->rho ((if bW c.args then I.sym else [])++kF c.args vs) s=v:=fun s v hq=>by
  unfold rho;rw[List.getElem?_append_left (zC1.1 hq).1,hq]
  rfl
 have hsy:∀s f,at? (iG c).sy s=some f->∃k lo hi,f=sf k lo hi false/\SVb τ k lo hi (rho ((if bW c.args then I.sym else [])++kF c.args vs) s):=fun s f hf=>by
  have hf:at? ((if bW c.args then gSy else [])++kG c.args) s=some f:=hf
  rw[dG]at hf
  by_cases Aj:s<(if bW c.args then gSy else []).length
  .
   rw[if_pos Aj]at hf
   cases hg:bW c.args with
   | false=>rw[hg]at hf;simp[at?]at hf
   | true=>
    have hG:=hEnv.gen hg;simp only[hg,if_true]at hf rhoL ⊢;have e:=dT hf
    have go:∀i k lo hi v,s=i->at? gSy i=some (sf k lo hi false)->I.sym[i]?=some v->SVb τ k lo hi v->∃k lo hi,f=sf k lo hi false/\SVb τ k lo hi (rho (I.sym++kF c.args vs) s):=fun i k lo hi v e1 e2 e3 e4=>by
     subst e1;rw[e2]at hf;cases hf
     exact⟨k,lo,hi,rfl,by rw[rhoL _ v e3];exact e4⟩
    simp only[gSy,zB1,zC3]at e;have hs7:s=0\/s=1\/s=2\/s=3\/s=4\/s=5\/s=6:=Q0
    rcases hs7 with h9|h9|h9|h9|h9|h9|h9
    .
     exact go 0 _ _ _ _ h9 rfl rfl hG.fa
    .
     exact go 1 _ _ _ _ h9 rfl rfl hG.us
    .
     exact go 2 _ _ _ _ h9 rfl rfl hG.nv
    .
     exact go 3 _ _ _ _ h9 rfl rfl hG.vv
    .
     exact go 4 _ _ _ _ h9 rfl rfl hG.pv
    .
     exact go 5 _ _ _ _ h9 rfl rfl hG.iv
    .
     exact go 6 _ _ _ _ h9 rfl rfl hG.av
  .
   rw[if_neg Aj]at hf;obtain⟨k,lo,hi,v,rfl,h1,h2⟩:=tM hArgs _ _ hf
   have:=rhoR _ v h1
   rw[Nat.add_sub_cancel' Q0]at this
   exact⟨k,lo,hi,rfl,by rw[this];exact h2⟩
 have hbk:∀n x,at? (iG c).bk n=some x->((n=0/\x=.cur/\aM5 τ w I.cb/\(bW c.args=true\/iC c.args=true))\/(n=1/\x=gBk/\Gen τ w I/\bW c.args=true)):=fun n x hx=>by
  have hx:at? (if bW c.args then [.cur,gBk] else if iC c.args then [.cur] else []) n=some x:=hx
  cases hg:bW c.args with
  | true=>
   have hG:=hEnv.gen hg;rw[hg]at hx;simp only[if_true]at hx
   match n,hx with
   | 0,hx=>simp only[at?,zG2]at hx;exact .inl ⟨rfl,hx.symm,hG.cur,.inl rfl⟩
   | 1,hx=>simp only[at?,zG2]at hx;exact .inr ⟨rfl,hx.symm,hG,rfl⟩
   | n+2,hx=>simp[at?]at hx
  | false=>
   rw[hg]at hx;simp only[Bool.false_eq_true,if_false]at hx
   cases hc:iC c.args with
   | true=>
    rw[hc]at hx;simp only[if_true]at hx
    match n,hx with
    | 0,hx=>simp only[at?,zG2]at hx;exact .inl ⟨rfl,hx.symm,hEnv.cur hc,.inr rfl⟩
    | n+1,hx=>simp[at?]at hx
   | false=>rw[hc]at hx;simp[at?]at hx
 have hK0:(bW c.args=true\/iC c.args=true)->I.cb ∈ c.K I:=fun h9=>by
  unfold Con.K
  rcases h9 with h9|h9
  .
   rw[if_pos h9];simp
  .
   split
   .
    simp
   .
    first|simp;done|(rw[if_pos h9];simp)
 have hK1:bW c.args=true->c.K I=[I.cb,I.gb]:=fun h9=>by unfold Con.K;rw[if_pos h9]
 have hK2:bW c.args=false->∀g ∈ c.K I,g=I.cb:=fun h9 g hg=>by
  unfold Con.K at hg
  rw[if_neg (by simp[h9])]at hg
  split at hg
  .
   simpa using hg
  .
   cases hg
 have curLt:∀g,Cur w g->g<w.heap.size:=fun g hg=>by
  obtain⟨a9,n9,c9,l9,i9,h9,hb9,_⟩:=hg;exact(zJ0.1 hb9).1
 have genLt:Gen τ w I->I.gb<w.heap.size:=fun hG=>by
  obtain⟨left,_,hb9⟩:=hG.blk;exact(zJ0.1 hb9).1
 refine⟨⟨Fr.refl hT,fun s f hf _=>?_,fun s f hf _ t ht=>?_,fun n x hx _=>?_,fun n x hx _=>?_,fun n m x y hx hy _ _ Aw=>?_,fun n hx _=>?_,hTg,fun n hx=>?_⟩,fun t=>?_,fun c9 hc9=>(by cases hc9),fun s _=>rfl,zB0 _,fun _ _=>rfl,zB0 _, ?_,rfl,fun _ h9=>h9⟩
 .
  obtain⟨k,lo,hi,rfl,h1⟩:=hsy s f hf;exact aQi h1
 .
  obtain⟨k,lo,hi,rfl,h1⟩:=hsy s f hf;cases ht
 .
  rcases hbk n x hx with⟨rfl,rfl,h1,h2⟩|⟨rfl,rfl,h1,h2⟩
  .
   exact⟨h1.cur,h1.nc,curLt _ h1.cur,.inl (hK0 h2)⟩
  .
   obtain⟨left,hl,hb9⟩:=h1.blk
   refine⟨⟨_,hb9, ?_⟩,h1.ng,genLt h1,.inl (by rw[hK1 h2];show I.gb ∈ _;simp)⟩
   rw[h2]at rhoL ⊢;simp only[if_true]at rhoL ⊢;exact⟨_,_,rfl,rfl,_,_,rfl,(rhoL 0 _ rfl).symm,_,_,rfl,(rhoL 2 _ rfl).symm,_,_,rfl,(rhoL 1 _ rfl).symm,_,_,rfl,(rhoL 3 _ rfl).symm,_,_,rfl,(rhoL 4 _ rfl).symm,_,_,rfl,(rhoL 5 _ rfl).symm,_,_,rfl,(rhoL 6 _ rfl).symm,_,_,rfl,⟨1,rfl,Int.le_refl _,Int.le_refl _⟩,_,_,rfl,⟨left,rfl,hl.1,hl.2⟩,_,_,rfl,iK _ _,rfl⟩
 .
  rcases hbk n x hx with⟨rfl,rfl,h1,h2⟩|⟨rfl,rfl,h1,h2⟩
  .
   exact U73
  .
   have e1:(iG c).sy.length=7+(kG c.args).length:=by
    show((if bW c.args then gSy else [])++kG c.args).length=_
    rw[h2,if_pos rfl,zA1];rfl
   have e2:(iG c).bk.length=2:=by
    show(if bW c.args then [Bk.cur,gBk] else if iC c.args then [.cur] else []).length=_
    rw[h2];rfl
   refine⟨fun s h9=>?_,fun s h9=>?_,fun s h9=>?_⟩
   .
    have h9:s ∈ [0,2,1,3,4,5,6]:=h9
    show s<(iG c).sy.length
    rw[e1];exact U56
   .
    have h9:s ∈ [0]:=h9
    show s<(iG c).bk.length
    rw[e2];exact U56
   .
    have h9:s ∈ ([]:List Nat):=h9
    cases h9
 .
  rcases hbk n x hx with⟨rfl,rfl,h1,h2⟩|⟨rfl,rfl,h1,h2⟩
  .
   rcases hbk m y hy with⟨rfl,rfl,h3,h4⟩|⟨rfl,rfl,h3,h4⟩
   .
    exact absurd rfl Aw
   .
    have:=h3.lt;show I.cb ≠ I.gb;omega
  .
   rcases hbk m y hy with⟨rfl,rfl,h3,h4⟩|⟨rfl,rfl,h3,h4⟩
   .
    have:=h1.lt;show I.gb ≠ I.cb;omega
   .
    exact absurd rfl Aw
 .
  rcases hbk n _ hx with⟨rfl,_,h1,h2⟩|⟨rfl,h9,_⟩
  .
   refine⟨Nat.le_of_lt (curLt _ h1.cur),fun b hb=>⟨h1.lo b hb,fun hm=>?_⟩⟩
   have hb:b<I.cb:=hb
   cases hg:bW c.args with
   | true=>
    have hm:b ∈ c.K I:=hm
    rw[hK1 hg]at hm
    have:=(hEnv.gen hg).lt
    simp only[zG3,List.not_mem_nil,or_false]at hm
    omega
   | false=>have:=hK2 hg b hm;omega
  .
   cases h9
 .
  rcases hbk n _ hx with⟨rfl,_⟩|⟨rfl,h9,_⟩
  .
   rfl
  .
   cases h9
 .
  show((bY t (number 0 (aKt (if bW c.args then 7 else 0) c.args))).getD (.c .top)).ok τ _ _/\nG _ _ _ ((bY t (number 0 (aKt (if bW c.args then 7 else 0) c.args))).getD (.c .top))
  cases hf:bY t (number 0 (aKt (if bW c.args then 7 else 0) c.args)) with
  | none=>exact⟨trivial,(fun s h9=>by cases h9),(fun s h9=>by cases h9),(fun s h9=>by cases h9)⟩
  | some x=>
   obtain⟨_,hx⟩:=uZ hf;rw[Nat.sub_zero]at hx;rw[zI1]
   have ev:∀v,vs[t]?=some v->Act.eval { tmps:=vs.toArray++Array.replicate (fn.ntmps-vs.toArray.size) undef,defers:=[] } (.tmp t)=v:=fun v hv=>by
    have Aj:=(zC1.1 hv).1
    show(vs.toArray++Array.replicate (fn.ntmps-vs.toArray.size) undef).getD t undef=v
    rw[Array.getD_eq_getD_getElem?,Array.getElem?_append_left (by simpa using Aj)]
    simp[hv]
   have tail:∀(ps:List CP) (us:List Value),aDn τ w I ps us->kG ps=kG c.args->kF ps us=kF c.args vs->∀i,at? (iY (if bW c.args then 7 else 0) ps) i=some x->(∀v,us[i]?=some v->vs[t]?=some v)->x.ok τ ⟨rho ((if bW c.args then I.sym else [])++kF c.args vs),aPj I,fun _=>0⟩ (Act.eval { tmps:=vs.toArray++Array.replicate (fn.ntmps-vs.toArray.size) undef,defers:=[] } (.tmp t))/\nG (·<(iG c).sy.length) (·<(iG c).bk.length) (·<(iG c).ni) x:=fun ps us ha e1 e2 i hi hv=>by
    obtain⟨v,q1,q2,q3⟩:=gZ (V:=⟨rho ((if bW c.args then I.sym else [])++kF c.args vs),aPj I,fun _=>0⟩) (B:=(·<(iG c).bk.length)) (X:=(·<(iG c).ni)) (m:=(iG c).sy.length) ha (by
     rw[e1,hn]
     show _<=((if bW c.args then gSy else [])++kG c.args).length
     rw[zA1];exact zB0 _) (fun q v hq=>by rw[e2]at hq;rw[hn];exact rhoR q v hq) i x hi
    rw[ev v (hv v q1)];exact⟨q2,q3⟩
   obtain⟨l,hl⟩:∃l,c.args=l:=⟨_,rfl⟩
   cases l with
   | nil=>rw[hl]at hx;simp[aKt,iY,at?]at hx
   | cons p ps=>
    obtain⟨v0,us,Ai,hp0,hr0⟩:∃v us,vs=v :: us/\p.ok τ w I v/\aDn τ w I ps us:=by rw[hl]at hArgs;exact hArgs
    by_cases hpl:nJ p=true
    .
     have hx':at? (iY (if bW c.args then 7 else 0) c.args) t=some x:=by
      rw[hl]at hx ⊢
      cases p <;> first|exact hx|cases hpl
     exact tail c.args vs hArgs rfl rfl t hx' fun v hv=>hv
    .
     have esf:kG ps=kG c.args:=by rw[hl];cases p <;> first|rfl|exact absurd rfl hpl
     have esv:kF ps us=kF c.args vs:=by rw[hl,Ai];cases p <;> first|rfl|exact absurd rfl hpl
     have nil:∀b,b<(iG c).bk.length->nG (·<(iG c).sy.length) (·<(iG c).bk.length) (·<(iG c).ni) (.c (.ptr b 0)):=fun b hb=>⟨fun s h9=> Q25,fun s h9=>by simp only[AV.bs,CV.bs,List.mem_singleton]at h9;subst h9;exact hb,fun s h9=> Q25⟩
     cases t with
     | succ t=>
      refine tail ps us hr0 esf esv t ?_ fun v hv=>by rw[Ai,List.getElem?_cons_succ];exact hv
      rw[hl]at hx ⊢
      cases p <;> first|exact hx|exact absurd rfl hpl
     | zero=>
      rw[ev v0 (by rw[Ai];rfl)]
      cases p with
      | gen=>
       have hg:bW c.args=true:=by rw[hl];rfl
       rw[hl]at hx;simp only[aKt,at?,zG2]at hx;subst hx
       exact⟨hp0,nil 1 (by show 1<(if bW c.args then [Bk.cur,gBk] else if iC c.args then [.cur] else []).length;rw[hg];exact Nat.lt_succ_self 1)⟩
      | cur=>
       have hg:bW c.args=false:=by rw[hl];rfl
       have hc:iC c.args=true:=by rw[hl];rfl
       rw[hl]at hx;simp only[aKt,at?,zG2]at hx;subst hx
       exact⟨hp0,nil 0 (by show 0<(if bW c.args then [Bk.cur,gBk] else if iC c.args then [.cur] else []).length;rw[hg,hc];exact Nat.lt_succ_self 0)⟩
      | _=>exact absurd rfl hpl
 .
  show(vs.toArray++Array.replicate (fn.ntmps-vs.toArray.size) undef).size=G.nt
  rw[Array.size_append,Array.size_replicate,List.size_toArray]
  omega
theorem qF {fn:Func}{st:Bool}{r:RP}:∀{l:List (Ex × AS)},aF7 fn st r l=true->∀p ∈ l,(∀i,p.1 ≠ .exit i)/\∃xs,pN p.2 fn.results.toList=some xs/\aHw p.2 st r xs=true
 | [],_,p,h=>by cases h
 | (.exit _,_) :: _,h,_,_=>by cases h
 | (.normal,A) :: l,h,p,hp=>by
  simp only[aF7,zC0]at h
  rcases zG3.1 hp with rfl|hp
  .
   refine⟨fun i=>by simp, ?_⟩
   have h1:=h.1
   split at h1
   .
    rename_i xs e;exact⟨xs,e,h1⟩
   .
    cases h1
  .
   exact qF h.2 p hp
 | (.ret,A) :: l,h,p,hp=>by
  simp only[aF7,zC0]at h
  rcases zG3.1 hp with rfl|hp
  .
   refine⟨fun i=>by simp, ?_⟩
   have h1:=h.1
   split at h1
   .
    rename_i xs e;exact⟨xs,e,h1⟩
   .
    cases h1
  .
   exact qF h.2 p hp
theorem aAr {g c:Bool}:∀{l:List (Ex × AS)},aP4 g c l=true->∀p ∈ l,(g=true->aIt p.2=true/\yA p.2=true)/\(c=true->yA p.2=true)
 | [],_,p,h=>by cases h
 | q :: l,h,p,hp=>by
  simp only[aP4,zC0,Bool.or_eq_true,Bool.not_eq_true']at h
  rcases zG3.1 hp with rfl|hp
  .
   exact⟨fun hg=>h.1.1.resolve_left (by rw[hg];simp),fun hc=>h.1.2.resolve_left (by rw[hc];simp)⟩
  .
   exact aAr h.2 p hp
theorem aI8 {A:AS}(h:yA A=true):at? A.bk 0=some .cur:=by
 unfold yA at h
 split at h
 .
  assumption
 .
  cases h
theorem aIs {e:Nat}{ρ0:Nat->Value}{A:AS}{a:Act}(hs:Hs C U G e 2 ρ0 (aPj I) A τ V a w)(he:7<=e)(hr:∀s v,I.sym[s]?=some v->ρ0 s=v)(hg:aIt A=true):∃left cm,I64 left/\Blk w I.gb 139 ({ I with calm:=cm }.vals left):=by
 unfold aIt at hg
 split at hg
 .
  rename_i T l hb
  simp only[zC0,beq_iff_eq]at hg;obtain⟨rfl,hg⟩:=hg;have hb0:=hs.fb 0 Q0;have hb1:=hs.fb 1 Q0;obtain⟨⟨vs,hbl,hal⟩,_⟩:=hs.kn.bk 1 _ hb (dT hb);rw[hb1]at hbl;unfold aO5 at hg
  split at hg
  .
   rename_i a0 b0 c0 d0 e0 f0 g0 h0 i0 j0 k0 lo hi x
   simp only[zC0,beq_iff_eq,zE3]at hg;obtain⟨⟨⟨⟨⟨⟨⟨⟨⟨⟨⟨⟨⟨rfl,rfl⟩,rfl⟩,rfl⟩,rfl⟩,rfl⟩,rfl⟩,rfl⟩,rfl⟩,rfl⟩,rfl⟩,h1⟩,h2⟩,h3⟩:=hg;obtain⟨v0,_,rfl,q0,v1,_,rfl,q1,v2,_,rfl,q2,v3,_,rfl,q3,v4,_,rfl,q4,v5,_,rfl,q5,v6,_,rfl,q6,v7,_,rfl,q7,v8,_,rfl,q8,v9,_,rfl,q9,v10,_,rfl,q10,rfl⟩:=hal;obtain⟨x8,rfl,y8,z8⟩:=q8;obtain⟨x9,rfl,y9,z9⟩:=q9;obtain⟨cm,rfl⟩:=sX q10 h3
   obtain rfl:x8=1:=Q0
   have sy:∀s v u,I.sym[s]?=some v->CV.ok V (.sl s) u->s<7->u=v:=fun s v u e1 e2 e3=>by
    rw[show u=V.ρ s from e2,hs.fs s Q0]
    exact hr s v e1
   have e0:v0=.pointer (some ⟨I.cb,0,none⟩):=by rw[show v0=.pointer (some ⟨V.β 0,0,none⟩) from q0,hb0];rfl
   rw[e0,sy 0 _ _ rfl q1 Q0,sy 2 _ _ rfl q2 Q0,sy 1 _ _ rfl q3 Q0,sy 3 _ _ rfl q4 Q0,sy 4 _ _ rfl q5 Q0,sy 5 _ _ rfl q6 Q0,sy 6 _ _ rfl q7 Q0]at hbl;unfold mn at h1;unfold mx at h2
   exact⟨x9,cm,⟨by omega,by omega⟩,hbl⟩
  .
   cases hg
 .
  cases hg
theorem aPf {c:Con}{fn:Func}(hcons:∀k ∈ G.cons,qK k)(hf:Tryz.prog.funcs[c.f]?=some fn)(hk:aGd G c fn=true):qK c:=by
 unfold aGd at hk;simp only[zC0,beq_iff_eq,Bool.or_eq_true,Bool.not_eq_true',Nat.ble_eq]at hk;obtain⟨⟨⟨⟨h1,h2⟩,h3⟩,h4⟩,h5⟩:=hk
 split at h5
 .
  rename_i b hb
  split at h5
  .
   rename_i l hl
   simp only[zC0]at h5;intro τ w I vs hT hTg hEnv hArgs;refine calls_of_wp hf hb ?_
   have hs:=aI0 (G:=G) (fn:=fn) h1 hT hTg hEnv hArgs h3 h4 (if bW c.args then Us I.fa w else fun _=>True)
   have hE:Env ⟨c.st,c.K I,τ,w⟩ (if bW c.args then Us I.fa w else fun _=>True) G (iG c).sy.length (iG c).bk.length (rho ((if bW c.args then I.sym else [])++kF c.args vs)):=by
    refine⟨⟨h1.symm,hT,hcons⟩,fun hus=>?_⟩
    .
     obtain⟨g1,g2⟩:=h2.resolve_left (by rw[hus];simp)
     have hG:=hEnv.gen g1;rw[g1];simp only[if_true];refine⟨?_,g2,hG.fa,hG.us,hG.use,rfl⟩
     show 2<=((if bW c.args then gSy else [])++kG c.args).length
     rw[g1,if_pos rfl,zA1]
     exact zF2 (by decide:2<=gSy.length) (Nat.le_add_right _ _)
   refine aFv hE 100 b _ l _ _ _ _ _ hl hs ?_;rintro z a' w' ⟨p,hp,hm,τ2,V2,hs2⟩;obtain⟨e1,xs,e2,e3⟩:=qF h5.1 p hp;obtain⟨e4,e5⟩:=aAr h5.2 p hp;obtain⟨v,r1,r2⟩:=aHv hs2 h1.symm (I:=I) e2 e3
   have cur:yA p.2=true->(bW c.args=true\/iC c.args=true)->Cur w' I.cb:=fun hc hh=>by
    have h9:=aI8 hc
    have:=(hs2.kn.bk 0 _ h9 (dT h9)).1
    rw[hs2.fb 0 (by
     show 0<(if bW c.args then [Bk.cur,gBk] else if iC c.args then [.cur] else []).length
     rcases hh with hh|hh
     .
      rw[if_pos hh];decide
     .
      split
      .
       decide
      .
       first|decide|(rw[if_pos hh];decide))]at this
    exact this
   have fin:a'.defers=[]/\∃v,(results fn a'.tmps).run Tryz.prog w'=.ok v w'/\∃u τ',Ending.returned v=.returned u/\Fr ⟨c.st,c.K I,τ,w⟩ τ' w'/\(c.st=true->Tg τ->Tg τ')/\c.After w' I/\c.res.ok c.st τ' w.heap.size I u:=by
    refine⟨hs2.df,v,r1,v,τ2,rfl,hs2.kn.fr,hs2.tq,⟨fun hg=>⟨cur (e4 hg).2 (.inl hg), ?_⟩,fun hc=>cur (e5 hc) (.inr hc)⟩,by rw[<-h1];exact r2⟩
    have e6:(iG c).bk.length=2:=by show(if bW c.args then [Bk.cur,gBk] else if iC c.args then [.cur] else []).length=_;rw[if_pos hg];rfl
    have hs3:=hs2;rw[e6]at hs3
    refine aIs hs3 ?_ (fun s v h9=>?_) (e4 hg).1
    .
     show 7<=((if bW c.args then gSy else [])++kG c.args).length
     rw[if_pos hg,zA1]
     exact zF2 (by decide:7<=gSy.length) (Nat.le_add_right _ _)
    .
     unfold rho;rw[if_pos hg,List.getElem?_append_left (zC1.1 h9).1,h9]
     rfl
   exact U113
  .
   cases h5
 .
  cases h5
end
end Eg
end Go.Proofs.YtffphdacgblaoaaGreatDoor

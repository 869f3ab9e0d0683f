import Derived.Test.YtffphdacgblaoaaGreatDoorPackAC
import Derived.Lib.ConvBytes
import Derived.Orders
namespace Go.Proofs.YtffphdacgblaoaaGreatDoor
open Go.RowKit
set_option linter.unusedVariables false
set_option linter.unusedSimpArgs false
set_option maxRecDepth 100000
theorem Q65{p:Prop}(h:p:=by simpa using hq):p:=h
namespace Eg
section
variable {C:Cx} {U:Value->Prop} {G:Cfg} {A:AS} {S B X:Nat->Prop} {τ τ':Sm} {V V':Vl} {a:Act} {w w':World} {d:Option Nat} {ty:TypeId} {pos:String} {aft:Array Edge} {gd:Option (Nat × Bool)}
theorem Res.mv {u:Out}{v:Value}(h:Kn C U A S B X τ V w)(m:Mv C [] τ w τ' w')(hq:u.nq=false->∀b s,τ b=some s->s.k ≠ .bt->w'.heap[b]?=w.heap[b]?)(hup:u.up=none)(hnb:u.nb=none)(hρ:∀s,S s->V'.ρ s=V.ρ s)(hβ:∀n,B n->V'.β n=V.β n)(hι:∀c,X c->V'.ι c=V.ι c)
  (hns:∀q f,at? u.ns q=some f->f.ok C U τ' V' (V'.ρ (A.sy.length+q))) (hr:u.r.ok τ' V' v) (hnc:∀c ∈ u.nc,c.ok V' w'):Res C U A u S B X τ V w v τ' V' w':=
 ⟨m.fr,m.sub,m.size,m.non,hq,fun _=>m.tg,hρ,hβ,hι,hns,hr,fun n x hn hx _=>h.blkOn hρ hβ hι hn hx fun b hb=>by
   obtain⟨_,h1,h2,_⟩:=h.bk n x hx hn
   by_cases e:b=V.β n
   .
    subst e;exact .inl (m.blk _ h2 h1 Q9)
   .
    cases x with
    | cur=>exact .inl (m.blk b Q0 ((h.lo n hx hn).2 b Q0).1 Q9)
    | cells T l=>exact .inr ⟨by simp,e⟩,fun n l T x e=> Q62,fun x e=> Q71,hnc⟩
theorem rH (h:Kn C U A S B X τ V w){k:Rs}:∀{l:List (Nat × Operand)} {i:Nat},sO A k i l=true->(∀p ∈ l,Opd A S B X τ V a p.2)->(l.map fun (i,x)=>(i,a.eval x))=(((l.map fun p=>a.eval p.2).zipIdx i).map fun x=>(x.2,x.1))/\∀us ∈ l.map (fun p=>(a.eval p.2).cells.toList),EV τ false k us
 | [],i,_,_=>⟨rfl,fun us hu=>by cases hu⟩
 | (j,x) :: l,i,hp,ho=>by
  simp only[sO,zC0,beq_iff_eq]at hp;obtain⟨⟨rfl,h1⟩,h2⟩:=hp;obtain⟨q1,q2,_⟩:=ho (i,x) Q9
  obtain⟨e1,e2⟩:=rH h h2 (fun p hp=>ho p (by simp[hp]))
  refine⟨?_,fun us hu=>?_⟩
  .
   simp only[zH2,List.zipIdx_cons,e1]
  .
   rw[zH2]at hu
   rcases zG3.1 hu with rfl|hu
   .
    exact aFs h q1 q2 h1
   .
    exact e2 us hu
theorem aLa {T n:Nat}{k:Rs}{ps:Array (Nat × Value)}{vs:List Value}(hT:Tryz.prog.underlying T=some (.slice k.ty))(hl:vs.length=n)(hn:n<=1000)(hp:ps.toList=((vs.zipIdx 0).map fun x=>(x.2,x.1)))(hk:∀v ∈ vs,v.cells.size=k.k)(w:World):
  (Instr.buildSlice T n ps).run Tryz.prog w=.ok (.slice (some ⟨w.heap.size,0,none⟩) n n) (w.alloc (.cells (vs.map fun v=>v.cells.toList).flatten.toArray k.ty)):=by
 obtain⟨z,b,hi,hz,hb⟩:=aIk k;obtain⟨i0,e1,e2,e3,e4⟩:=info_parts hi;have hk0:=k.k0
 have hkb:k.k<=6:=by
  cases k with
  | rc t=>show(Dt t).2.length<=6;unfold Dt;split <;> decide
  | _=>decide
 rcases zG0 n with rfl|hpos
 .
  have hv:vs=[]:=by cases vs with|nil=>rfl|cons _ _=>simp at hl
  subst hv
  have hp0:ps=#[]:=by apply Array.toList_inj.1;rw[hp];rfl
  subst hp0
  simp[Instr.buildSlice,run_underlying hT,sizeOf,typeInfo,e1,Instr.fill,newRow,go_sem]
 .
  obtain⟨r,hr,Am,hrk⟩:=Great.fill_dense hk0 vs 0 ((Array.range (n*k.k)).map (z.cells[· % z.cells.size]!)) hk (by simp[hl])
  have hlf:=lJ (k:=k.k) (vs.map fun v=>v.cells.toList) (by simpa using hk)
  rw[zB2,hl]at hlf
  have hre:r=(vs.map fun v=>v.cells.toList).flatten.toArray:=by
   apply Array.ext_getElem?
   intro i;rw[hrk i]
   by_cases hi':i<n*k.k
   .
    rw[if_pos (by rw[Nat.zero_mul,zJ2,hl];omega)]
    have hd:i / k.k<n:=Nat.div_lt_of_lt_mul (by rw[Nat.mul_comm];exact hi')
    have hm:i % k.k<k.k:=Nat.mod_lt _ hk0
    have hvl:i / k.k<vs.length:=Q0
    have Ab:i % k.k<(vs[i / k.k]).cells.toList.length:=by
     have:=hk _ (List.getElem_mem hvl)
     simp[this,hm]
    have e9:=oZ (k:=k.k) (vs.map fun v=>v.cells.toList) (i / k.k) (vs[i / k.k]).cells.toList (i % k.k) ((vs[i / k.k]).cells.toList[i % k.k]) (by simpa using hk) (by rw[zA2,zA0 hvl];rfl) (zA0 Ab)
    have hdm:i / k.k*k.k+i % k.k=i:=by rw[Nat.mul_comm];exact Nat.div_add_mod i k.k
    rw[hdm]at e9;rw[Nat.sub_zero,zA0 hvl];simp only[Option.bind_some]
    have e8:(vs.map fun v=>v.cells.toList).flatten.toArray[i]?=some ((vs[i / k.k]).cells.toList[i % k.k]):=by rw[List.getElem?_toArray];exact e9
    rw[e8,<-Array.getElem?_toList,zA0 Ab]
   .
    rw[if_neg (by rw[hl,zJ2];rintro⟨_,h9⟩;exact hi' h9),Array.getElem?_eq_none Q29,Array.getElem?_eq_none (by simp only[List.size_toArray];omega)]
  have hbig:¬n*i0.size > 2 ^ 24:=by
   rw[e3]
   have:n*k.k<=1000*6:=Nat.mul_le_mul hn hkb
   omega
  have h0:¬n*i0.size=0:=by
   rw[e3];intro h9
   rcases Nat.mul_eq_zero.1 h9 with h9|h9 <;> omega
  have:=run_buildSlice (P:=Tryz.prog) w T k.ty n ps r i0 z hT e1 e2 hbig h0 (by rw[e3,hp];exact hr)
  rw[this,hre]
theorem sT (h:Kn C U A S B X τ V w){T n:Nat}{ps:Array (Nat × Operand)}(hx:∀p ∈ ps.toList,Opd A S B X τ V a p.2){u:Out}(hu:cK G A ⟨d,.buildSlice T n ps,ty,pos,aft,gd⟩=some u)(hn:∀q,q<u.ns.length->¬S (A.sy.length+q)):dW C U A ⟨d,.buildSlice T n ps,ty,pos,aft,gd⟩ u S B X τ V a w:=by
 simp only[cK]at hu
 split at hu
 .
  rename_i k hk
  split at hu
  .
   rename_i hc
   simp only[zC0,beq_iff_eq,zE3]at hc;obtain⟨⟨⟨hT,hl⟩,hp⟩,Aj⟩:=hc;cases hu;obtain⟨e1,e2⟩:=rH h hp hx
   have hxl:(ps.toList.map fun p=>(a.eval p.2).cells.toList).length=n:=by rw[zB2];exact hl
   obtain⟨τ',hm,hsv,hsub⟩:=h.fr.row hxl e2 Aj
   have hrun:=aLa (n:=n) (ps:=ps.map fun (i,x)=>(i,a.eval x)) (vs:=ps.toList.map fun p=>a.eval p.2) (aPw hT) (by rw[zB2];exact hl) Aj (by rw[Array.toList_map];exact e1) (fun v hv=>by
    obtain⟨p,hp1,rfl⟩:=zE1.1 hv
    have:=(e2 _ (zE1.2 ⟨p,hp1,rfl⟩)).length
    simpa using this) w
   rw[List.map_map]at hrun
   have hV:(V.add A.sy.length [.slice (some ⟨w.heap.size,0,none⟩) n n]).ρ A.sy.length=.slice (some ⟨w.heap.size,0,none⟩) n n:=Vl.add_at (q:=0) rfl
   have hag:∀s',S s'->(V.add A.sy.length [.slice (some ⟨w.heap.size,0,none⟩) n n]).ρ s'=V.ρ s':=fun s' hs'=>Vl.add_ne (fun q hq e9=>by
    subst e9
    exact hn q Q65 hs')
   refine dW.val (v:=.slice (some ⟨w.heap.size,0,none⟩) n n) (by simp only[execOp,Sem.run_bind,hrun,Result.andThen_ok];rfl) (Res.mv (V':=V.add A.sy.length [.slice (some ⟨w.heap.size,0,none⟩) n n]) h hm (fun _ b s hb _=>((zD2 w.heap.size w).alloc (zB0 _) _).block b (h.fr.th.lt hb)) rfl rfl hag (fun _ _=>rfl) (fun _ _=>rfl) (fun q f hq=>?_) hV.symm (fun c hc=>by cases hc))
   cases q with
   | succ q=>simp[at?]at hq
   | zero=>
    simp only[at?,zG2]at hq;subst hq;rw[zG1,hV]
    exact⟨hsv,zB0 _,zB0 _,(fun _ _ g hg=>by cases hg;exact h.fr.size),(fun h9=>by cases h9),(fun h9 a' n' c' e9=>by cases e9;simpa using h9),(fun s h9=>by cases h9)⟩
  .
   cases hu
 .
  cases hu
theorem jR {c:Nat}{us:List Value}(hn:∀q,q<us.length->¬S (c+q)):∀s,S s->(V.add c us).ρ s=V.ρ s:=fun s hs=>Vl.add_ne (fun q hq e=>by subst e;exact hn q hq hs)
theorem wF {u:Out}{T:Nat}{l:List CV}{vs:List Value}(h:Kn C U A S B X τ V w)(hnB:¬B A.bk.length)(hr:u.r=.c (.ptr A.bk.length 0))(hnb:u.nb=some (.cells T l))(hup:u.up=none)(hnc:u.nc=[])(hnx:V'.ι=V.ι)(hβ:V'.β=fun n=>if n=A.bk.length then w.heap.size else V.β n)(hρ:∀s,S s->V'.ρ s=V.ρ s)(hns:∀q f,at? u.ns q=some f->f.ok C U τ V' (V'.ρ (A.sy.length+q)))(hl:iD V' l vs):
  Res C U A u S B X τ V w (.pointer (some ⟨w.heap.size,0,none⟩)) τ V' (w.alloc (.cells vs.toArray T (0,0))):=by
 have m:=h.fr.alloc (.cells vs.toArray T (0,0))
 have hbn:V'.β A.bk.length=w.heap.size:=by rw[hβ];exact if_pos rfl
 have hbo:∀n,B n->V'.β n=V.β n:=fun n hn=>by rw[hβ];exact if_neg (by rintro rfl;exact hnB hn)
 have hi:∀c,X c->V'.ι c=V.ι c:=fun c _=>by rw[hnx]
 refine⟨m.fr,m.sub,m.size,m.non,fun _ b s hb _=>((zD2 w.heap.size w).alloc (zB0 _) _).block b (h.fr.th.lt hb),fun _=>m.tg,hρ,hbo,hi,hns, ?_,fun n x hn hx _=>h.blkOn hρ hbo hi hn hx fun b hb=>?_,fun n l T x e=> Q62,fun x e=>?_,fun c hc=>(by rw[hnc]at hc;cases hc)⟩
 .
  rw[hr]
  show Value.pointer _=Value.pointer _
  rw[hbn]
 .
  obtain⟨_,_,h2,_⟩:=h.bk n x hx hn;exact .inl (((zD2 w.heap.size w).alloc (zB0 _) _).block b Q0)
 .
  rw[hnb]at e;cases e;rw[hbn]
  exact⟨⟨vs,Blk.new w T vs,hl⟩,h.fr.th.fresh (zB0 _),zB0 _,by simp,by simp⟩
theorem aHr {T n b:Nat}{z:Value}(hi:(Tryz.prog.info? T).map (fun i=>(i.zero,i.size,i.bytes))=some (some z,n,b))(w:World):(zeroValue T).run Tryz.prog w=.ok z w:=by
 obtain⟨i0,e1,e2,e3,e4⟩:=info_parts hi
 simp[zeroValue,typeInfo,e1,e2,go_sem]
theorem zL (h:Kn C U A S B X τ V w){T:Nat}{u:Out}(hu:cK G A ⟨d,.alloc T,ty,pos,aft,gd⟩=some u)(hnB:¬B A.bk.length):dW C U A ⟨d,.alloc T,ty,pos,aft,gd⟩ u S B X τ V a w:=by
 simp only[cK]at hu
 split at hu
 .
  rename_i z ds hz
  cases hu;obtain⟨fs,b,cs,hu1,_,_,hi,hcs,habs,_,hpl⟩:=aJu wM hz
  have hz0:∀V:Vl,iD V z cs.toList:=fun V=>by rw[<-habs];exact tQ V _
  refine dW.val (v:=.pointer (some ⟨w.heap.size,0,none⟩)) (w':=w.alloc (.cells cs.toList.toArray T (0,0))) ?_ (wF (V':={ V with β:=fun n=>if n=A.bk.length then w.heap.size else V.β n }) h hnB rfl rfl rfl rfl rfl rfl (fun _ _=>rfl) (fun q f hq=> Q79) (hz0 _))
  simp only[execOp,Instr.alloc,Sem.run_bind,aHr hi,Result.andThen_ok,newVar,newRow,newObj,Sem.run,Value.cells]
  rfl
 .
  cases hu
theorem wT {τ:Sm}:∀{r:List Fd} {us:List Value} (c:Nat),RV τ r us->∃news:List Value,news.length=(aCb c r).2.length/\∀V':Vl,(∀q u,news[q]?=some u->V'.ρ (c+q)=u)->iD V' (aCb c r).1 us/\∀q f,at? (aCb c r).2 q=some f->f.ok C U τ V' (V'.ρ (c+q))
 | [],us,c,h=>⟨[],rfl,fun V' _=>⟨h,fun q f hq=>by simp[aCb,at?]at hq⟩⟩
 | f :: r,_,c,⟨v,us,e,h1,h2⟩=>by
  subst e
  cases hl:isL f with
  | false=>
   have h0:(rdF c false f).2=[]:=by cases f <;> first|rfl|(cases hl)
   obtain⟨news,hn,hh⟩:=wT (r:=r) (us:=us) c h2
   refine⟨news,by simp only[aCb,h0,zC3,zG1,List.nil_append];exact hn,fun V' hV=>?_⟩
   obtain⟨a1,a2⟩:=hh V' hV
   have a3:=yX (C:=C) (U:=U) (V:=V') h1 c false (fun h9=>by cases h9) (fun h9=>by rw[hl]at h9;cases h9)
   simp only[aCb,h0,zC3,zG1,List.nil_append];exact⟨⟨v,us,rfl,a3.1,a1⟩,a2⟩
  | true=>
   have h0:(rdF c false f).2.length=1:=by cases f <;> first|rfl|(cases hl)
   obtain⟨news,hn,hh⟩:=wT (r:=r) (us:=us) (c+1) h2
   refine⟨v :: news,by simp only[aCb,h0,zB1,zA1];omega,fun V' hV=>?_⟩
   have hv:V'.ρ c=v:=hV 0 v rfl
   obtain⟨a1,a2⟩:=hh V' (fun q u hq=>by have:=hV (q+1) u hq;rwa [show c+1+q=c+(q+1) by omega])
   have a3:=yX (C:=C) (U:=U) (V:=V') h1 c false (fun h9=>by cases h9) (fun _=>hv)
   simp only[aCb,h0]
   refine⟨⟨v,us,rfl,a3.1,a1⟩,fun q g hq=>?_⟩
   rw[eK]at hq
   cases q with
   | zero=>
    rw[List.getElem?_append_left Q0,<-eK]at hq;obtain⟨_,_,a4⟩:=a3.2 0 g hq;rw[zG1,hv];exact a4
   | succ q=>
    rw[List.getElem?_append_right Q0,h0,Nat.add_sub_cancel,<-eK]at hq
    have:=a2 q g hq
    rwa [show c+(q+1)=c+1+q by omega]
theorem rW (h:Kn C U A S B X τ V w)(hS:aG4 V S){x:AV}{v:Value}{vs:List CV}{ns:List SF}(hx:x.ok τ V v)(hs:∀s ∈ x.sy,S s)(hc:cellsOf A.sy.length x=some (vs,ns))(ho:vs.all xN=true)(hn:∀q,q<ns.length->¬S (A.sy.length+q)):
  ∃news:List Value,news.length=ns.length/\iD (V.add A.sy.length news) vs v.cells.toList/\(∀q f,at? ns q=some f->f.ok C U τ (V.add A.sy.length news) ((V.add A.sy.length news).ρ (A.sy.length+q)))/\∀u ∈ v.cells.toList,u.oneCell'=true:=by
 have ones:∀{l:List CV} {us:List Value},iD V l us->l.all xN=true->(∀s ∈ l.flatMap CV.sy,S s)->∀u ∈ us,u.oneCell'=true:=by
  intro l
  induction l with
  | nil=>intro us h1 _ _ u hu;rw[show us=[] from h1]at hu;cases hu
  | cons y l ih=>
   rintro _ ⟨v,us,rfl,h1,h2⟩ h3 h4 u hu;simp only[List.all_cons,zC0]at h3
   rcases zG3.1 hu with rfl|hu
   .
    exact(aGb h h3.1 h1 (fun s hm=>h4 s Q30) (fun s e=>hS s (h4 s (by rw[List.flatMap_cons,e];simp[CV.sy])))).2
   .
    exact ih h2 h3.2 (fun s hm=>h4 s Q28) u hu
 have add0:V.add A.sy.length []=V:=by
  unfold Vl.add
  congr 1
  funext s
  simp
 cases x with
 | c y=>
  simp only[cellsOf,zG2,Prod.mk.injEq]at hc;obtain⟨rfl,rfl⟩:=hc;simp only[List.all_cons,List.all_nil,Bool.and_true]at ho
  obtain⟨h1,h1'⟩:=aGb h ho hx hs (fun s e=>hS s (hs s (by simp[AV.sy,e,CV.sy])))
  refine⟨[],rfl, ?_,(fun q f hq=>by simp[at?]at hq), ?_⟩
  .
   rw[h1,add0];exact⟨v,[],rfl,hx,rfl⟩
  .
   rw[h1];intro u hu;simp only[List.mem_singleton]at hu;subst hu;exact h1'
 | agg l=>
  simp only[cellsOf,zG2,Prod.mk.injEq]at hc;obtain⟨rfl,rfl⟩:=hc;obtain⟨us,rfl,h1⟩:=hx
  refine⟨[],rfl, ?_,(fun q f hq=>by simp[at?]at hq), ?_⟩
  .
   rw[add0];exact h1
  .
   exact ones h1 ho hs
 | rc t=>
  simp only[cellsOf]at hc
  split at hc
  .
   simp only[zG2]at hc;obtain⟨us,rfl,h1⟩:=hx;obtain⟨news,e1,e2⟩:=wT (C:=C) (U:=U) A.sy.length h1;rw[hc]at e1 e2
   obtain⟨a1,a2⟩:=e2 (V.add A.sy.length news) (fun q u hq=>Vl.add_at hq)
   exact⟨news,e1,a1,a2,h1.one⟩
  .
   cases hc
 | tup _ _=>cases hc
end
end Eg
namespace Eg
section
variable {C:Cx} {U:Value->Prop} {G:Cfg} {A:AS} {S B X:Nat->Prop} {τ τ':Sm} {V V':Vl} {a:Act} {w w':World} {d:Option Nat} {ty:TypeId} {pos:String} {aft:Array Edge} {gd:Option (Nat × Bool)}
theorem aIg {T o:Nat}{x:CV}{v:Value}(h:x.ok V v):(loose T o x).ok V v:=by
 unfold loose
 split
 .
  split
  .
   rename_i hc
   simp only[zC0,zE3]at hc;obtain⟨n,e,h1,h2⟩:=h
   exact⟨n,e,by omega,by omega⟩
  .
   exact h
 .
  exact h
theorem pZ {T:Nat}:∀{o:Nat} {l:List CV} {vs:List Value},iD V l vs->iD V (vG T o l) vs
 | _,[],_,h=>h
 | o,x :: l,_,⟨v,us,e,h1,h2⟩=>⟨v,us,e,aIg h1,pZ h2⟩
theorem aD3 {T n:Nat}(h:cells T=some n)(w:World):(sizeOf T).run Tryz.prog w=.ok n w:=by
 by_cases hn:n=1
 .
  subst hn;obtain⟨_,i,_,_,_,hi,hs⟩:=aQc aNk (wB h)
  simp[sizeOf,typeInfo,hi,hs,go_sem]
 .
  obtain⟨z,ds,h1,h2⟩:=nT h hn;obtain⟨fs,b,cs,_,_,_,hi,_⟩:=aJu wM h1;rw[<-h2];exact lC hi w
theorem aOl (h:Kn C U A S B X τ V w)(hS:aG4 V S){T:Nat}{x:Operand}(hx:Opd A S B X τ V a x){u:Out}(hu:cK G A ⟨d,.box T x,ty,pos,aft,gd⟩=some u)(hnB:¬B A.bk.length)(hn:∀q,q<u.ns.length->¬S (A.sy.length+q)):dW C U A ⟨d,.box T x,ty,pos,aft,gd⟩ u S B X τ V a w:=by
 simp only[cK]at hu
 split at hu
 .
  rename_i n vs ns hT hc
  split at hu
  .
   rename_i hh
   simp only[zC0,beq_iff_eq,zE3]at hh;cases hu;obtain⟨news,e1,e2,e3,e4⟩:=rW h hS hx.1 hx.2.1 hc hh.2 hn
   have hag:=jR (V:=V) (S:=S) (c:=A.sy.length) (us:=news) (fun q hq=>hn q (by rw[<-e1];exact hq))
   have tr:∀{l:List CV} {us:List Value},iD (V.add A.sy.length news) l us->(∀b ∈ l.flatMap CV.bs,b ≠ A.bk.length)->iD { V.add A.sy.length news with β:=fun n=>if n=A.bk.length then w.heap.size else V.β n } l us:=fun h9 hb9=>iD.on h9 (fun _ _=>rfl) (fun b hb=>if_neg (hb9 b hb)) (fun _ _=>rfl)
   have hbs:∀b ∈ vs.flatMap CV.bs,b ≠ A.bk.length:=by
    intro b hb e9;subst e9
    cases hav:A.ev x with
    | c y=>rw[hav]at hc;simp only[cellsOf,zG2,Prod.mk.injEq]at hc;obtain⟨rfl,rfl⟩:=hc;exact hnB (hx.2.2.1 _ (by rw[hav];simpa [AV.bs] using hb))
    | agg l=>rw[hav]at hc;simp only[cellsOf,zG2,Prod.mk.injEq]at hc;obtain⟨rfl,rfl⟩:=hc;exact hnB (hx.2.2.1 _ (by rw[hav];exact hb))
    | rc t=>
     rw[hav]at hc;simp only[cellsOf]at hc
     split at hc
     .
      simp only[zG2]at hc
      have:∀(r:List Fd) (c:Nat),(aCb c r).1.flatMap CV.bs=[]:=by
       intro r
       induction r with
       | nil=>intro c;rfl
       | cons f r ih=>intro c;simp only[aCb,List.flatMap_cons,ih,List.append_nil];cases f <;> rfl
      have h9:=this (Dt t).2 A.sy.length;rw[hc]at h9;rw[h9]at hb;cases hb
     .
      cases hc
    | tup _ _=>rw[hav]at hc;cases hc
   refine dW.val (v:=.pointer (some ⟨w.heap.size,0,none⟩)) (w':=w.alloc (.cells (a.eval x).cells.toList.toArray T (0,0))) ?_ (wF (V':={ V.add A.sy.length news with β:=fun n=>if n=A.bk.length then w.heap.size else V.β n }) h hnB rfl rfl rfl rfl rfl rfl hag (fun q f hq=>SF.on (e3 q f hq) (Sub.refl _) (fun _ _=>rfl)) (pZ (tr e2 hbs)))
   simp only[execOp,Instr.box,Sem.run_bind,newVar,newRow,newObj,Sem.run,Result.andThen_ok]
   rfl
  .
   cases hu
 .
  cases hu
def aCa:List Value->Nat->List Value->List Value
 | l,_,[]=>l
 | l,o,v :: r=>aCa (l.set o v) (o+1) r
theorem aD4:∀{xs:List CV} {us:List Value},iD V xs us->∀{l:List CV} {vs:List Value} (o:Nat),iD V l vs->iD V (aOb l o xs) (aCa vs o us)
 | [],_,h,l,vs,o,hl=>by rw[show _=[] from h];exact hl
 | x :: xs,_,⟨v,us,e,h1,h2⟩,l,vs,o,hl=>by
  subst e
  show iD V (aOb (put l o x) (o+1) xs) (aCa (vs.set o v) (o+1) us)
  rw[aEe];exact aD4 h2 (o+1) (iD.set hl o h1)
theorem pL:∀(us:List Value) (vs:List Value) (o:Nat),(aCa vs o us).length=vs.length
 | [],_,_=>rfl
 | v :: us,vs,o=>by rw[aCa,pL,List.length_set]
theorem aA0 {g T:Nat}:∀(us:List Value) (w:World) (vs:List Value) (o:Nat),Blk w g T vs->Blk (w.setCells g o us) g T (aCa vs o us)
 | [],_,_,_,h=>h
 | v :: us,w,vs,o,h=>by
  rw[World.setCells,aCa];exact aA0 us _ _ (o+1) (h.set (i:=o) v)
theorem aEu (h:Kn C U A S B X τ V w)(hS:aG4 V S){T n b p:Nat}{x y:Operand}{T':Nat}{l vs:List CV}{ns:List SF}(hx:Opd A S B X τ V a x)(hy:Opd A S B X τ V a y)(hT:cells T=some n)(hv:A.ev x=.c (.ptr b p))(hb:at? A.bk b=some (.cells T' l))(hc:cellsOf A.sy.length (A.ev y)=some (vs,ns))(hl:vs.length=n)(hp:p+n<=l.length)(ho:vs.all xN=true)(hn:∀q,q<ns.length->¬S (A.sy.length+q)):
  dW C U A ⟨d,.store T x y,ty,pos,aft,gd⟩ { r:=.c .und,ns:=ns,up:=some (b,aOb l p (vG T' p vs)) } S B X τ V a w:=by
 obtain⟨h1,_,h3,_⟩:=hx;rw[hv]at h1 h3
 have hB:B b:=h3 b Q57
 obtain⟨⟨vb,hbl,hal⟩,hnone,Aj,hK⟩:=h.bk b _ hb hB;obtain⟨news,e1,e2,e3,e4⟩:=rW h hS hy.1 hy.2.1 hc ho hn
 have hag:=jR (V:=V) (S:=S) (c:=A.sy.length) (us:=news) (fun q hq=>hn q (by rw[<-e1];exact hq))
 have Ab:(a.eval y).cells.toList.length=n:=by rw[e2.length];exact hl
 have hvl:=hal.length
 have hrun:(execOp a.eval ⟨d,.store T x y,ty,pos,aft,gd⟩).run Tryz.prog w=.ok .skip (w.setCells (V.β b) p (a.eval y).cells.toList):=by
  have hst:=run_storeCells_cells (P:=Tryz.prog) (V.β b) p (a.eval y).cells.toList 0 w (fun j hj=>by
   rw[zG1];rw[hbl.cell (i:=p+j) (zA0 Q0)]
   rfl) (fun j hj=>hbl.free _) e4
  simp only[zG1]at hst
  have Am:(a.eval y).cells.size=n:=by simpa using Ab
  have e9:a.eval x=.pointer (some ⟨V.β b,p,none⟩):=h1
  simp only[execOp,e9,Instr.storeAt,Instr.sureAddr,storeVar,Sem.run_bind,Sem.run_pure,Result.andThen_ok,aD3 hT,Am,ne_eq,not_true,if_false,hst]
 have hoth:=fun k (hk:k ≠ V.β b)=>bK (V.β b) (a.eval y).cells.toList p w k hk
 have hsame:=gC (V.β b) (a.eval y).cells.toList p w
 have ht:∀q s,τ q=some s->q ≠ V.β b:=by rintro q s hq rfl;rw[hnone]at hq;cases hq
 have m:Mv C [V.β b] τ w τ (w.setCells (V.β b) p (a.eval y).cells.toList):=h.fr.step [V.β b] (h.fr.th.on fun q s hq=>hoth q (ht q s hq)) (Sub.refl _) hsame.1 hsame.2.1 hsame.2.2.1 Q70 (fun _ _ h9=>h9) (fun q _ _ hq=>hoth q Q65) (fun _ q _ hq=>⟨rfl,hoth q (by
   cases e9:τ q with
   | none=>exact absurd e9 hq
   | some s=>exact ht q s e9)⟩) (fun q hq hlt9=>by
   rw[List.mem_singleton.1 hq]at hlt9 ⊢
   rcases hK with hK|hK
   .
    exact hK
   .
    omega) (fun h9=>h9)
 refine dW.unit hrun ⟨m.fr,m.sub,m.size,m.non,fun _ q s hq _=>hoth q (ht q s hq),fun _=>m.tg,hag,fun _ _=>rfl,fun _ _=>rfl,e3,rfl,fun k z hk hz Aw=>?_,fun k l' T2 z e he hk=>?_,fun z e=>(by cases e),fun c hc=>(by cases hc)⟩
 .
  have hkb:k ≠ b:=by rintro rfl;exact Aw _ rfl
  have hβ:=h.dj k b z _ hz hb hk hB hkb
  refine h.blkOn hag (fun _ _=>rfl) (fun _ _=>rfl) hk hz fun q hq=>?_
  by_cases hq2:q=V.β b
  .
   subst hq2
   cases z with
   | cells T3 l3=>exact .inr ⟨by simp,Ne.symm hβ⟩
   | cur=>
    exfalso
    obtain⟨z1,z2⟩:=h.lo k hz hk
    have:=(z2 (V.β b) Q0).2
    rcases hK with hK|hK
    .
     exact this hK
    .
     omega
  .
   exact .inl (hoth q hq2)
 .
  simp only[zG2,Prod.mk.injEq]at e;obtain⟨rfl,rfl⟩:=e;rw[hb]at he;cases he;obtain⟨c1,c2,c3⟩:=h.bc b _ hb hB
  exact⟨_,aA0 _ w vb p hbl,aD4 (pZ e2) p (iD.on hal (fun s hs=>hag s (c1 s hs)) (fun _ _=>rfl) (fun _ _=>rfl))⟩
end
end Eg
theorem U84{p:Prop}(h:p:=by
 exact⟨_,Res.typed h rfl rfl rfl rfl rfl rfl (by rw[hso];simp) m.fr m.sub m.non (fun _=>m.tg)⟩):p:=h
namespace Eg
section
variable {C:Cx} {U:Value->Prop} {G:Cfg} {A:AS} {S B X:Nat->Prop} {τ τ':Sm} {V V':Vl} {a:Act} {w w':World} {d:Option Nat} {ty:TypeId} {pos:String} {aft:Array Edge} {gd:Option (Nat × Bool)}
theorem sG:∀(us vs:List Value) (o z:Nat),o+us.length<=vs.length->(aCa vs o us)[z]?=if o<=z/\z<o+us.length then us[z-o]? else vs[z]?
 | [],vs,o,z,_=>by rw[if_neg Q9];rfl
 | u :: us,vs,o,z,h=>by
  simp only[zB1]at h ⊢
  rw[aCa,sG us (vs.set o u) (o+1) z (by rw[List.length_set];omega)]
  by_cases h1:o+1<=z/\z<o+1+us.length
  .
   rw[if_pos h1,if_pos Q0,show z-o=(z-(o+1))+1 by omega,List.getElem?_cons_succ]
  .
   rw[if_neg h1]
   by_cases h2:z=o
   .
    subst h2;rw[if_pos Q0,Nat.sub_self,List.getElem?_cons_zero,List.getElem?_set_self Q0]
   .
    rw[if_neg Q0,List.getElem?_set_ne Q0]
theorem pJ (h:Kn C U A S B X τ V w){b j i p:Nat}{so:So}{cs vs:List Value}{q:Bool}(hb:τ b=some so)(hbt:so.k ≠ .bt)(hi:j+i<so.u)(Ai:EV τ so.q so.k vs)(Bg:∀z u,vs[z]?=some u->w.cell? ⟨b,(j+i)*so.k.k+z,none⟩=some u)(hp:p+cs.length<=so.k.k)(hq:so.q=true->q=true)(hnew:EV τ q so.k (aCa vs p cs))(hown:C.st=true->C.w0.heap.size<=b)(h1:∀u ∈ cs,u.oneCell'=true):
  Mv C [] τ w (upd τ b { so with q:=q }) (w.setCells b ((j+i)*so.k.k+p) cs)\/q=true/\so.q=false/\Fr C (upd τ b { so with q:=q }) (w.setCells b ((j+i)*so.k.k+p) cs)/\Sub τ (upd τ b { so with q:=q })/\(∀g,g<w.heap.size->τ g=none->upd τ b { so with q:=q } g=none):=by
 have hR:=h.fr.th b so hb;obtain⟨cb,fl,hbl,hfl,Am⟩:=hR.blk
 obtain rfl:=hfl hbt
 have hvl:=Ai.length
 have Aj:∀z,z<cs.length->(j+i)*so.k.k+p+z<cb.size:=fun z hz=>by
  rw[Am]
  have h9:(j+i+1)*so.k.k<=so.c*so.k.k:=Nat.mul_le_mul_right _ (by have:=hR.u;omega)
  rw[Nat.add_mul]at h9
  omega
 have hin:=World.cell?_setCells_in b cs ((j+i)*so.k.k+p) w (fun z hz=>nU hbl (Aj z hz))
 obtain⟨cb',hb',hsz'⟩:=jH b so.k.ty cs ((j+i)*so.k.k+p) w cb hbl;have hsame:=gC b cs ((j+i)*so.k.k+p) w
 have hsub:Sub τ (upd τ b { so with q:=q }):=fun g s hg=>by
  by_cases e:g=b
  .
   subst e;rw[hb]at hg;cases hg;exact⟨_,oB _ _ _,rfl,rfl,zB0 _⟩
  .
   exact⟨s,(iH e).trans hg,rfl,rfl,zB0 _⟩
 have Aw:∀g,τ g=none->g ≠ b:=by rintro g hg rfl;rw[hb]at hg;cases hg
 have hrow:aKq (upd τ b { so with q:=q }) (w.setCells b ((j+i)*so.k.k+p) cs) b { so with q:=q }:=by
  refine⟨⟨cb',(0,0),hb',fun _=>rfl,hsz'.trans Am⟩,hR.u,hR.c,fun e he=>?_⟩
  change e<so.u at he
  by_cases hej:e=j+i
  .
   subst hej
   refine⟨aCa vs p cs,(pL _ _ _).trans hvl,hnew.sub hsub,fun z u hu=>?_⟩
   rw[sG cs vs p z Q0]at hu
   split at hu
   .
    rename_i hz
    have h9:=hin (z-p) Q0;have e9:(j+i)*so.k.k+p+(z-p)=(j+i)*so.k.k+z:=Q0;rw[e9]at h9;obtain⟨h10,h11⟩:=zC1.1 hu;rw[<-h11];exact h9
   .
    rename_i hz
    have hzl:=(zC1.1 hu).1
    show(w.setCells b _ cs).cell? ⟨b,(j+i)*so.k.k+z,none⟩=some u
    rw[World.cell?_setCells_out b _ _ w _ (fun _ _=>by
     show(j+i)*so.k.k+z<(j+i)*so.k.k+p\/(j+i)*so.k.k+p+cs.length<=(j+i)*so.k.k+z
     omega)]
    exact Bg z u hu
  .
   obtain⟨ws,w1,w2,w3⟩:=hR.el e he
   have w2':EV τ q so.k ws:=by
    cases hsq:so.q with
    | false=>rw[hsq]at w2;exact w2.loose
    | true=>rw[hsq]at w2;rw[hq hsq];exact w2
   refine⟨ws,w1,w2'.sub hsub,fun z u hu=>?_⟩
   have hzl:=(zC1.1 hu).1
   show(w.setCells b _ cs).cell? ⟨b,e*so.k.k+z,none⟩=some u
   rw[World.cell?_setCells_out b _ _ w _ (fun _ _=>by
    show e*so.k.k+z<(j+i)*so.k.k+p\/(j+i)*so.k.k+p+cs.length<=e*so.k.k+z
    rcases zJ3 e (j+i) with h9|h9
    .
     left
     have:(e+1)*so.k.k<=(j+i)*so.k.k:=Nat.mul_le_mul_right _ Q0
     rw[Nat.add_mul]at this
     omega
    .
     right
     have:(j+i+1)*so.k.k<=e*so.k.k:=Nat.mul_le_mul_right _ Q0
     rw[Nat.add_mul]at this
     omega)]
   exact w3 z u hu
 have hth:=h.fr.th.upd hsub (fun g hg _=>bK b cs _ w g hg) hrow
 have hnon:∀g,g<w.heap.size->τ g=none->upd τ b { so with q:=q } g=none:=fun g _ hg=>(iH (Aw g hg)).trans hg
 have step:(Tg τ->Tg (upd τ b { so with q:=q }))->Mv C [] τ w (upd τ b { so with q:=q }) (w.setCells b ((j+i)*so.k.k+p) cs):=fun htg=>
  h.fr.step [] hth hsub hsame.1 hsame.2.1 hsame.2.2.1 Q70 hnon (fun g _ hg _=>bK b cs _ w g (Aw g hg)) (fun hst g hlt9 _=>by
   have hgb:g ≠ b:=by rintro rfl;have:=hown hst;omega
   exact⟨iH hgb,bK b cs _ w g hgb⟩) (fun _ h9=>by cases h9) htg
 by_cases hqq:q=so.q
 .
  exact .inl (step fun ht=>ht.upd (by show q=false;rw[hqq];exact ht b so hb))
 .
  right
  have hsq:so.q=false:=by cases e:so.q with|false=>rfl|true=>rw[hq e,e]at hqq;exact absurd rfl hqq
  have hqt:q=true:=by cases e:q with|true=>rfl|false=>rw[e,hsq]at hqq;exact absurd rfl hqq
  have st:C.st=true\/C.st=false:=by cases C.st <;> simp
  refine⟨hqt,hsq, ?_,hsub,hnon⟩;have hF:=h.fr
  exact⟨hth,hF.sub.trans hsub,hsame.1.trans hF.os,hsame.2.1.trans hF.tape,hsame.2.2.1.trans hF.output,by rw[hsame.2.2.2];exact hF.size,fun g hg hn=>hnon g (Nat.lt_of_lt_of_le hg hF.size) (hF.non g hg hn),fun g hg hn hk=>(bK b cs _ w g (Aw g (hF.non g hg hn))).trans (hF.blk g hg hn hk),fun hst g hg hn=>by
   have hgb:g ≠ b:=by rintro rfl;have:=hown hst;omega
   obtain⟨a1,a2⟩:=hF.str hst g hg hn
   exact⟨(iH hgb).trans a1,(bK b cs _ w g hgb).trans a2⟩⟩
theorem Res.typed {u:Out}(h:Kn C U A S B X τ V w)(hr:u.r=.c .und)(hns:u.ns=[])(hnb:u.nb=none)(hup:u.up=none)(hnc:u.nc=[])(hnq:u.nq=true){b o:Nat}{cs:List Value}(hbt:τ b ≠ none)(fr:Fr C τ' (w.setCells b o cs))(sub:Sub τ τ')(non:∀g,g<w.heap.size->τ g=none->τ' g=none)(tg:u.br=false->Tg τ->Tg τ'):Res C U A u S B X τ V w undef τ' V (w.setCells b o cs):=by
 have hsame:=gC b cs o w
 refine⟨fr,sub,by rw[hsame.2.2.2];exact zB0 _,non,fun h9=>(by rw[hnq]at h9;cases h9),tg,fun _ _=>rfl,fun _ _=>rfl,fun _ _=>rfl,fun q f hq=>(by rw[hns]at hq;simp[at?]at hq),by rw[hr];rfl,fun n x hn hx _=>h.blkOn (fun _ _=>rfl) (fun _ _=>rfl) (fun _ _=>rfl) hn hx fun g hg=>?_,fun n l T x e=> Q62,fun x e=> Q71,fun c hc=>(by rw[hnc]at hc;cases hc)⟩
 obtain⟨_,h1,h2,_⟩:=h.bk n x hx hn
 by_cases e:g=b
 .
  subst e
  cases x with
  | cells T l=>exact .inr ⟨by simp,by rintro rfl;exact hbt h1⟩
  | cur=>
   exfalso
   rcases Nat.lt_or_eq_of_le hg with Aj|heq
   .
    exact hbt ((h.lo n hx hn).2 g Aj).1
   .
    rw[heq]at hbt;exact hbt h1
 .
  exact .inl (bK b cs o w g e)
theorem uH {T n b p:Nat}{x y:Operand}(hT:cells T=some n)(hv:a.eval x=.pointer (some ⟨b,p,none⟩))(hl:(a.eval y).cells.toList.length=n)(hc:∀j,j<n->(w.cell? ⟨b,p+j,none⟩).isSome=true)(hf:∀j,j<n->w.frozen? ⟨b,p+j,none⟩=false)(h1:∀u ∈ (a.eval y).cells.toList,u.oneCell'=true):(execOp a.eval ⟨d,.store T x y,ty,pos,aft,gd⟩).run Tryz.prog w=.ok .skip (w.setCells b p (a.eval y).cells.toList):=by
 have hst:=run_storeCells_cells (P:=Tryz.prog) b p (a.eval y).cells.toList 0 w (fun j hj=>by rw[zG1];exact hc j Q0) (fun j hj=>by rw[zG1];exact hf j Q0) h1
 simp only[zG1]at hst
 have Am:(a.eval y).cells.size=n:=by simpa using hl
 simp only[execOp,hv,Instr.storeAt,Instr.sureAddr,storeVar,Sem.run_bind,Sem.run_pure,Result.andThen_ok,aD3 hT,Am,ne_eq,not_true,if_false,hst]
theorem aH4 (h:Kn C U A S B X τ V w)(hS:aG4 V S)(hCG:C.st=G.st){T:Nat}{x y:Operand}(hx:Opd A S B X τ V a x)(hy:Opd A S B X τ V a y){u:Out}(hu:cK G A ⟨d,.store T x y,ty,pos,aft,gd⟩=some u)(hn:∀q,q<u.ns.length->¬S (A.sy.length+q)):dW C U A ⟨d,.store T x y,ty,pos,aft,gd⟩ u S B X τ V a w:=by
 simp only[cK]at hu
 have own:∀(s:Nat) (g:SF) (b o n c:Nat),at? A.sy s=some g->S s->(g.own || !G.st)=true->V.ρ s=.slice (some ⟨b,o,none⟩) n c->C.st=true->C.w0.heap.size<=b:=by
  intro s g b o n c hg hs ho e hst;rw[hCG]at hst;rw[hst]at ho
  have:=(h.sy s g hg hs).2.2.2.1 (by simpa using ho) (by rw[hCG];exact hst) b (by rw[e];rfl)
  exact this
 split at hu
 .
  rename_i n b p v hT e
  split at hu
  .
   rename_i T' l vs ns hb hc
   split at hu
   .
    rename_i hh
    simp only[zC0,beq_iff_eq,zE3]at hh;cases hu;exact aEu h hS hx hy hT e hb hc hh.1.1 hh.1.2 hh.2 hn
   .
    cases hu
  .
   cases hu
 .
  rename_i s t ix p v hT e1 e2
  split at hu
  .
   rename_i f g hf hg
   split at hu
   .
    rename_i hh
    simp only[zC0]at hh;obtain⟨⟨⟨hfit,ho⟩,htn⟩,hkd⟩:=hh;cases hu;obtain⟨h1,h2,_⟩:=hx;obtain⟨h3,h4,_⟩:=hy;rw[e1]at h1 h2;rw[e2]at h3 h4
    have hSs:S s:=h2 s Q33
    obtain⟨g',hg',Ao⟩:=aCr hkd;obtain⟨b,j,n,c,i,e3,e4,e5,_⟩:=id h1;obtain⟨so,vs,hso,hsk,hui,hev,Bg⟩:=rT h hSs hg' Ao e3 e4;have hfv:=oJ h h3 h4 hfit
    have hvc:(a.eval y).cells.toList=[a.eval y]:=by
     have:=hfv.one
     have h9:(a.eval y).cells=#[a.eval y]:=by
      generalize a.eval y=vv at *
      cases vv <;> first|rfl|(simp[Value.oneCell']at this)
     rw[h9]
    rw[eK]at hf
    have hpl:p<(Lt t).length:=(zC1.1 hf).1
    have An:so.k.k=(Lt t).length:=by rw[hsk];exact(wH t).symm
    have hvl:=hev.length;rw[<-hsk]at hev Bg hvl e5
    have hloose:RV τ (Lt t) vs:=by
     rw[hsk]at hev
     cases hq:so.q with
     | true=>rw[hq]at hev;exact hev
     | false=>rw[hq]at hev;exact RV.loose hev
    have hnewL:RV τ (Lt t) (vs.set p (a.eval y)):=RV.set hloose hf hfv
    have hq2:EV τ (so.q || turn t) so.k (aCa vs p [a.eval y]):=by
     show EV τ (so.q || turn t) so.k (vs.set p (a.eval y))
     rw[hsk]
     cases hq:(so.q || turn t) with
     | true=>exact hnewL
     | false=>
      have ht:turn t=false:=by cases e:turn t with|false=>rfl|true=>rw[e]at hq;simp at hq
      have:=hnewL
      rw[sU ht]at this;exact this
    have hbt:so.k ≠ .bt:=by rw[hsk];simp
    have hR:=h.fr.th b so hso;obtain⟨cb,fl,hbl,hfl,Am⟩:=hR.blk
    obtain rfl:=hfl hbt
    have hrun:=uH (d:=d) (ty:=ty) (pos:=pos) (aft:=aft) (gd:=gd) (w:=w) (y:=y) hT e5 (by rw[hvc];rfl) (fun z hz=>by
     obtain rfl:z=0:=Q0
     obtain⟨u0,hu0⟩:∃u0,vs[p]?=some u0:=⟨_,zA0 Q0⟩
     rw[zG1,Bg p u0 hu0];rfl) (fun z hz=>frozen_of_row w b _ _ _ hbl) (fun u hu=>by rw[hvc]at hu;rw[List.mem_singleton.1 hu];exact hfv.one)
    rw[hvc]at hrun
    suffices hres:∃τ',Res C U A { r:=.c .und,br:=turn t,nq:=true } S B X τ V w undef τ' V (w.setCells b ((j+i)*so.k.k+p) [a.eval y]) by
     obtain⟨τ',hres⟩:=hres;exact dW.unit hrun hres
    rcases pJ (q:=so.q || turn t) (cs:=[a.eval y]) (p:=p) h hso hbt hui hev Bg (by simp only[List.length_singleton];omega) (fun e9=>by rw[e9];rfl) hq2 (own s g b _ n c hg hSs ho e3) (fun u hu=>by rw[List.mem_singleton.1 hu];exact hfv.one) with m|⟨hq,hq0,fr,sub,non⟩
    .
     exact U84
    .
     refine⟨_,Res.typed h rfl rfl rfl rfl rfl rfl (by rw[hso];simp) fr sub non (fun hbr=>?_)⟩
     have hbr':turn t=false:=hbr
     rw[hq0,hbr']at hq;cases hq
   .
    cases hu
  .
   cases hu
 .
  rename_i n s t ix hT e1 hne1
  split at hu
  .
   rename_i g hg
   split at hu
   .
    rename_i hh
    simp only[zC0,beq_iff_eq,Bool.not_eq_true']at hh;obtain⟨⟨⟨⟨hnl,hfit⟩,ho⟩,htn⟩,hkd⟩:=hh;cases hu;obtain⟨h1,h2,_⟩:=hx;rw[e1]at h1 h2
    have hSs:S s:=h2 s Q33
    obtain⟨g',hg',Ao⟩:=aCr hkd;obtain⟨b,j,m,c,i,e3,e4,e5,_⟩:=id h1;obtain⟨so,vs,hso,hsk,hui,hev,Bg⟩:=rT h hSs hg' Ao e3 e4;have hnew:=aFs h hy.1 hy.2.1 hfit;have Ab:=hnew.length;have hvl:=hev.length;rw[<-hsk]at hev Bg hvl e5 hnew Ab
    have hsl:aCa vs 0 (a.eval y).cells.toList=(a.eval y).cells.toList:=by
     apply List.ext_getElem?
     intro z;rw[sG _ _ _ _ Q0]
     split
     .
      rfl
     .
      rw[List.getElem?_eq_none Q0,List.getElem?_eq_none Q0]
    have hbt:so.k ≠ .bt:=by rw[hsk];simp
    have hR:=h.fr.th b so hso;obtain⟨cb,fl,hbl,hfl,Am⟩:=hR.blk
    obtain rfl:=hfl hbt
    have hkn:so.k.k=n:=by rw[hsk,hnl];rfl
    have hrun:=uH (d:=d) (ty:=ty) (pos:=pos) (aft:=aft) (gd:=gd) (w:=w) (y:=y) hT e5 Q0 (fun z hz=>by
     obtain⟨u0,hu0⟩:∃u0,vs[z]?=some u0:=⟨_,zA0 Q0⟩
     rw[zG1,Bg z u0 hu0];rfl) (fun z hz=>frozen_of_row w b _ _ _ hbl) hnew.one
    suffices hres:∃τ',Res C U A { r:=.c .und,nq:=true } S B X τ V w undef τ' V (w.setCells b ((j+i)*so.k.k+0) (a.eval y).cells.toList) by
     obtain⟨τ',hres⟩:=hres;exact dW.unit hrun hres
    rcases pJ (q:=so.q) (cs:=(a.eval y).cells.toList) (p:=0) h hso hbt hui hev Bg Q0 (fun e9=>e9) (by rw[hsl];exact hnew.loose) (own s g b _ m c hg hSs ho e3) hnew.one with m|⟨hq,hq0,_⟩
    .
     exact U84
    .
     rw[hq0]at hq;cases hq
   .
    cases hu
  .
   cases hu
 .
  cases hu
theorem aK8 {k:Rs}(h:k.turn=false):k.same:=by
 cases k with
 | rc t=>exact sU h
 | _=>trivial
theorem aGm (h:Kn C U A S B X τ V w){c:Call}{x y:Operand}{T:Nat}{k:Rs}{n m:Nat}{v v2:Value}(hc:c.callee=.builtin .append)(e1:c.args.toList=[x,y])(e2:c.argTypes.toList=[T,T])(hT:aJy T k=true)(hv:a.eval x=v)(hv2:a.eval y=v2)(h1:SV τ k n v)(h2:SV τ k m v2)(hk:k ≠ .bt\/∀a n' c',v=.slice a n' c'->c'=0)(hown:C.st=true->∀g,v.ownBlock=some g->C.w0.heap.size<=g)(htg:(A.tg || !k.turn)=true)(hl:n+m<=1000):
  ∃r τ' w',(execOp a.eval ⟨d,.call c,ty,pos,aft,gd⟩).run Tryz.prog w=.ok (.value r) w'/\Mv C [] τ w τ' w'/\SV τ' k (n+m) r/\(∀g,r.ownBlock=some g->v.ownBlock=some g\/w.heap.size<=g)/\∀b,b<w.heap.size->some b ≠ v.ownBlock->w'.heap[b]?=w.heap[b]?:=by
 obtain⟨z,b,hi,hz,hb⟩:=aIk k
 have hq:Tg τ\/k.same:=by
  cases ht:A.tg with
  | true=>exact .inl (h.tg ht)
  | false=>rw[ht]at htg;exact .inr (aK8 (by simpa using htg))
 obtain⟨r,τ',w',hr,m1,m2,m3,m4⟩:=h.fr.app (ty:=ty) h1 h2 hq hk hown hi (aPw hT) hz hb hl;refine⟨r,τ',w', ?_,m1,m2,m3,m4⟩;simp only[execOp,resolve,hc,aPm e1,aNi e2,invoke,builtin,Sem.run_bind,Sem.run_pure,Result.andThen_ok,List.map_toArray,zH2,List.map_nil,hv,hv2,hr]
theorem aEw (h:Kn C U A S B X τ V w)(hCG:C.st=G.st){c:Call}(hc:c.callee=.builtin .append)(hx:∀x ∈ c.args.toList,Opd A S B X τ V a x){u:Out}(hu:cK G A ⟨d,.call c,ty,pos,aft,gd⟩=some u)(hn:∀q,q<u.ns.length->¬S (A.sy.length+q)):dW C U A ⟨d,.call c,ty,pos,aft,gd⟩ u S B X τ V a w:=by
 simp only[cK,hc]at hu
 split at hu
 .
  rename_i x y T T' e1 e2
  obtain⟨h1,h2,_⟩:=hx x (by rw[e1];simp)
  obtain⟨h3,h4,_⟩:=hx y (by rw[e1];simp)
  split at hu
  .
   rename_i hTT
   simp only[beq_iff_eq]at hTT;subst hTT
   have fin:∀(r:Value) (n:Nat) (k:Rs),SV τ k n r\/True->∀V:Vl,(∀q,q<1->¬S (A.sy.length+q))->(V.add A.sy.length [r]).ρ A.sy.length=r/\∀s',S s'->(V.add A.sy.length [r]).ρ s'=V.ρ s':=fun r n k _ V hn1=>⟨Vl.add_at (q:=0) rfl,jR (fun q hq=>hn1 q Q65)⟩
   split at hu
   .
    rename_i s e3 e4
    rw[e3]at h1;rw[e4]at h3 h4
    have hSs:S s:=h4 s Q33
    split at hu
    .
     rename_i g hg
     split at hu
     .
      rename_i hh
      simp only[zC0,zE3,Bool.not_eq_true']at hh;obtain⟨⟨⟨hT,hhi⟩,hbt⟩,htg⟩:=hh;cases hu;have hsg:=h.sy s g hg hSs
      have hv2:a.eval y=V.ρ s:=h3
      obtain⟨r,τ',w',hrun,m,hsv,hob,hqt⟩:=aGm (d:=d) (ty:=ty) (pos:=pos) (aft:=aft) (gd:=gd) (a:=a) h hc e1 e2 hT h1 hv2 (SV.nil (τ:=τ) g.k) hsg.1 (.inl (by intro e9;rw[e9]at hbt;simp[Rs.eq]at hbt)) (fun _ g' hg'=>by cases hg') htg (by have:=hsg.2.2.1;omega)
      obtain⟨hV,hag⟩:=fin r 0 .bt (.inr trivial) V (fun q hq=>hn q hq)
      have hlr:ln r=ln (V.ρ s):=by
       rcases hsv with⟨e9,h9⟩|⟨b,j,c9,so,e9,_⟩
       .
        rw[e9,aKc];omega
       .
        rw[e9];show 0+ln (V.ρ s)=_;omega
      refine dW.val hrun (Res.mv (V':=V.add A.sy.length [r]) h m (fun _ b so hb _=>hqt b (h.fr.th.lt hb) (by simp[Value.ownBlock])) rfl rfl hag (fun _ _=>rfl) (fun _ _=>rfl) (fun q f hq=>?_) hV.symm (fun c hc=>by cases hc))
      cases q with
      | succ q=>simp[at?]at hq
      | zero=>
       simp only[at?,zG2]at hq;subst hq;rw[zG1,hV]
       refine⟨?_, ?_, ?_, ?_,(fun h9=>by cases h9),(fun h9=>by cases h9),(fun s h9=>by cases h9)⟩
       .
        rw[hlr];rw[zJ2]at hsv;exact hsv
       .
        rw[hlr];exact hsg.2.1
       .
        rw[hlr];exact hsg.2.2.1
       .
        intro _ _ g' hg'
        rcases hob g' hg' with h9|h9
        .
         cases h9
        .
         exact zF2 h.fr.size h9
     .
      cases hu
    .
     cases hu
   .
    rename_i q s e3 e4
    rw[e3]at h1 h2;rw[e4]at h3 h4
    have hSs:S s:=h4 s Q33
    have hSq:S q:=h2 q Q33
    split at hu
    .
     rename_i f g hf hg
     split at hu
     .
      rename_i hh
      simp only[zC0,zE3,Bool.or_eq_true,Bool.not_eq_true']at hh;obtain⟨⟨⟨⟨⟨hT,hkk⟩,hhi⟩,ho⟩,hbt⟩,htg⟩:=hh;cases hu;have hkk:=Rs.eq_eq hkk;have hsf:=h.sy q f hf hSq;have hsg:=h.sy s g hg hSs
      have hv:a.eval x=V.ρ q:=h1
      have hv2:a.eval y=V.ρ s:=h3
      have hsf1:=hsf.1;rw[hkk]at hsf1
      obtain⟨r,τ',w',hrun,m,hsv,hob,hqt⟩:=aGm (d:=d) (ty:=ty) (pos:=pos) (aft:=aft) (gd:=gd) (a:=a) h hc e1 e2 hT hv hv2 hsf1 hsg.1 (by
       rcases hbt with hbt|hbt
       .
        left;intro e9;rw[hkk,e9]at hbt;simp[Rs.eq]at hbt
       .
        right;exact hsf.2.2.2.2.2.1 hbt) (fun hst g' hg'=>by
       rcases ho with ho|ho
       .
        exact hsf.2.2.2.1 ho hst g' hg'
       .
        rw[hCG,ho]at hst;cases hst) (by
       rcases htg with htg|htg
       .
        rw[htg];rfl
       .
        rw[htg];simp) (by have:=hsg.2.2.1;have:=hsf.2.2.1;omega)
      obtain⟨hV,hag⟩:=fin r 0 .bt (.inr trivial) V (fun q hq=>hn q hq)
      have hlr:ln r=ln (V.ρ q)+ln (V.ρ s):=by
       rcases hsv with⟨e9,h9⟩|⟨b,j,c9,so,e9,_⟩
       .
        rw[e9,aKc];omega
       .
        rw[e9];rfl
      refine dW.val hrun (Res.mv (V':=V.add A.sy.length [r]) h m (fun h9=>by cases h9) rfl rfl hag (fun _ _=>rfl) (fun _ _=>rfl) (fun q' f' hq'=>?_) hV.symm (fun c hc=>by cases hc))
      cases q' with
      | succ q'=>simp[at?]at hq'
      | zero=>
       simp only[at?,zG2]at hq';subst hq';rw[zG1,hV];have a1:=hsf.2.1;have a2:=hsf.2.2.1;have a3:=hsg.2.1;have a4:=hsg.2.2.1
       refine⟨?_, ?_, ?_, ?_,(fun h9=>by cases h9),(fun h9=>by cases h9),(fun s9 h9=>?_)⟩
       .
        rw[hlr,hkk];exact hsv
       .
        rw[hlr];show f.lo+g.lo<=_;omega
       .
        rw[hlr];show _<=f.hi+g.hi;omega
       .
        intro ho2 hst g' hg'
        rcases hob g' hg' with h9|h9
        .
         exact hsf.2.2.2.1 ho2 hst g' h9
        .
         exact zF2 h.fr.size h9
       .
        simp only at h9
        split at h9
        .
         rename_i h10
         simp only[zE3]at h10;cases h9;rw[hag _ hSq,hlr]
         omega
        .
         cases h9
     .
      cases hu
    .
     cases hu
   .
    cases hu
  .
   cases hu
 .
  cases hu
end
end Eg
theorem U76{p:Prop}(h:p:=by
 simp only[Lib.bytesWorld,World.freeze];split <;> rfl):p:=h
namespace Eg
section
variable {C:Cx} {U:Value->Prop} {G:Cfg} {A:AS} {S B X:Nat->Prop} {τ τ':Sm} {V V':Vl} {a:Act} {w w':World} {d:Option Nat} {ty:TypeId} {pos:String} {aft:Array Edge} {gd:Option (Nat × Bool)}
theorem aHs {T:Nat}{k:Rs}{b o n c:Nat}(hT:Tryz.prog.underlying T=some (.slice k.ty))(hn:1<=n):(Instr.sliceAt T (.slice (some ⟨b,o,none⟩) n c) (some (.int .i64 1)) none none).run Tryz.prog w=.ok (.slice (some (if c=1 then ⟨b,o,none⟩ else ⟨b,o+1*k.k,none⟩)) (n-1) (c-1)) w:=by
 have Am:=aIj k;have h9:(0:Int)<=1/\(1:Int)<=(n:Int):=Q0;simp only[Instr.sliceAt,Sem.run_bind,run_underlying hT,Result.andThen_ok,Instr.slice,Instr.sliceBounds,Instr.sliceBound,asIntOf,Sem.run_pure];rw[if_pos h9];simp only[Sem.run_pure,Result.andThen_ok,Sem.run_bind,Option.map_some,Am,Addr.add_lit,Int.toNat_one]
 split <;> rfl
theorem aH5 (h:Kn C U A S B X τ V w){x lo:Operand}{T:Nat}(hx:Opd A S B X τ V a x)(hl:Opd A S B X τ V a lo){u:Out}(hu:cK G A ⟨d,.slice T x (some lo) none none,ty,pos,aft,gd⟩=some u)(hn:∀q,q<u.ns.length->¬S (A.sy.length+q)):dW C U A ⟨d,.slice T x (some lo) none none,ty,pos,aft,gd⟩ u S B X τ V a w:=by
 simp only[cK]at hu
 split at hu
 .
  rename_i s e1 e2
  obtain⟨h1,h2,_⟩:=hx;rw[e1]at h1 h2;have h3:=hl.1;rw[e2]at h3
  have hSs:S s:=h2 s Q33
  split at hu
  .
   rename_i f hf
   split at hu
   .
    rename_i hh
    simp only[zC0,zE3]at hh;cases hu;have hsf:=h.sy s f hf hSs;obtain⟨i,e3,h4,h5⟩:=h3
    obtain rfl:i=1:=Q0
    have hv:a.eval x=V.ρ s:=h1
    have Ak:=hsf.2.1
    rcases hsf.1 with⟨e,h0⟩|⟨b,j,c,so,e,hso,hk,hu1,hc,hcc⟩
    .
     omega
    .
     have hT:=aPw hh.1;have Am:=aIj f.k
     have hrun:(execOp a.eval ⟨d,.slice T x (some lo) none none,ty,pos,aft,gd⟩).run Tryz.prog w=.ok (.value (.slice (some (if c=1 then ⟨b,j*f.k.k,none⟩ else ⟨b,j*f.k.k+1*f.k.k,none⟩)) (ln (V.ρ s)-1) (c-1))) w:=by
      have hvx:=hv.trans e;simp only[execOp,Option.map_some,Option.map_none,e3,Sem.run_bind];rw[hvx,aHs hT Q0]
      rfl
     have hsv:SV τ f.k (ln (V.ρ s)-1) (.slice (some (if c=1 then ⟨b,j*f.k.k,none⟩ else ⟨b,j*f.k.k+1*f.k.k,none⟩)) (ln (V.ρ s)-1) (c-1)):=by
      right
      by_cases hc1:c=1
      .
       rw[if_pos hc1]
       exact⟨b,j,c-1,so,rfl,hso,hk,by omega,by omega,by omega⟩
      .
       rw[if_neg hc1]
       exact⟨b,j+1,c-1,so,by rw[Nat.add_mul],hso,hk,by omega,by omega,by omega⟩
     have hV:(V.add A.sy.length [.slice (some (if c=1 then ⟨b,j*f.k.k,none⟩ else ⟨b,j*f.k.k+1*f.k.k,none⟩)) (ln (V.ρ s)-1) (c-1)]).ρ A.sy.length=.slice (some (if c=1 then ⟨b,j*f.k.k,none⟩ else ⟨b,j*f.k.k+1*f.k.k,none⟩)) (ln (V.ρ s)-1) (c-1):=Vl.add_at (q:=0) rfl
     have hag:=jR (V:=V) (S:=S) (c:=A.sy.length) (us:=[.slice (some (if c=1 then ⟨b,j*f.k.k,none⟩ else ⟨b,j*f.k.k+1*f.k.k,none⟩)) (ln (V.ρ s)-1) (c-1)]) (fun q hq=>hn q Q65)
     refine dW.val hrun (Res.same (V':=V.add A.sy.length [_]) h rfl rfl hag (fun _ _=>rfl) (fun _ _=>rfl) (fun q g hq=>?_) hV.symm (fun c hc=>by cases hc))
     cases q with
     | succ q=>simp[at?]at hq
     | zero=>
      simp only[at?,zG2]at hq;subst hq;rw[zG1,hV];have a2:=hsf.2.2.1
      refine⟨hsv, ?_, ?_, ?_,(fun h9=>by cases h9),(fun h9=>by cases h9),(fun s9 h9=>by cases h9)⟩
      .
       show f.lo-1<=ln (V.ρ s)-1;omega
      .
       show ln (V.ρ s)-1<=f.hi-1;omega
      .
       intro ho hst g hg
       have hgb:g=b:=by
        simp only[Value.ownBlock]at hg
        split at hg <;> simpa using hg.symm
       subst hgb
       exact hsf.2.2.2.1 ho hst g (by rw[e];rfl)
   .
    cases hu
  .
   cases hu
 .
  cases hu
theorem aKy:Tryz.prog.underlying 5=some (.int .u8):=Tryz.underlying5
theorem aOw:Tryz.prog.underlying 3=some (.int .i64):=Tryz.underlying3
theorem aNm:Tryz.prog.underlying 9=some .string:=Tryz.underlying9
theorem aAx:Tryz.prog.underlying 22=some (.slice 5):=Tryz.underlying22
theorem aKu (n:Int):0<=IntKind.u8.wrap n/\IntKind.u8.wrap n<=255:=by
 have:IntKind.u8.wrap n=n % 256:=by simp[IntKind.wrap,IntKind.signed,IntKind.bits]
 omega
theorem run_mark {b o n c:Nat}{cs:Array Value}{fl:Nat × Nat}(hb:w.heap[b]?=some (.cells cs 5 fl)):(convert 22 22 (.slice (some ⟨b,o,none⟩) n c)).run Tryz.prog w=.ok (.slice (some ⟨b,o,none⟩) n c) (w.freeze ⟨b,cs.size,none⟩ 1):=by
 have hsh:w.shape? b=some (5,cs.size):=by unfold World.shape?;rw[hb]
 simp[convert,run_underlying aAx,run_underlying aKy,markStringish,hsh]
theorem freeze_block {b n:Nat}{cs:Array Value}{T:TypeId}{fl:Nat × Nat}(hb:w.heap[b]?=some (.cells cs T fl)):∃fl',(w.freeze ⟨b,n,none⟩ 1).heap[b]?=some (.cells cs T fl'):=by
 unfold World.freeze;rw[if_neg Q6];simp only[Array.getElem?_modify,if_true,hb,Option.map_some];exact⟨_,rfl⟩
theorem freeze_other {b n g:Nat}(hg:g ≠ b):(w.freeze ⟨b,n,none⟩ 1).heap[g]?=w.heap[g]?:=by
 unfold World.freeze;rw[if_neg Q6];simp only[Array.getElem?_modify];rw[if_neg (Ne.symm hg)]
theorem freeze_size {b n:Nat}:(w.freeze ⟨b,n,none⟩ 1).heap.size=w.heap.size:=by
 unfold World.freeze;rw[if_neg Q6]
 simp
theorem aCj (h:Kn C U A S B X τ V w)(hCG:C.st=G.st){x:Operand}{T D:Nat}(hx:Opd A S B X τ V a x){u:Out}(hu:cK G A ⟨d,.convert T D x,ty,pos,aft,gd⟩=some u)(hn:∀q,q<u.ns.length->¬S (A.sy.length+q)):dW C U A ⟨d,.convert T D x,ty,pos,aft,gd⟩ u S B X τ V a w:=by
 obtain⟨h1,h2,_⟩:=hx;simp only[cK]at hu
 split at hu
 .
  rename_i hT
  simp only[zC0,beq_iff_eq]at hT;obtain⟨rfl,rfl⟩:=hT
  split at hu
  .
   rename_i e
   rw[e]at h1;obtain⟨s,e1,hs⟩:=h1;cases hu;have hrun:=Lib.run_convert_string_bytes (P:=Tryz.prog) w 9 22 5 s aNm aAx aKy;have hge:=grownCap_ge w s.size 0 5;have hle:=grownCap_le_maxLen w s.size 0 5 Q17
   have hn0:τ w.heap.size=none:=h.fr.th.fresh (zB0 _)
   have hsub:=wP (s:=⟨.bt,false,s.size,grownCap w s.size 0 5⟩) hn0
   have hcs:(Lib.bytesCells w 5 s).size=grownCap w s.size 0 5:=by
    simp only[Lib.bytesCells,Array.size_append,Array.size_map,Array.size_replicate]
    show s.size+_=_
    omega
   have hrow:aKq (upd τ w.heap.size ⟨.bt,false,s.size,grownCap w s.size 0 5⟩) (Lib.bytesWorld w 5 s) w.heap.size ⟨.bt,false,s.size,grownCap w s.size 0 5⟩:=
    ⟨⟨_,_,Lib.bytesWorld_at_new w _ s,fun h9=>absurd rfl h9,by rw[hcs];exact(Nat.mul_one _).symm⟩,hge,hle,fun i hi=>⟨[.int .u8 (s.data.toList.getD i 0).toNat],rfl,⟨_,rfl,by omega,by have:=(s.data.toList.getD i 0).toNat_lt;omega⟩,fun z v hz=>by
     cases z with
     | succ z=>simp at hz
     | zero=>
      simp only[List.getElem?_cons_zero,zG2]at hz;subst hz
      have:=Lib.bytesWorld_cell w 5 s i hi
      show(Lib.bytesWorld w 5 s).cell? ⟨w.heap.size,i*1+0,none⟩=_
      rw[Nat.mul_one,zG1]
      exact this⟩⟩
   have m:Mv C [] τ w (upd τ w.heap.size ⟨.bt,false,s.size,grownCap w s.size 0 5⟩) (Lib.bytesWorld w 5 s):=by
    refine h.fr.step [] (h.fr.th.upd hsub (fun b Aw Aj=>Lib.bytesWorld_at_old w _ s b Aj) hrow) hsub ?_ ?_ ?_ (by rw[Lib.bytesWorld_size];omega) (fun b Aj hb=>(iH Q0).trans hb) (fun b Aj _ _=>Lib.bytesWorld_at_old w _ s b Aj) (fun _ b Aj _=>?_) (fun _ h9=>by cases h9) (fun ht=>ht.upd rfl)
    .
     exact U76
    .
     exact U76
    .
     exact U76
    .
     have:=h.fr.size
     exact⟨iH Q0,Lib.bytesWorld_at_old w _ s b Q0⟩
   have hV:(V.add A.sy.length [.slice (some ⟨w.heap.size,0,none⟩) s.size (grownCap w s.size 0 5)]).ρ A.sy.length=.slice (some ⟨w.heap.size,0,none⟩) s.size (grownCap w s.size 0 5):=Vl.add_at (q:=0) rfl
   have hag:=jR (V:=V) (S:=S) (c:=A.sy.length) (us:=[.slice (some ⟨w.heap.size,0,none⟩) s.size (grownCap w s.size 0 5)]) (fun q hq=>hn q Q65)
   refine dW.val (by simp only[execOp,e1,Sem.run_bind,hrun,Result.andThen_ok];rfl) (Res.mv (V':=V.add A.sy.length [_]) h m (fun _ b so hb _=>Lib.bytesWorld_at_old w _ s b (h.fr.th.lt hb)) rfl rfl hag (fun _ _=>rfl) (fun _ _=>rfl) (fun q g hq=>?_) hV.symm (fun c hc=>by cases hc))
   cases q with
   | succ q=>simp[at?]at hq
   | zero=>
    simp only[at?,zG2]at hq;subst hq;rw[zG1,hV]
    refine⟨.inr ⟨w.heap.size,0,_,_,rfl,oB _ _ _,rfl,by show 0+s.size<=s.size;omega,hge,by rw[zJ2];exact zB0 _⟩,zD1 _,hs,(fun _ _ g hg=>by cases hg;exact h.fr.size),(fun h9=>by cases h9),(fun h9=>by cases h9),(fun s9 h9=>by cases h9)⟩
  .
   cases hu
 .
  split at hu
  .
   rename_i hT
   simp only[zC0,beq_iff_eq]at hT;obtain⟨rfl,rfl⟩:=hT
   split at hu
   .
    rename_i s e
    rw[e]at h1 h2
    have hSs:S s:=h2 s Q33
    split at hu
    .
     rename_i f hf
     split at hu
     .
      rename_i hh
      simp only[zC0,zE3,Bool.or_eq_true,Bool.not_eq_true']at hh;obtain⟨⟨hk,hlo⟩,ho⟩:=hh;have hk:=Rs.eq_eq hk;cases hu;have hsf:=h.sy s f hf hSs;have hl:=hsf.2.1
      have hv:a.eval x=V.ρ s:=h1
      rcases hsf.1 with⟨e9,h0⟩|⟨b,j,c,so,e9,hso,hsk,_⟩
      .
       omega
      .
       have hR:=h.fr.th b so hso;obtain⟨cs,fl,hbl,_,Am⟩:=hR.blk;rw[hsk,hk]at hbl;have hrun:=run_mark (o:=j*f.k.k) (n:=ln (V.ρ s)) (c:=c) hbl;obtain⟨fl',hfb⟩:=freeze_block (n:=cs.size) hbl
       have hth:TH τ (w.freeze ⟨b,cs.size,none⟩ 1):=by
        intro g sg hg
        by_cases hgb:g=b
        .
         subst hgb;rw[hso]at hg;cases hg
         refine⟨⟨cs,fl',by rw[hsk,hk];exact hfb,fun h9=>by rw[hsk,hk]at h9;exact absurd rfl h9,Am⟩,hR.u,hR.c,fun i hi=>?_⟩
         obtain⟨vs,v1,v2,v3⟩:=hR.el i hi
         refine⟨vs,v1,v2,fun z u hu=>?_⟩
         have:=v3 z u hu
         rw[cell_of_row w g _ _ _ fl hbl]at this;rw[cell_of_row _ g _ _ _ fl' hfb];exact this
        .
         exact(h.fr.th g sg hg).on (Sub.refl _) (freeze_other hgb)
       have Aw:∀g,τ g=none->g ≠ b:=by rintro g hg rfl;rw[hso]at hg;cases hg
       have m:Mv C [] τ w τ (w.freeze ⟨b,cs.size,none⟩ 1):=by
        refine h.fr.step [] hth (Sub.refl _) ?_ ?_ ?_ (by rw[freeze_size];exact zB0 _) (fun _ _ h9=>h9) (fun g _ hg _=>freeze_other (Aw g hg)) (fun hst g hlt9 _=>⟨rfl,freeze_other ?_⟩) (fun _ h9=>by cases h9) (fun h9=>h9)
        .
         simp only[World.freeze];split <;> rfl
        .
         simp only[World.freeze];split <;> rfl
        .
         simp only[World.freeze];split <;> rfl
        .
         rintro rfl
         rcases ho with ho|ho
         .
          have:=hsf.2.2.2.1 ho hst g (by rw[e9];rfl);omega
         .
          rw[hCG,ho]at hst;cases hst
       refine dW.val (v:=V.ρ s) (by simp only[execOp,hv,Sem.run_bind];rw[e9,hrun];rfl) (Res.mv (V':=V) h m (fun _ g sg hg Ao=>freeze_other (by rintro rfl;rw[hso]at hg;cases hg;exact Ao (hsk.trans hk))) rfl rfl (fun _ _=>rfl) (fun _ _=>rfl) (fun _ _=>rfl) (fun q g hq=>by simp[at?]at hq) rfl (fun c hc=>by cases hc))
     .
      cases hu
    .
     cases hu
   .
    cases hu
  .
   split at hu
   .
    rename_i hT
    simp only[zC0,beq_iff_eq]at hT;obtain⟨rfl,rfl⟩:=hT
    split at hu
    .
     rename_i y e
     split at hu
     .
      rename_i hr
      obtain⟨⟨lo,hi⟩,hr⟩:=Option.isSome_iff_exists.1 hr;cases hu;rw[e]at h1 h2;obtain⟨n,e1,_,_⟩:=kD h h1 h2 hr
      exact dW.val (v:=.int .u8 (IntKind.u8.wrap n)) (by simp only[execOp,e1,convert,Sem.run_bind,run_underlying aOw,run_underlying aKy,Result.andThen_ok];rfl) (Res.pure h ⟨_,rfl,aKu n⟩)
     .
      cases hu
    .
     cases hu
   .
    cases hu
end
end Eg
namespace Eg
structure Inp where
 cb:Nat
 gb:Nat
 fa:Value
 us:Value
 nv:Value
 vv:Value
 pv:Value
 iv:Value
 av:Value
 calm:Bool
def Inp.vals (I:Inp)(left:Int):List Value:=[.pointer (some ⟨I.cb,0,none⟩),I.fa,I.nv,I.us,I.vv,I.pv,I.iv,I.av,.int .i64 1,.int .i64 left,.bool I.calm]
def SVb (τ:Sm)(k:Rs)(lo hi:Nat)(v:Value):Prop:=SV τ k (ln v) v/\lo<=ln v/\ln v<=hi
def Us (fa:Value)(w:World)(v:Value):Prop:=∃b o n c j,fa=.slice (some ⟨b,o,none⟩) n c/\j<n/\w.cell? ⟨b,o+2*j,none⟩=some v
structure aM5 (τ:Sm) (w:World) (cb:Nat):Prop where
 cur:Cur w cb
 nc:τ cb=none
 lo:∀b,b<cb->τ b=none
structure Gen (τ:Sm) (w:World) (I:Inp):Prop where
 cur:aM5 τ w I.cb
 ng:τ I.gb=none
 lt:I.cb<I.gb
 blk:∃left,I64 left/\Blk w I.gb 139 (I.vals left)
 nv:SVb τ .bt 0 4 I.nv
 vv:SVb τ (.rc 1) 0 3 I.vv
 pv:SVb τ (.rc 12) 0 3 I.pv
 iv:SVb τ (.rc 0) 2 20 I.iv
 av:SVb τ (.rc 0) 0 20 I.av
 fa:SVb τ (.rc 4) 0 2 I.fa
 us:SVb τ (.rc 0) 0 2 I.us
 use:∀b o n c i v,I.us=.slice (some ⟨b,o,none⟩) n c->i<n->w.cell? ⟨b,o+i,none⟩=some v->Us I.fa w v
def CP.ok (τ:Sm)(w:World)(I:Inp):CP->Value->Prop
 | .cur,v=>v=.pointer (some ⟨I.cb,0,none⟩)
 | .gen,v=>v=.pointer (some ⟨I.gb,0,none⟩)
 | .int lo hi,v=>∃x,v=.int .i64 x/\lo<=x/\x<=hi
 | .bool,v=>∃b,v=.bool b
 | .str,v=>∃s,v=.string s/\s.size<=4
 | .sl k lo hi,v=>SVb τ k lo hi v
 | .rc t,v=>∃vs,v=.agg vs.toArray/\RV τ (Dt t).2 vs
 | .un,v=>SV τ .bt (ln v) v/\Us I.fa w v
 | .fa,v=>v=I.fa/\SVb τ (.rc 4) 0 2 v
def aDn (τ:Sm)(w:World)(I:Inp):List CP->List Value->Prop
 | [],vs=>vs=[]
 | p :: l,vs=>∃v us,vs=v :: us/\p.ok τ w I v/\aDn τ w I l us
def RP.ok (st:Bool)(τ:Sm)(n:Nat)(I:Inp):RP->Value->Prop
 | .int lo hi,v=>∃x,v=.int .i64 x/\lo<=x/\x<=hi
 | .bool,v=>∃b,v=.bool b
 | .sl k lo hi,v=>SVb τ k lo hi v/\(st=true->∀g,v.ownBlock=some g->n<=g)
 | .rc t,v=>∃vs,v=.agg vs.toArray/\RV τ (Dt t).2 vs
 | .tb t,v=>∃vs b,v=.tuple #[.agg vs.toArray,.bool b]/\RV τ (Dt t).2 vs
 | .ts t k lo hi,v=>∃vs u,v=.tuple #[.agg vs.toArray,u]/\RV τ (Dt t).2 vs/\SVb τ k lo hi u/\(st=true->∀g,u.ownBlock=some g->n<=g)
 | .ixf,v=>∃x:Nat,v=.int .i64 x/\x<ln I.fa
 | .num,v=>∃x y,v=.agg #[.int .i64 x,.int .i64 y,.slice none 0 0,.slice none 0 0,.slice none 0 0]/\I64 x/\I64 y
 | .vr,v=>∃x y u,v=.agg #[.int .i64 x,.int .i64 y,.slice none 0 0,u,.slice none 0 0]/\I64 x/\I64 y/\SVb τ .bt 0 4 u
def Con.K (c:Con)(I:Inp):List Nat:=if bW c.args then [I.cb,I.gb] else if iC c.args then [I.cb] else []
structure Con.Env (c:Con) (τ:Sm) (w:World) (I:Inp):Prop where
 gen:bW c.args=true->Gen τ w I
 cur:iC c.args=true->aM5 τ w I.cb
structure Con.After (c:Con) (w':World) (I:Inp):Prop where
 gen:bW c.args=true->Cur w' I.cb/\∃left cm,I64 left/\Blk w' I.gb 139 ({ I with calm:=cm }.vals left)
 cur:iC c.args=true->Cur w' I.cb
def qK (c:Con):Prop:=∀(τ:Sm) (w:World) (I:Inp) (vs:List Value),TH τ w->(c.tg=true->Tg τ)->c.Env τ w I->aDn τ w I c.args vs →
 Calls Tryz.prog c.f vs.toArray w fun e w'=>∃v τ',e=.returned v/\Fr ⟨c.st,c.K I,τ,w⟩ τ' w'/\(c.st=true->Tg τ->Tg τ')/\c.After w' I/\c.res.ok c.st τ' w.heap.size I v
structure Us0 (G:Cfg) (C:Cx) (A:AS) (S:Nat->Prop) (V:Vl) (w:World):Prop where
 st:C.st=true
 s0:S 0
 s1:S 1
 fa:SVb C.τ0 (.rc 4) 0 2 (V.ρ 0)
 us:SVb C.τ0 (.rc 0) 0 2 (V.ρ 1)
 use:∀b o n c i v,V.ρ 1=.slice (some ⟨b,o,none⟩) n c->i<n->C.w0.cell? ⟨b,o+i,none⟩=some v->Us (V.ρ 0) C.w0 v
section
variable {C:Cx} {U:Value->Prop} {G:Cfg} {A:AS} {S B X:Nat->Prop} {τ τ':Sm} {V V':Vl} {a:Act} {w w':World} {d:Option Nat} {ty:TypeId} {pos:String} {aft:Array Edge} {gd:Option (Nat × Bool)}
theorem sS (hF:Fr C τ w)(hst:C.st=true)(hT0:TH C.τ0 C.w0){k:Rs}{n b o c:Nat}{l:Nat}(h:SV C.τ0 k l (.slice (some ⟨b,o,none⟩) n c))(p:Nat):w.cell? ⟨b,p,none⟩=C.w0.cell? ⟨b,p,none⟩:=by
 rcases h with⟨e,_⟩|⟨b',j,c',s,e,hb,_⟩
 .
  cases e
 .
  simp only[Value.slice.injEq,zG2,Addr.mk.injEq,and_true]at e;obtain⟨⟨rfl,_⟩,_⟩:=e
  exact World.cell?_of_block (hF.str hst b (hT0.lt hb) (by rw[hb];simp)).2
theorem Us0.on (h:Us0 G C A S V w)(hF:Fr C τ w)(hT0:TH C.τ0 C.w0){v:Value}:Us (V.ρ 0) C.w0 v ↔ Us (V.ρ 0) w v:=by
 constructor
 .
  rintro⟨b,o,n,c,j,e,hj,hc⟩;have h1:=h.fa.1;rw[e]at h1;exact⟨b,o,n,c,j,e,hj,(sS hF h.st hT0 h1 _).trans hc⟩
 .
  rintro⟨b,o,n,c,j,e,hj,hc⟩;have h1:=h.fa.1;rw[e]at h1;exact⟨b,o,n,c,j,e,hj,(sS hF h.st hT0 h1 _).symm.trans hc⟩
theorem Us0.useW (h:Us0 G C A S V w)(hF:Fr C τ w)(hT0:TH C.τ0 C.w0):∀b o n c i v,V.ρ 1=.slice (some ⟨b,o,none⟩) n c->i<n->w.cell? ⟨b,o+i,none⟩=some v->Us (V.ρ 0) C.w0 v:=by
 intro b o n c i v e hi hc;have h1:=h.us.1;rw[e]at h1;exact h.use b o n c i v e hi ((sS hF h.st hT0 h1 _).symm.trans hc)
theorem SVb.sub {k:Rs}{lo hi:Nat}{v:Value}(h:SVb τ k lo hi v)(hs:Sub τ τ'):SVb τ' k lo hi v:=⟨h.1.sub hs,h.2⟩
theorem oC (h:Kn C U A S B X τ V w){k:Rs}{lo hi:Nat}{x:CV}{v:Value}(hx:x.ok V v)(hs:∀s ∈ x.sy,S s)(hk:A.sOk k lo hi x=true):SVb τ k lo hi v:=by
 cases x <;> simp only[AS.sOk,Bool.false_eq_true]at hk
 .
  rename_i s
  split at hk
  .
   rename_i f hf
   simp only[zC0,zE3]at hk;obtain⟨⟨h1,h2⟩,h3⟩:=hk
   have:=Rs.eq_eq h1
   subst this;obtain⟨a1,a2,a3,_⟩:=h.sy s f hf (hs s Q50)
   rw[show v=_ from hx]
   exact⟨a1,by omega,by omega⟩
  .
   cases hk
 .
  simp only[beq_iff_eq]at hk;subst hk
  rw[show v=_ from hx]
  exact⟨SV.nil k,zB0 _,zD1 _⟩
theorem aO4 (h:Kn C (Us (V.ρ 0) C.w0) A S B X τ V w)(h0:Us0 G C A S V w)(hT0:TH C.τ0 C.w0){b:Nat}(hB:B b)(hg:A.gen b=true)(Aj:∀c,at? A.bk c=some .cur->B c->V.β c<V.β b):∃(I:Inp) (c:Nat),I.gb=V.β b/\I.cb=V.β c/\at? A.bk c=some .cur/\B c/\I.fa=V.ρ 0/\Gen τ w I/\∃nv vv pv iv av,at? A.bk b=some (.cells 139 [.ptr c 0,.sl 0,nv,.sl 1,vv,pv,iv,av,.int 1 1,.int mn mx,.bl [] []])/\(nv.ok V I.nv/\vv.ok V I.vv/\pv.ok V I.pv/\iv.ok V I.iv/\av.ok V I.av)/\I.us=V.ρ 1:=by
 unfold AS.gen at hg
 split at hg
 .
  rename_i T c nv vv pv iv av lo hi hb
  simp only[zC0,beq_iff_eq,zE3]at hg;obtain⟨⟨⟨⟨⟨⟨⟨⟨rfl,hc⟩,g1⟩,g2⟩,g3⟩,g4⟩,g5⟩,rfl⟩,rfl⟩:=hg;obtain⟨⟨vs,hbl,hal⟩,hn,hlt1,_⟩:=h.bk b _ hb hB;obtain⟨b1,b2,b3⟩:=h.bc b _ hb hB;obtain⟨v0,_,rfl,q0,v1,_,rfl,q1,v2,_,rfl,q2,v3,_,rfl,q3,v4,_,rfl,q4,v5,_,rfl,q5,v6,_,rfl,q6,v7,_,rfl,q7,v8,_,rfl,q8,v9,_,rfl,q9,v10,_,rfl,q10,rfl⟩:=hal
  have sb:∀(y:CV),y ∈ [CV.ptr c 0,.sl 0,nv,.sl 1,vv,pv,iv,av,.int 1 1,.int mn mx,.bl [] []]->∀s ∈ y.sy,S s:=fun y hy s hs=>b1 s (List.mem_flatMap.2 ⟨y,hy,hs⟩)
  have hBc:B c:=b2 c (by simp[Bk.bs,CV.bs])
  have hcc:at? A.bk c=some .cur:=by
   split at hc
   .
    rename_i e;exact e
   .
    cases hc
  obtain⟨hcu,hcn,_,_⟩:=h.bk c _ hcc hBc;have Ab:=(h.lo c hcc hBc).2;obtain⟨x8,e8,y8,z8⟩:=q8;obtain⟨x9,e9,y9,z9⟩:=q9;obtain⟨bb,rfl,_⟩:=q10
  obtain rfl:x8=1:=by omega
  subst e8 e9
  refine⟨⟨V.β c,V.β b,V.ρ 0,V.ρ 1,v2,v4,v5,v6,v7,bb⟩,c,rfl,rfl,hcc,hBc,rfl,⟨⟨hcu,hcn,fun q hq=>(Ab q hq).1⟩,hn,Aj c hcc hBc,⟨x9,⟨y9,z9⟩, ?_⟩,oC h q2 (sb nv Q9) g1,oC h q4 (sb vv Q9) g2,oC h q5 (sb pv Q9) g3,oC h q6 (sb iv Q9) g4,oC h q7 (sb av Q9) g5,h0.fa.sub h.fr.sub,h0.us.sub h.fr.sub, ?_⟩,nv,vv,pv,iv,av,hb,⟨q2,q4,q5,q6,q7⟩,rfl⟩
  .
   have e0:v0=.pointer (some ⟨V.β c,0,none⟩):=q0
   have e1:v1=V.ρ 0:=q1
   have e3:v3=V.ρ 1:=q3
   rw[e0,e1,e3]at hbl;exact hbl
  .
   intro b9 o n c9 i v e hi Bg;exact(h0.on h.fr hT0).1 (h0.useW h.fr hT0 b9 o n c9 i v e hi Bg)
 .
  cases hg
end
end Eg
namespace Eg
def aAq (P:Program):List Nat->Bool
 | []=>true
 | f :: l => (match P.funcs[f]? with | some fn => !(fn.name == "runtime.NumGoroutine") && fn.body.isSome | none => false) && aAq P l
theorem aO9:aAq Tryz.prog FS=true:=by kernel_rfl
theorem aPa:∀{l:List Nat},aAq Tryz.prog l=true->∀{f:Nat},has f l=true->∀args w,Sem.run Tryz.prog (callFunc f args) w=.ok (.enter f args) w
 | [],_,_,h=>by cases h
 | g :: l,hc,f,h=>by
  simp only[aAq,zC0]at hc;simp only[has,Bool.or_eq_true,beq_iff_eq]at h
  rcases h with rfl|h
  .
   have h1:=hc.1
   split at h1
   .
    rename_i fn hf
    simp only[zC0,Bool.not_eq_true']at h1;intro args w;obtain⟨b,hb⟩:=Option.isSome_iff_exists.1 h1.2
    have h9 : ¬ fn.name = "runtime.NumGoroutine" := by simpa using h1.1
    simp[callFunc,hf,h9,hb,go_sem]
   .
    cases h1
  .
   exact aPa hc.2 h
section
variable {C:Cx} {U:Value->Prop} {G:Cfg} {A:AS} {S B X:Nat->Prop} {τ τ':Sm} {V V':Vl} {a:Act} {w w':World} {d:Option Nat} {ty:TypeId} {pos:String} {aft:Array Edge} {gd:Option (Nat × Bool)}
theorem dW.call {c:Call}{f:Nat}{u:Out}(hc:c.callee=.value (.func f))(hf:has f FS=true)(h:Calls Tryz.prog f (c.args.map a.eval) w fun e w'=>∃v τ' V',e=.returned v/\Res C U A u S B X τ V w v τ' V' w'):dW C U A ⟨d,.call c,ty,pos,aft,gd⟩ u S B X τ V a w:=by
 intro Q;unfold Oper.wp
 have hrun:(execOp a.eval ⟨d,.call c,ty,pos,aft,gd⟩).run Tryz.prog w=.ok (.enter f (c.args.map a.eval)) w:=by
  have he:a.eval (.func f)=.func (.func f) #[] #[]:=rfl
  simp only[execOp,resolve,hc,he,Deferred.ofValue,Sem.run_bind,Sem.run_pure,Result.andThen_ok,invoke,aPa aO9 hf]
  simp
 rw[hrun,Oper.upon_enter];refine h.mono ?_;rintro e w' ⟨v,τ',V',rfl,hr⟩;exact⟨v,τ',V',rfl,hr⟩
theorem Res.call {u:Out}{v:Value}{st:Bool}{K:List Nat}(h:Kn C U A S B X τ V w)(hCG:C.st=true->st=true)(fr:Fr ⟨st,K,τ,w⟩ τ' w')(hK:∀g ∈ K,g<C.w0.heap.size->g ∈ C.K)(hnq:u.nq=false->st=true)(htg:u.br=false->Tg τ->Tg τ')(hup:u.up=none)(hnb:u.nb=none)(hnc:u.nc=[])(hρ:∀s,S s->V'.ρ s=V.ρ s)(hβ:V'.β=V.β)(hι:V'.ι=V.ι)
  (hns:∀q f,at? u.ns q=some f->f.ok C U τ' V' (V'.ρ (A.sy.length+q))) (hr:u.r.ok τ' V' v) (hold:∀n x,B n->at? A.bk n=some x->x.ok V w' (V.β n)):Res C U A u S B X τ V w v τ' V' w':=by
 have hF:=h.fr
 refine⟨⟨fr.th,hF.sub.trans fr.sub,fr.os.trans hF.os,fr.tape.trans hF.tape,fr.output.trans hF.output,zF2 hF.size fr.size,fun b hb hn=>fr.non b (Nat.lt_of_lt_of_le hb hF.size) (hF.non b hb hn),fun b hb hn hk=>(fr.blk b (Nat.lt_of_lt_of_le hb hF.size) (hF.non b hb hn) (fun hm=>hk (hK b hm hb))).trans (hF.blk b hb hn hk),fun hst b hb hn=>?_⟩,fr.sub,fr.size,fr.non,fun hq b s hb _=>?_,htg,hρ,fun n _=>by rw[hβ],fun c _=>by rw[hι],hns,hr,fun n x hn hx _=>?_,fun n l T x e=> Q62,fun x e=> Q71,fun c hc=>(by rw[hnc]at hc;cases hc)⟩
 .
  obtain⟨a1,a2⟩:=hF.str hst b hb hn
  obtain⟨a3,a4⟩:=fr.str (hCG hst) b (Nat.lt_of_lt_of_le hb hF.size) (by show τ b ≠ none;rw[a1];exact hn)
  exact⟨a3.trans a1,a4.trans a2⟩
 .
  exact(fr.str (hnq hq) b (hF.th.lt hb) (by show τ b ≠ none;rw[hb];simp)).2
 .
  rw[hβ];obtain⟨c1,c2,c3⟩:=h.bc n x hx hn
  exact Bk.on (hold n x hn hx) (fun s hs=>hρ s (c1 s hs)) (fun b _=>by rw[hβ]) (fun c _=>by rw[hι])
theorem pB {st:Bool}{K:List Nat}(h:Kn C U A S B X τ V w)(fr:Fr ⟨st,K,τ,w⟩ τ' w'){n:Nat}{T:TypeId}{l:List CV}(hn:B n)(hx:at? A.bk n=some (.cells T l))(hk:V.β n ∉ K):(Bk.cells T l).ok V w' (V.β n):=by
 obtain⟨⟨vs,hb,hal⟩,h1,h2,_⟩:=h.bk n _ hx hn;exact⟨vs,(fr.blk _ h2 h1 hk).trans hb,hal⟩
theorem zK (h:Kn C U A S B X τ V w){b:Nat}{n:Int}(hB:B b)(hb:at? A.bk b=some .cur){c:Call}{u:Out}{x0 x1:Operand}(hc:c.callee=.value (.func 30))(ea:c.args.toList=[x0,x1])(e0:a.eval x0=.pointer (some ⟨V.β b,0,none⟩))(e1:a.eval x1=.int .i64 n)(hn:n<=1000000)(hu:u.ns=[]/\u.nb=none/\u.up=none/\u.nc=[]/\u.nq=false)(hr:∀x:Int,0<=x->(0<n->x<n)->(n<=0->x=0)->u.r.ok τ V (.int .i64 x)):dW C U A ⟨d,.call c,ty,pos,aft,gd⟩ u S B X τ V a w:=by
 obtain⟨hcu,hcn,Aj,hK⟩:=h.bk b _ hb hB;have hlo:=h.lo b hb hB;refine dW.call hc Q6 ?_;rw[aPm ea];simp only[List.map_toArray,zH2,List.map_nil,e0,e1];refine(aPk (V.β b) n w hcu Q0).mono ?_;rintro e w' ⟨x,rfl,h1,h2,h3,hdr⟩
 have Aw:∀g s,τ g=some s->some g ≠ some (V.β b):=by rintro g s hg e9;cases e9;rw[hcn]at hg;cases hg
 have fr:Fr ⟨true,[V.β b],τ,w⟩ τ w':=⟨h.fr.th.on fun g s hg=>hdr.2.block g (h.fr.th.lt hg) (Aw g s hg),Sub.refl _,hdr.2.os,hdr.2.tape,hdr.2.output,hdr.2.size,fun _ _ h9=>h9,fun g hg _ hk=>hdr.2.block g hg (by intro e9;cases e9;simp at hk),fun _ g hg hn9=>⟨rfl,hdr.2.block g hg (by
  cases e9:τ g with
  | none=>exact absurd e9 hn9
  | some s=>exact Aw g s e9)⟩⟩
 refine⟨.int .i64 x,τ,V,rfl,Res.call h (fun _=>rfl) fr (fun g hg hlt9=>?_) (fun _=>rfl) (fun _ h9=>h9) hu.2.2.1 hu.2.1 hu.2.2.2.1 (fun _ _=>rfl) rfl rfl (fun q f hq=>by rw[hu.1]at hq;simp[at?]at hq) (hr x h1 h2 h3) (fun m y hm hy=>?_)⟩
 .
  rw[List.mem_singleton.1 hg]at hlt9 ⊢
  rcases hK with hK|hK
  .
   exact hK
  .
   omega
 .
  cases y with
  | cur=>
   have e1:=h.cu m hy;have e2:=h.cu b hb;subst e1 e2;exact hdr.1
  | cells T l=>exact pB h fr hm hy (by
    simp only[List.mem_singleton]
    exact h.dj m b _ _ hy hb hm hB (by rintro rfl;rw[hb]at hy;cases hy))
theorem aOn (h:Kn C U A S B X τ V w)(hT0:TH C.τ0 C.w0){I:Inp}(hI:I.fa=V.ρ 0){p:CP}(hp:nJ p=true)(h0:rB p=true->Us0 G C A S V w/\U=Us (V.ρ 0) C.w0){x:AV}{v:Value}(hx:x.ok τ V v)(hs:∀s ∈ x.sy,S s)(hm:A.mat p x=true):p.ok τ w I v:=by
 cases p with
 | cur=>cases hp
 | gen=>cases hp
 | int lo hi=>
  cases x <;> simp only[AS.mat,Bool.false_eq_true]at hm
  split at hm
  .
   rename_i l r hr
   simp only[zC0,zE3]at hm;obtain⟨n,rfl,h1,h2⟩:=kD h hx hs hr
   exact⟨n,rfl,by omega,by omega⟩
  .
   cases hm
 | bool=>
  cases x <;> simp only[AS.mat,Bool.false_eq_true]at hm
  rename_i y
  cases y <;> simp at hm
  .
   exact⟨_,hx⟩
  .
   obtain⟨b,e,_⟩:=hx;exact⟨b,e⟩
 | str=>
  cases x <;> simp only[AS.mat,Bool.false_eq_true]at hm
  rename_i y
  cases y <;> simp at hm
  exact hx
 | sl k lo hi=>
  cases x <;> simp only[AS.mat,Bool.false_eq_true]at hm
  exact oC h hx hs hm
 | rc t=>
  cases x <;> simp only[AS.mat,Bool.false_eq_true]at hm
  .
   simp only[beq_iff_eq]at hm;subst hm;exact hx
  .
   obtain⟨vs,e,h1⟩:=hx;exact⟨vs,e,tB h h1 hs hm⟩
 | un=>
  obtain⟨h1,h2⟩:=h0 rfl
  cases x with
  | c y=>
   cases y with
   | sl s=>
    simp only[AS.mat]at hm
    split at hm
    .
     rename_i f hf
     simp only[zC0]at hm;obtain⟨a1,_,_,_,a5,_⟩:=h.sy s f hf (hs s Q33);rw[Rs.eq_eq hm.1]at a1
     have hv:v=V.ρ s:=hx
     rw[hv];refine⟨a1, ?_⟩
     have:=a5 hm.2
     rw[h2]at this;rw[hI];exact(h1.on h.fr hT0).1 this
    .
     cases hm
   | _=>simp[AS.mat]at hm
  | _=>simp[AS.mat]at hm
 | fa=>
  obtain⟨h1,h2⟩:=h0 rfl
  cases x with
  | c y=>
   cases y with
   | sl s=>
    cases s with
    | succ s=>simp[AS.mat]at hm
    | zero=>
     have hv:v=V.ρ 0:=hx
     rw[hv];exact⟨hI.symm,h1.fa.sub h.fr.sub⟩
   | _=>simp[AS.mat]at hm
  | _=>simp[AS.mat]at hm
theorem sV (h:Kn C U A S B X τ V w)(hT0:TH C.τ0 C.w0){I:Inp}(hI:I.fa=V.ρ 0):∀{ps:List CP} {xs:List Operand},ps.all nJ=true->(∀p ∈ ps,rB p=true->Us0 G C A S V w/\U=Us (V.ρ 0) C.w0)->(∀x ∈ xs,Opd A S B X τ V a x)->A.mats ps (evs A xs)=true->aDn τ w I ps (xs.map a.eval)
 | [],[],_,_,_,_=>rfl
 | [],_ :: _,_,_,_,h9=>by cases h9
 | _ :: _,[],_,_,_,h9=>by cases h9
 | p :: ps,x :: xs,hp,h0,ho,hm=>by
  simp only[List.all_cons,zC0]at hp;simp only[evs,AS.mats,zC0]at hm;obtain⟨q1,q2,_⟩:=ho x Q9
  exact⟨a.eval x,xs.map a.eval,rfl,aOn h hT0 hI hp.1 (h0 p Q9) q1 q2 hm.1,sV h hT0 hI hp.2 (fun p hp=>h0 p (by simp[hp])) (fun y hy=>ho y (by simp[hy])) hm.2⟩
theorem aOh (h:Kn C U A S B X τ V w){I:Inp}(hI:I.fa=V.ρ 0){r:RP}(hix:aL9 r=true->S 0){v:Value}{st:Bool}(hst:C.st=true->st=true)(hr:r.ok st τ' w.heap.size I v)(hn:∀q,q<(r.out A.sy.length).ns.length->¬S (A.sy.length+q)):
  ∃V':Vl,(∀s,S s->V'.ρ s=V.ρ s)/\V'.β=V.β/\V'.ι=V.ι/\(∀q f,at? (r.out A.sy.length).ns q=some f->f.ok C U τ' V' (V'.ρ (A.sy.length+q)))/\(r.out A.sy.length).r.ok τ' V' v:=by
 have slf:∀(k:Rs) (lo hi:Nat) (own:Bool) (u:Value) (V':Vl),SVb τ' k lo hi u->(own=true->st=true->∀g,u.ownBlock=some g->w.heap.size<=g)->(sf k lo hi own).ok C U τ' V' u:=fun k lo hi own u V' h1 h2=>⟨h1.1,h1.2.1,h1.2.2,(fun ho hC g hg=>zF2 h.fr.size (h2 ho (hst hC) g hg)),(fun h9=>by cases h9),(fun h9=>by cases h9),(fun s h9=>by cases h9)⟩
 have one:∀(k:Rs) (lo hi:Nat) (own:Bool) (u:Value),SVb τ' k lo hi u->(own=true->st=true->∀g,u.ownBlock=some g->w.heap.size<=g)->(∀q,q<1->¬S (A.sy.length+q))->(∀s,S s->(V.add A.sy.length [u]).ρ s=V.ρ s)/\(V.add A.sy.length [u]).ρ A.sy.length=u/\∀q f,at? [sf k lo hi own] q=some f->f.ok C U τ' (V.add A.sy.length [u]) ((V.add A.sy.length [u]).ρ (A.sy.length+q)):=by
  intro k lo hi own u h1 h2 hn1
  have hV:(V.add A.sy.length [u]).ρ A.sy.length=u:=Vl.add_at (q:=0) rfl
  refine⟨jR (fun q hq=>hn1 q Q65),hV,fun q f hq=>?_⟩
  cases q with
  | succ q=>simp[at?]at hq
  | zero=>
   simp only[at?,zG2]at hq;subst hq;rw[zG1,hV];exact slf k lo hi own u _ h1 h2
 have none:∀q f,at? ([]:List SF) q=some f->f.ok C U τ' V (V.ρ (A.sy.length+q)):=fun q f hq=>by simp[at?]at hq
 cases r with
 | int lo hi=>exact⟨V,fun _ _=>rfl,rfl,rfl,none,hr⟩
 | bool=>obtain⟨b,rfl⟩:=hr;exact⟨V,fun _ _=>rfl,rfl,rfl,none,iK V b⟩
 | sl k lo hi=>
  obtain⟨h1,h2,h3⟩:=one k lo hi true v hr.1 (fun _=>hr.2) hn
  exact⟨_,h1,rfl,rfl,h3,h2.symm⟩
 | rc t=>exact⟨V,fun _ _=>rfl,rfl,rfl,none,hr⟩
 | tb t=>obtain⟨vs,b,rfl,h1⟩:=hr;exact⟨V,fun _ _=>rfl,rfl,rfl,none,vs,_,rfl,h1,iK V b⟩
 | ts t k lo hi=>
  obtain⟨vs,u,rfl,h1,h2,h3⟩:=hr
  obtain⟨a1,a2,a3⟩:=one k lo hi true u h2 (fun _=>h3) hn
  exact⟨_,a1,rfl,rfl,a3,vs,u,rfl,h1,a2.symm⟩
 | ixf=>
  obtain⟨x,rfl,h1⟩:=hr;rw[hI]at h1
  exact⟨V,fun _ _=>rfl,rfl,rfl,none,x,rfl,by omega⟩
 | num=>
  obtain⟨x,y,rfl,h1,h2⟩:=hr
  exact⟨V,fun _ _=>rfl,rfl,rfl,none,_,rfl,_,_,rfl,⟨x,rfl,h1.1,h1.2⟩,_,_,rfl,⟨y,rfl,h2.1,h2.2⟩,_,_,rfl,rfl,_,_,rfl,rfl,_,_,rfl,rfl,rfl⟩
 | vr=>
  obtain⟨x,y,u,rfl,h1,h2,h3⟩:=hr
  obtain⟨a1,a2,a3⟩:=one .bt 0 4 false u h3 (fun h9=>by cases h9) hn
  exact⟨_,a1,rfl,rfl,a3,_,rfl,_,_,rfl,⟨x,rfl,h1.1,h1.2⟩,_,_,rfl,⟨y,rfl,h2.1,h2.2⟩,_,_,rfl,rfl,_,_,rfl,a2.symm,_,_,rfl,rfl,rfl⟩
theorem aJ8 (h:Kn C U A S B X τ V w)(hCG:C.st=G.st)(hT0:TH C.τ0 C.w0)(hG:∀k ∈ G.cons,qK k)(h0:G.us=true->Us0 G C A S V w/\U=Us (V.ρ 0) C.w0)(Aj:∀b c,A.gen b=true->B b->at? A.bk c=some .cur->B c->V.β c<V.β b){c:Call}{f:Nat}{u:Out}(hc:c.callee=.value (.func f))(hf:has f FS=true)(hx:∀x ∈ c.args.toList,Opd A S B X τ V a x):∀(cs:List Con),(∀k ∈ cs,qK k)->nV A G.st G.us f (evs A c.args.toList) cs=some u->(∀q,q<u.ns.length->¬S (A.sy.length+q))->dW C U A ⟨d,.call c,ty,pos,aft,gd⟩ u S B X τ V a w
 | [],_,hu,_=>by cases hu
 | k :: cs,hk,hu,hn=>by
  simp only[nV]at hu
  split at hu
  .
   rename_i hh
   simp only[zC0,beq_iff_eq,Bool.or_eq_true,Bool.not_eq_true']at hh;obtain⟨⟨⟨⟨⟨rfl,hst⟩,htg⟩,hhead⟩,hus⟩,hm⟩:=hh;cases hu;have hko:=hk k Q9
   have hTg:k.tg=true->Tg τ:=fun h9=>h.tg (by rcases htg with h8|h8;exact h8;rw[h9]at h8;cases h8)
   have hCst:C.st=true->k.st=true:=fun e=>by
    rcases hst with h9|h9
    .
     exact h9
    .
     rw[hCG,h9]at e;cases e
   have hus0:∀p ∈ k.args,rB p=true->Us0 G C A S V w/\U=Us (V.ρ 0) C.w0:=fun p hp hpu=>by
    rcases hus with h9|h9
    .
     exact h0 h9
    .
     exfalso
     have:k.args.any rB=true:=List.any_eq_true.2 ⟨p,hp,hpu⟩
     rw[this]at h9
     simp at h9
   have hix:aL9 k.res=true->S 0:=fun hi=>by
    rcases hus with h9|h9
    .
     exact(h0 h9).1.s0
    .
     rw[hi]at h9;simp at h9
   have hnU:(k.res.out A.sy.length).up=none/\(k.res.out A.sy.length).nb=none/\(k.res.out A.sy.length).nc=[]:=by cases k.res <;> exact⟨rfl,rfl,rfl⟩
   have fin:∀(I:Inp),I.fa=V.ρ 0->k.Env τ w I->aDn τ w I k.args (c.args.toList.map a.eval)->(∀g ∈ k.K I,g<C.w0.heap.size->g ∈ C.K)->(∀τ' w',Fr ⟨k.st,k.K I,τ,w⟩ τ' w'->k.After w' I->∀n x,B n->at? A.bk n=some x->x.ok V w' (V.β n))->dW C U A ⟨d,.call c,ty,pos,aft,gd⟩ { k.res.out A.sy.length with br:=!k.st,nq:=!k.st,nt:=true,nm:=bW k.args } S B X τ V a w:=by
    intro I hI hE hA hK hold;refine dW.call hc hf ?_
    have e9:c.args.map a.eval=(c.args.toList.map a.eval).toArray:=by
     apply Array.toList_inj.1
     simp
    rw[e9];refine(hko τ w I _ h.fr.th hTg hE hA).mono ?_;rintro e w' ⟨v,τ',rfl,fr,ht',haft,hres⟩;obtain⟨V',p1,p2,p3,p4,p5⟩:=aOh (C:=C) (U:=U) h hI hix hCst hres hn
    exact⟨v,τ',V',rfl,Res.call h hCst fr hK (fun h9=>by simpa using h9) (fun h9 h10=>ht' (by simpa using h9) h10) hnU.1 hnU.2.1 hnU.2.2 p1 p2 p3 p4 p5 (hold τ' w' fr haft)⟩
   have curOn:∀(K:List Nat) (τ':Sm) (w':World),Fr ⟨k.st,K,τ,w⟩ τ' w'->∀n,B n->at? A.bk n=some .cur->(∀q,q<=V.β n->q ∉ K)->Cur w' (V.β n):=fun K τ' w' fr n hBn hxn hnk=>by
    obtain⟨b1,b2,b3,_⟩:=h.bk n _ hxn hBn
    refine Cur.on b1 fun q hq=>?_
    rcases Nat.lt_or_eq_of_le hq with h9|h9
    .
     exact fr.blk q (by show q<w.heap.size;omega) ((h.lo n hxn hBn).2 q h9).1 (hnk q hq)
    .
     subst h9;exact fr.blk _ b3 b2 (hnk _ hq)
   have plain:(bW k.args=false/\iC k.args=false)->(∀I:Inp,I.fa=V.ρ 0->aDn τ w I k.args (c.args.toList.map a.eval))->dW C U A ⟨d,.call c,ty,pos,aft,gd⟩ { k.res.out A.sy.length with br:=!k.st,nq:=!k.st,nt:=true,nm:=bW k.args } S B X τ V a w:=by
    rintro⟨hg1,hg2⟩ hA
    have hKe:k.K ⟨0,0,V.ρ 0,.bool true,.bool true,.bool true,.bool true,.bool true,.bool true,true⟩=[]:=by unfold Con.K;rw[hg1,hg2];rfl
    refine fin ⟨0,0,V.ρ 0,.bool true,.bool true,.bool true,.bool true,.bool true,.bool true,true⟩ rfl ⟨(fun h9=>by rw[hg1]at h9;cases h9),(fun h9=>by rw[hg2]at h9;cases h9)⟩ (hA _ rfl) (by rw[hKe];intro g hg;cases hg) (fun τ' w' fr _ n x hBn hxn=>?_)
    rw[hKe]at fr
    cases x with
    | cur=>exact curOn [] τ' w' fr n hBn hxn (fun q _=>by simp)
    | cells T l=>exact pB h fr hBn hxn Q9
   have inK:∀n x,at? A.bk n=some x->B n->V.β n<C.w0.heap.size->V.β n ∈ C.K:=fun n x hx' hn' hlt'=>by
    obtain⟨_,_,_,h9⟩:=h.bk n x hx' hn'
    rcases h9 with h9|h9
    .
     exact h9
    .
     omega
   obtain⟨ka,hka⟩:∃l,k.args=l:=⟨_,rfl⟩
   cases ka with
   | nil=>
    rw[hka]at hm
    exact plain ⟨by rw[hka];rfl,by rw[hka];rfl⟩ (fun I hI=>by rw[hka];exact sV (G:=G) h hT0 hI rfl (fun p hp=>by cases hp) hx hm)
   | cons p ps=>
    rw[hka]at hm hhead
    obtain⟨ca,hca⟩:∃l,c.args.toList=l:=⟨_,rfl⟩
    rw[hca]at hm hx
    cases ca with
    | nil=>cases hm
    | cons x0 xs=>
     have hps:ps.all nJ=true:=hhead
     have hus':∀q ∈ ps,rB q=true->Us0 G C A S V w/\U=Us (V.ρ 0) C.w0:=fun q hq=>hus0 q (by rw[hka];simp[hq])
     by_cases hpp:nJ p=true
     .
      refine plain ⟨by rw[hka];cases p <;> first|rfl|(cases hpp),by rw[hka];cases p <;> first|rfl|(cases hpp)⟩ (fun I hI=>?_)
      rw[hka,hca]
      exact sV h hT0 hI (by simp[hpp,hps]) (fun q hq=>hus0 q (by rw[hka];exact hq)) hx hm
     .
      simp only[evs,AS.mats,zC0]at hm;obtain⟨q1,q2,q3,_⟩:=hx x0 Q9
      have tail:∀I:Inp,I.fa=V.ρ 0->aDn τ w I ps (xs.map a.eval):=fun I hI=>sV h hT0 hI hps hus' (fun y hy=>hx y (by simp[hy])) hm.2
      cases p with
      | cur=>
       have hm1:=hm.1
       cases hav:A.ev x0 with
       | c y=>
        rw[hav]at hm1 q1 q3
        cases y with
        | ptr b o=>
         cases o with
         | succ o=>simp[AS.mat]at hm1
         | zero=>
          have hbc:at? A.bk b=some .cur:=by
           simp only[AS.mat]at hm1
           split at hm1
           .
            rename_i e;exact e
           .
            cases hm1
          have hBb:B b:=q3 b Q57
          obtain⟨b1,b2,b3,_⟩:=h.bk b _ hbc hBb
          have hKe:k.K ⟨V.β b,0,V.ρ 0,.bool true,.bool true,.bool true,.bool true,.bool true,.bool true,true⟩=[V.β b]:=by unfold Con.K;rw[hka];rfl
          refine fin ⟨V.β b,0,V.ρ 0,.bool true,.bool true,.bool true,.bool true,.bool true,.bool true,true⟩ rfl ⟨(fun h9=>by rw[hka]at h9;cases h9),fun _=>⟨b1,b2,fun g hg=>((h.lo b hbc hBb).2 g hg).1⟩⟩ (by rw[hka,hca];exact⟨_,_,rfl,q1,tail _ rfl⟩) (by rw[hKe];intro g hg hlt9;rw[List.mem_singleton.1 hg]at hlt9 ⊢;exact inK b _ hbc hBb hlt9) (fun τ' w' fr haft n x hBn hxn=>?_)
          rw[hKe]at fr
          cases x with
          | cur=>
           have e1:=h.cu n hxn;have e2:=h.cu b hbc;subst e1 e2
           exact haft.cur (by rw[hka];rfl)
          | cells T l=>exact pB h fr hBn hxn (by
            simp only[List.mem_singleton]
            exact h.dj n b _ _ hxn hbc hBn hBb (by rintro rfl;rw[hbc]at hxn;cases hxn))
        | _=>simp[AS.mat]at hm1
       | _=>rw[hav]at hm1;simp[AS.mat]at hm1
      | gen=>
       have hm1:=hm.1
       obtain⟨hu0,hU⟩:=hus0 .gen (by rw[hka];simp) rfl
       cases hav:A.ev x0 with
       | c y=>
        rw[hav]at hm1 q1 q3
        cases y with
        | ptr b o=>
         cases o with
         | succ o=>simp[AS.mat]at hm1
         | zero=>
          have hgen:A.gen b=true:=hm1
          have hBb:B b:=q3 b Q57
          subst hU
          obtain⟨I,c',i1,i2,hcc,hBc,i3,hGen,nv,vv,pv,iv,av,hbk,⟨g1,g2,g3,g4,g5⟩,i4⟩:=aO4 h hu0 hT0 hBb hgen (fun c9 h9 h10=>Aj b c9 hgen hBb h9 h10)
          have hKe:k.K I=[I.cb,I.gb]:=by unfold Con.K;rw[hka];rfl
          refine fin I i3 ⟨fun _=>hGen,(fun h9=>by rw[hka]at h9;cases h9)⟩ (by
           rw[hka,hca];refine⟨_,_,rfl, ?_,tail _ i3⟩
           show a.eval x0=_
           rw[i1]
           exact q1) (by
           rw[hKe];intro g hg hlt9
           rcases zG3.1 hg with rfl|hg
           .
            rw[i2]at hlt9 ⊢;exact inK c' _ hcc hBc hlt9
           .
            rw[List.mem_singleton.1 hg,i1]at hlt9 ⊢;exact inK b _ hbk hBb hlt9) (fun τ' w' fr haft n x hBn hxn=>?_)
          rw[hKe]at fr
          obtain⟨a1,left,cm,a2,a3⟩:=haft.gen (by rw[hka];rfl)
          cases x with
          | cur=>
           have e1:=h.cu n hxn;have e2:=h.cu c' hcc;subst e1 e2;rw[<-i2];exact a1
          | cells T l=>
           by_cases hnb:n=b
           .
            subst hnb;rw[hbk]at hxn;simp only[zG2,Bk.cells.injEq]at hxn;obtain⟨rfl,rfl⟩:=hxn;rw[<-i1];refine⟨_,a3, ?_⟩
            exact⟨_,_,rfl,by show Value.pointer _=Value.pointer _;rw[i2],_,_,rfl,i3,_,_,rfl,g1,_,_,rfl,i4,_,_,rfl,g2,_,_,rfl,g3,_,_,rfl,g4,_,_,rfl,g5,_,_,rfl,⟨1,rfl,Int.le_refl _,Int.le_refl _⟩,_,_,rfl,⟨left,rfl,a2.1,a2.2⟩,_,_,rfl,iK V cm,rfl⟩
           .
            refine pB h fr hBn hxn ?_;simp only[zG3,List.not_mem_nil,or_false,not_or];refine⟨?_, ?_⟩
            .
             rw[i2];exact h.dj n c' _ _ hxn hcc hBn hBc (by rintro rfl;rw[hcc]at hxn;cases hxn)
            .
             rw[i1];exact h.dj n b _ _ hxn hbk hBn hBb hnb
        | _=>simp[AS.mat]at hm1
       | _=>rw[hav]at hm1;simp[AS.mat]at hm1
      | _=>exact absurd rfl hpp
  .
   exact aJ8 h hCG hT0 hG h0 Aj hc hf hx cs (fun k hk'=>hk k (by simp[hk'])) hu hn
end
end Eg
theorem Q23{p:Prop}(h:p:=by simp[Op.operands]):p:=h
theorem Q66{p:Prop}(h:p:=by simp only[Op.operands,zE1];exact⟨p,Ae,rfl⟩):p:=h
namespace Eg
section
variable {C:Cx} {U:Value->Prop} {G:Cfg} {A:AS} {S B X:Nat->Prop} {τ τ':Sm} {V V':Vl} {a:Act} {w w':World} {d:Option Nat} {ty:TypeId} {pos:String} {aft:Array Edge} {gd:Option (Nat × Bool)}
structure Ctx (C:Cx) (U:Value->Prop) (G:Cfg) (A:AS) (S B:Nat->Prop) (V:Vl) (w:World):Prop where
 st:C.st=G.st
 th:TH C.τ0 C.w0
 con:∀k ∈ G.cons,qK k
 us:G.us=true->Us0 G C A S V w/\U=Us (V.ρ 0) C.w0
 lt:∀b c,A.gen b=true->B b->at? A.bk c=some .cur->B c->V.β c<V.β b
theorem Ctx.usOk (h:Kn C U A S B X τ V w)(hC:Ctx C U G A S B V w):aSf G U V w:=fun hg b j n c i v e hi hc=>by
 obtain⟨h1,h2⟩:=hC.us hg;rw[h2];exact h1.useW h.fr hC.th b j n c i v e hi hc
theorem aMj {l:List Operand}{p q:AV}(h:evs A l=[p,q]):∃x0 x1,l=[x0,x1]/\A.ev x0=p/\A.ev x1=q:=by
 match l,h with
 | [x0,x1],h=>simp only[evs,zK0,and_true]at h;exact⟨x0,x1,rfl,h.1,h.2⟩
theorem aLx {p:AV}(h:A.mat .cur p=true):∃b,p=.c (.ptr b 0)/\at? A.bk b=some .cur:=by
 cases p with
 | c x=>
  cases x with
  | ptr b o=>
   cases o with
   | zero=>
    refine⟨b,rfl, ?_⟩;simp only[AS.mat]at h
    split at h
    .
     assumption
    .
     cases h
   | succ o=>simp[AS.mat]at h
  | _=>simp[AS.mat]at h
 | _=>simp[AS.mat]at h
theorem aH6 (h:Kn C U A S B X τ V w)(hC:Ctx C U G A S B V w){c:Call}{f:Nat}{u:Out}(hc:c.callee=.value (.func f))(hx:∀x ∈ c.args.toList,Opd A S B X τ V a x)(hu:aGj G A f (evs A c.args.toList)=some u)(hn:∀q,q<u.ns.length->¬S (A.sy.length+q)):dW C U A ⟨d,.call c,ty,pos,aft,gd⟩ u S B X τ V a w:=by
 unfold aGj at hu
 split at hu
 .
  cases hu
 .
  rename_i hf
  have hf':has f FS=true:=by simpa using hf
  split at hu
  .
   rename_i hb
   have hb':f=30:=by simpa using hb
   subst hb'
   split at hu
   .
    rename_i p x exs
    obtain⟨x0,x1,el,e0,e1⟩:=aMj exs
    have hx0:=hx x0 (by rw[el];simp)
    have hx1:=hx x1 (by rw[el];simp)
    split at hu
    .
     rename_i hm
     obtain⟨b,rfl,hbc⟩:=aLx hm;have v0:=hx0.1;have b0:=hx0.2.2.1;rw[e0]at v0 b0
     have hB:B b:=b0 b Q57
     have v1:=hx1.1;have s1:=hx1.2.1;rw[e1]at v1 s1
     have v1c:CV.ok V x (a.eval x1):=v1
     split at hu
     .
      rename_i s k lo hi hr
      split at hu
      .
       rename_i hh
       simp only[zC0,zE3]at hh;cases hu;obtain⟨n,en,h1,h2⟩:=kD h v1c s1 hr
       have v1':a.eval x1=.int .i64 ((ln (V.ρ s):Int)-k):=v1
       refine zK h hB hbc hc el v0 v1' (by rw[en]at v1';cases v1';omega) ⟨rfl,rfl,rfl,rfl,rfl⟩ (fun x hx0 hx1 _=>?_)
       rw[en]at v1'
       cases v1'
       have:=hx1 Q0
       exact⟨x.toNat,by rw[Int.toNat_of_nonneg hx0],by omega⟩
      .
       cases hu
     .
      rename_i lo hi _ hr
      split at hu
      .
       rename_i hh
       simp only[zE3]at hh;cases hu;obtain⟨n,en,h1,h2⟩:=kD h v1c s1 hr
       refine zK h hB hbc hc el v0 en Q0 ⟨rfl,rfl,rfl,rfl,rfl⟩ (fun x hx0 hx1 hx2=>⟨x,rfl,hx0, ?_⟩)
       split
       .
        rename_i h9
        simp only[zE3]at h9
        rcases Int.lt_or_le 0 n with h8|h8
        .
         have:=hx1 h8;omega
        .
         have:=hx2 h8;omega
       .
        rename_i h9
        simp only[zE3]at h9
        have:=hx2 Q0
        omega
      .
       cases hu
     .
      cases hu
    .
     cases hu
   .
    cases hu
  .
   exact aJ8 h hC.st hC.th hC.con hC.us hC.lt hc hf' hx G.cons hC.con hu hn
theorem aQ4 (h:Kn C U A S B X τ V w)(hS:aG4 V S)(hC:Ctx C U G A S B V w){o:Oper}{u:Out}(hu:cK G A o=some u)(hp:∀x y z,o.op ≠ .pick x y z)(hx:∀x ∈ o.op.operands.toList,Opd A S B X τ V a x)(hcf:u.cu=true->∀c ∈ A.cf,c.ok V w)(hn:∀q,q<u.ns.length->¬S (A.sy.length+q))(hnX:u.nx=true->¬X A.ni)(hnB:¬B A.bk.length):dW C U A o u S B X τ V a w:=by
 obtain⟨d,op,ty,pos,aft,gd⟩:=o
 cases op with
 | move x=>cases hu;exact aLo h (hx x Q23)
 | assign x=>cases hu;exact aEv h (hx x Q23)
 | nilCheck x=>exact xA h (hx x Q23) hu
 | fieldAddr T x f=>exact uY h (hx x Q23) hu
 | load T x=>exact aLp h (Ctx.usOk h hC) (hx x Q23) hu hcf hn
 | store T x y=>exact aH4 h hS hC.st (hx x Q23) (hx y Q23) hu hn
 | build T ps=>exact aH7 h hS (fun p Ae=>hx p.2 Q66) hu
 | buildSlice T n ps=>exact sT h (fun p Ae=>hx p.2 Q66) hu hn
 | alloc T=>exact zL h hu hnB
 | box T x=>exact aOl h hS (hx x Q23) hu hnB hn
 | binOp op T x y T'=>exact aH8 h (hx x Q23) (hx y Q23) hu
 | unOp op T x=>exact aLm h (hx x Q23) hu
 | pick x y z=>exact absurd rfl (hp x y z)
 | convert T D x=>exact aCj h hC.st (hx x Q23) hu hn
 | extract x i=>exact aCi h (hx x Q23) hu
 | indexAddr T x i=>exact uX h (hx x Q23) (hx i Q23) hu hnX
 | slice T x lo hi m=>
  cases lo with
  | none=>cases hu
  | some lo=>
   cases hi with
   | some _=>cases hu
   | none=>
    cases m with
    | some _=>cases hu
    | none=>exact aH5 h (hx x Q23) (hx lo Q23) hu hn
 | call c=>
  have hx':∀x ∈ c.args.toList,Opd A S B X τ V a x:=fun x hx9=>hx x (by simp only[Op.operands,Call.operands,Array.toList_append,List.mem_append];exact .inr hx9)
  obtain⟨cal,hcal⟩:∃y,c.callee=y:=⟨_,rfl⟩
  cases cal with
  | value g=>
   cases g with
   | func f=>
    simp only[cK,hcal]at hu;exact aH6 h hC hcal hx' hu hn
   | _=>simp[cK,hcal]at hu
  | builtin b=>
   cases b with
   | len=>exact aOk h hS hcal hx' hu
   | append=>exact aEw h hC.st hcal hx' hu hn
   | _=>simp[cK,hcal]at hu
  | _=>simp[cK,hcal]at hu
 | _=>cases hu
end
end Eg
namespace Eg
structure wG (G:Cfg) (ops:List Oper) (ms:List Nat) (B:AS) (is:List Ri) (i:Nat) (o:Oper) (A:AS) (u:Out) (st:Option Bool) (A':AS) (ri:Ri):Prop where
 edge:lZ i o.after.toList=true
 gbit:oX ms i o.guard=true
 look:zV ops ms is i o=true
 gst:xS ops A is o=some st
 lay:A'=A.lay o.dst u
 no:st=some false->u={ r:=.c .und }/\ri=Ri.of true false u
 yes:st ≠ some false->∃u0,aHl G ops B A i o=some u0/\(st=none->aPv u0=true)/\u=noNc (xM st) (trim A B.sy.length o u0)/\ri=Ri.of (aPy A o) (xM st) u0
theorem dG {α:Type}{l r:List α}{n:Nat}:at? (l++r) n=if n<l.length then at? l n else at? r (n-l.length):=by
 rw[eK,eK,eK];exact List.getElem?_append
theorem uN {G:Cfg}{ops:List Oper}{ms:List Nat}{B F:AS}{I:List Ri}:∀(r:List Oper) (i:Nat) (A:AS) (is:List Ri),is.length=i->uO G ops ms B i r A is=some (F,I) →
  ∃(f:Nat->AS) (g:Nat->Out) (st:Nat->Option Bool),f i=A/\f (i+r.length)=F/\I.take i=is/\I.length=i+r.length/\∀k o,r[k]?=some o->∃ri,I[i+k]?=some ri/\wG G ops ms B (I.take (i+k)) (i+k) o (f (i+k)) (g (i+k)) (st (i+k)) (f (i+k+1)) ri
 | [],i,A,is,hl,h=>by
  simp only[uO,zG2,Prod.mk.injEq]at h;obtain⟨rfl,rfl⟩:=h
  exact⟨fun _=>A,fun _=>{ r:=.c .und },fun _=>none,rfl,rfl,by rw[<-hl];exact List.take_length,by simp[hl],fun k o hk=>by simp at hk⟩
 | o :: r,i,A,is,hl,h=>by
  have go:∀(u:Out) (st0:Option Bool) (ri0:Ri),uO G ops ms B (i+1) r (A.lay o.dst u) (is++[ri0])=some (F,I)->wG G ops ms B is i o A u st0 (A.lay o.dst u) ri0->∃(f:Nat->AS) (g:Nat->Out) (st:Nat->Option Bool),f i=A/\f (i+(o :: r).length)=F/\I.take i=is/\I.length=i+(o :: r).length/\∀k o',(o :: r)[k]?=some o'->∃ri,I[i+k]?=some ri/\wG G ops ms B (I.take (i+k)) (i+k) o' (f (i+k)) (g (i+k)) (st (i+k)) (f (i+k+1)) ri:=by
   intro u st0 ri0 hr hs
   obtain⟨f,g,st,h1,h2,h3,h4,h5⟩:=uN r (i+1) _ _ (by simp[hl]) hr
   have h3':I.take i=is:=by
    have:=congrArg (List.take i) h3
    rw[List.take_take,Nat.min_eq_left Q0,<-hl,List.take_left']at this
    .
     rw[hl]at this;exact this
    .
     rfl
   refine⟨fun k=>if k=i then A else f k,fun k=>if k=i then u else g k,fun k=>if k=i then st0 else st k,by simp, ?_,h3',by rw[h4,zB1];omega,fun k o' hk=>?_⟩
   .
    show(if i+(r.length+1)=i then A else f (i+(r.length+1)))=F
    rw[if_neg Q0,show i+(r.length+1)=i+1+r.length by omega];exact h2
   .
    cases k with
    | zero=>
     simp only[List.getElem?_cons_zero,zG2]at hk;subst hk;refine⟨ri0, ?_, ?_⟩
     .
      have h9:(I.take (i+1))[i]?=some ri0:=by rw[h3,List.getElem?_append_right Q0,hl];simp
      rw[List.getElem?_take]at h9
      simpa using h9
     .
      simp only[zG1,h3',if_true,if_neg (show ¬i+1=i by omega),h1]
      exact hs
    | succ k=>
     rw[List.getElem?_cons_succ]at hk;obtain⟨ri,q1,q2⟩:=h5 k o' hk
     rw[show i+1+k=i+(k+1) by omega]at q1 q2
     refine⟨ri,q1, ?_⟩
     simp only[if_neg (show ¬i+(k+1)=i by omega),if_neg (show ¬i+(k+1)+1=i by omega)]
     exact q2
  simp only[uO]at h
  split at h
  .
   rename_i hc
   simp only[zC0]at hc
   split at h
   .
    rename_i hg
    exact go _ (some false) _ h ⟨hc.1.1,hc.1.2,hc.2,hg,rfl,fun _=>⟨rfl,rfl⟩,fun h9=>absurd rfl h9⟩
   .
    rename_i st0 Aw hg
    simp only[Option.bind_eq_some_iff]at h;obtain⟨u0,hu,h⟩:=h
    split at h
    .
     rename_i hs
     simp only[Bool.or_eq_true,Bool.not_eq_true']at hs
     refine go _ st0 _ h ⟨hc.1.1,hc.1.2,hc.2,hg,rfl,fun h9=>?_,fun _=>⟨u0,hu,fun h9=>?_,rfl,rfl⟩⟩
     .
      subst h9;exact absurd rfl Aw
     .
      subst h9;exact hs.resolve_left (by simp[xM])
    .
     cases h
   .
    cases h
  .
   cases h
section
variable {C:Cx} {U:Value->Prop} {G:Cfg} {A:AS} {S B X:Nat->Prop} {τ τ':Sm} {V V':Vl} {a:Act} {w w':World} {v:Value}
theorem lW (n:Nat)(o:Oper)(u:Out)(b:Bool):(noNc b (trim A n o u)).ns=u.ns/\(noNc b (trim A n o u)).nb=u.nb/\(noNc b (trim A n o u)).up=u.up/\(noNc b (trim A n o u)).nx=u.nx/\(noNc b (trim A n o u)).nq=u.nq/\(noNc b (trim A n o u)).br=u.br:=by
 unfold noNc trim
 split <;> split <;> exact⟨rfl,rfl,rfl,rfl,rfl,rfl⟩
theorem aNh {n:Nat}{o:Oper}{u:Out}(h:u.r.ok τ V v)(b:Bool):(noNc b (trim A n o u)).r.ok τ V v:=by
 have h1:(trim A n o u).r.ok τ V v:=by
  unfold trim
  split
  .
   rename_i c x y z e1 e2
   rw[e2]at h
   show(aHe A n c z).ok V v
   unfold aHe
   split
   .
    obtain⟨t,e,q1,q2⟩:=h
    exact⟨t,e,fun ht c hc=>q1 ht c (List.mem_filter.1 hc).1,fun ht c hc=>q2 ht c (List.mem_filter.1 hc).1⟩
   .
    exact h
  .
   exact h
 unfold noNc
 split
 .
  exact h1
 .
  exact h1
theorem aKz {n:Nat}{o:Oper}{u:Out}{b:Bool}{c:Cf}(h:c ∈ (noNc b (trim A n o u)).nc):c ∈ u.nc:=by
 unfold noNc at h
 split at h
 .
  cases h
 .
  unfold trim at h
  split at h
  .
   exact h
  .
   exact h
theorem Res.trim {n:Nat}{o:Oper}{u:Out}(h:Res C U A u S B X τ V w v τ' V' w')(b:Bool):Res C U A (noNc b (trim A n o u)) S B X τ V w v τ' V' w':=by
 obtain⟨e1,e2,e3,e4,e5,e6⟩:=lW (A:=A) n o u b
 exact⟨h.fr,h.sub,h.size,h.non,by rw[e5];exact h.qt,by rw[e6];exact h.tg,h.ρ,h.β,h.ι,by rw[e1];exact h.ns,aNh h.r b,by rw[e3];exact h.old,by rw[e3];exact h.up,by rw[e2];exact h.nb,fun c hc=>h.nc c (aKz hc)⟩
end
end Eg
namespace Eg
theorem yY {a:Act}{t:Nat}(v:Value)(h:t<a.tmps.size):(a.put (some t) v).eval (.tmp t)=v:=by
 simp[Act.put,Act.eval,h]
theorem sK (a:Act)(d:Option Nat)(v:Value):(a.put d v).tmps.size=a.tmps.size:=by
 cases d <;> simp[Act.put]
theorem kN {a:Act}{d:Option Nat}{v:Value}{t:Nat}(h:d ≠ some t):(a.put d v).eval (.tmp t)=a.eval (.tmp t):=
 Act.eval_put fun q hq e=>h (by cases e;exact hq)
def yK (ops:Array Oper)(a:Act)(o:Oper):Prop:=∀g b,o.guard=some (g,b)->∃og t,ops[g]?=some og/\og.dst=some t/\a.eval (.tmp t)=.bool b
theorem yN {ops:Array Oper}{a:Act}{o:Oper}:Region.wanted o (yielded ops a.tmps)=true ↔ yK ops a o:=by
 unfold Region.wanted yK
 cases hg:o.guard with
 | none=>simp
 | some p=>
  obtain⟨g,b⟩:=p;simp only[beq_iff_eq,zG2,Prod.mk.injEq,and_imp]
  constructor
  .
   rintro h _ _ rfl rfl;unfold yielded at h
   cases ho:ops[g]? with
   | none=>rw[ho]at h;simp at h
   | some og=>
    cases hd:og.dst with
    | none=>rw[ho]at h;simp[hd]at h
    | some t=>
     refine⟨og,t,rfl,hd, ?_⟩;rw[ho]at h;simp only[Option.bind_some,hd]at h
     cases ht:a.tmps[t]? with
     | none=>rw[ht]at h;simp at h
     | some v=>
      rw[ht]at h;simp only[Act.eval,Array.getD_eq_getD_getElem?,ht,zI1]
      cases v <;> simp_all
  .
   intro h;obtain⟨og,t,h1,h2,h3⟩:=h g b rfl rfl;unfold yielded;simp only[h1,Option.bind_some,h2];simp only[Act.eval,Array.getD_eq_getD_getElem?]at h3
   cases ht:a.tmps[t]? with
   | none=>rw[ht]at h3;simp[undef]at h3
   | some v=>rw[ht]at h3;simp only[zI1]at h3;rw[h3]
theorem vD:∀(l:List Oper) (ms:List Nat),(lO ms l).length=ms.length+l.length
 | [],ms=>by simp[lO]
 | o :: l,ms=>by simp only[lO];rw[vD l];simp;omega
theorem pX:∀(l:List Oper) (ms:List Nat) (k:Nat),k<ms.length->at? (lO ms l) k=at? ms k
 | [],ms,k,_=>rfl
 | o :: l,ms,k,h=>by
  simp only[lO];rw[pX l _ k Q29,dG,if_pos h]
theorem zT:∀(l:List Oper) (ms:List Nat) (q:Nat) (o:Oper),l[q]?=some o->∃ms',(∀k,k<ms.length+q->at? ms' k=at? (lO ms l) k)/\ms'.length=ms.length+q/\at? (lO ms l) (ms.length+q)=some (vF ms' o.after.toList)
 | [],_,_,_,h=>by simp at h
 | o :: l,ms,0,o',h=>by
  simp only[List.getElem?_cons_zero,zG2]at h;subst h
  refine⟨ms,fun k hk=>?_,rfl, ?_⟩
  .
   simp only[lO];rw[pX l _ k Q29,dG,if_pos Q0]
  .
   simp only[lO];rw[pX l _ _ Q9,dG,if_neg Q0]
   simp[at?]
 | o :: l,ms,q+1,o',h=>by
  rw[List.getElem?_cons_succ]at h;obtain⟨ms',h1,h2,h3⟩:=zT l (ms++[vF ms o.after.toList]) q o' h
  rw[zA1,List.length_singleton,show ms.length+1+q=ms.length+(q+1) by omega]at h1 h2 h3
  exact⟨ms',h1,h2,h3⟩
theorem pY {ms:List Nat}{j:Nat}:∀{es:List Edge},(vF ms es).testBit j=true->∃e ∈ es,Region.binds .any e=true/\(e.on=j\/((at? ms e.on).getD 0).testBit j=true)
 | [],h=>by simp[vF]at h
 | e :: l,h=>by
  simp only[vF]at h
  split at h
  .
   rename_i hb
   rw[Nat.testBit_or,Nat.testBit_or,Bool.or_eq_true,Bool.or_eq_true,Nat.one_shiftLeft,Nat.testBit_two_pow]at h
   rcases h with h|h|h
   .
    obtain⟨e',h1,h2⟩:=pY h;exact⟨e',by simp[h1],h2⟩
   .
    exact⟨e,by simp,hb,.inl (by simpa using h)⟩
   .
    exact⟨e,by simp,hb,.inr h⟩
  .
   obtain⟨e',h1,h2⟩:=pY h;exact⟨e',by simp[h1],h2⟩
theorem nS {i:Nat}:∀{es:List Edge},lZ i es=true->∀e ∈ es,Region.binds .any e=true->e.on<i
 | [],_,e,h,_=>by cases h
 | e :: l,h,e',h',hb=>by
  simp only[lZ,zC0,Bool.or_eq_true,Bool.not_eq_true',zE3]at h
  rcases zG3.1 h' with rfl|h'
  .
   rcases h.1 with h9|h9
   .
    rw[hb]at h9;cases h9
   .
    exact h9
  .
   exact nS h.2 e' h' hb
theorem vE {l:List Oper}{i j:Nat}{o:Oper}(ho:l[i]?=some o)(he:lZ i o.after.toList=true)(h:bit (lO [] l) i j=true):∃e ∈ o.after.toList,Region.binds .any e=true/\e.on<i/\(e.on=j\/bit (lO [] l) e.on j=true):=by
 obtain⟨ms',h1,h2,h3⟩:=zT l [] i o ho;simp only[zC3,zJ2]at h1 h2 h3;unfold bit at h;rw[h3]at h;obtain⟨e,q1,q2,q3⟩:=pY h;have q4:=nS he e q1 q2
 refine⟨e,q1,q2,q4,q3.imp id fun h9=>?_⟩
 unfold bit;rw[<-h1 e.on q4];exact h9
theorem aAg:∀(l:List Oper) (i k:Nat),k<l.length->at? (xT i l) k=some ((1 <<< (i+k))-1)
 | [],_,_,h=>by simp at h
 | _ :: l,i,0,_=>rfl
 | _ :: l,i,k+1,h=>by
  simp only[xT,at?]
  rw[aAg l (i+1) k (by simpa using h),show i+1+k=i+(k+1) by omega]
theorem vJ {l:List Oper}{i j:Nat}(h:bit (xT 0 l) i j=true):j<i:=by
 unfold bit at h
 rcases zJ3 i l.length with hi|hi
 .
  rw[aAg l 0 i hi,zI1,zJ2,Nat.one_shiftLeft,Nat.testBit_two_pow_sub_one]at h
  simpa using h
 .
  have h9:∀(l:List Oper) (q i:Nat),l.length<=i->at? (xT q l) i=none:=fun l=>by
   induction l with
   | nil=>intro q i _;cases i <;> rfl
   | cons o l ih=>intro q i h9;cases i with
    | zero=>simp at h9
    | succ i=>exact ih (q+1) i (by simpa using h9)
  rw[h9 l 0 i hi]at h
  simp at h
section
variable {G:Cfg} {A:AS} {K:List Bk} {b:Bool}
theorem aN2 (x:CV):AS.rng { A with bk:=K,tg:=b } x=A.rng x:=by cases x <;> rfl
theorem aFq (f:Fd)(x:CV):AS.fit { A with bk:=K,tg:=b } f x=A.fit f x:=by
 cases f <;> cases x <;> rfl
theorem aFp:∀(l:List Fd) (r:List CV),AS.fits { A with bk:=K,tg:=b } l r=A.fits l r
 | [],[]=>rfl
 | [],_ :: _=>rfl
 | _ :: _,[]=>rfl
 | f :: l,x :: r=>by simp only[AS.fits];rw[aFq,aFp l r]
theorem aMe (k:Rs)(x:AV):AS.fitE { A with bk:=K,tg:=b } k x=A.fitE k x:=by
 cases k <;> cases x <;> first|rfl|(simp only[AS.fitE,aFp,aFq,aN2])
theorem aIz (x:Operand):AS.ev { A with bk:=K,tg:=b } x=A.ev x:=by cases x <;> rfl
theorem aEs {o:Oper}(h:aPy A o=true):cK G { A with bk:=K,tg:=b } o=cK G A o:=by
 obtain⟨d,op,ty,pos,aft,gd⟩:=o
 cases op <;> simp only[aPy,Bool.false_eq_true]at h
 case store T x y=>
  have e1:AS.ev { A with bk:=K,tg:=b } x=A.ev x:=aIz x
  have e2:AS.ev { A with bk:=K,tg:=b } y=A.ev y:=aIz y
  have e3:∀f v,AS.fit { A with bk:=K,tg:=b } f v=A.fit f v:=aFq
  have e4:∀k v,AS.fitE { A with bk:=K,tg:=b } k v=A.fitE k v:=aMe
  simp only[cK,e1,e2,e3,e4]
  cases hx:A.ev x with
  | c z=>
   rw[hx]at h
   cases z <;> simp[aMa]at h
   rename_i s k ix p
   generalize cells T=n;generalize A.ev y=v
   rcases n with _|n
   .
    rfl
   .
    rcases n with _|n
    .
     cases k <;> cases p <;> rfl
    .
     rcases n with _|n
     .
      cases k <;> cases p <;> cases v <;> rfl
     .
      cases k <;> cases p <;> rfl
  | _=>rw[hx]at h;simp[aMa]at h
 case move x=>cases x <;> rfl
 case nilCheck x=>cases x <;> rfl
 case fieldAddr T x f=>cases x <;> rfl
 case indexAddr T x i=>cases x <;> cases i <;> rfl
end
end Eg
namespace Eg
theorem dT {α:Type}{l:List α}{n:Nat}{x:α}(h:at? l n=some x):n<l.length:=by
 rw[eK]at h;exact(zC1.1 h).1
theorem tL {α:Type}:∀{l:List α} {n m:Nat} {x y:α},at? (put l n y) m=some x->(m=n/\x=y/\n<l.length)\/(m ≠ n/\at? l m=some x)
 | [],_,_,_,_,h=>by simp[put,at?]at h
 | _ :: l,0,0,x,y,h=>by simp only[put,at?,zG2]at h;exact .inl ⟨rfl,h.symm,by simp⟩
 | _ :: l,0,m+1,x,y,h=>.inr ⟨by omega,h⟩
 | z :: l,n+1,0,x,y,h=>.inr ⟨by omega,h⟩
 | z :: l,n+1,m+1,x,y,h=>by
  simp only[put,at?]at h
  rcases tL h with⟨h1,h2,h3⟩|⟨h1,h2⟩
  .
   exact .inl ⟨by omega,h2,by simpa using h3⟩
  .
   exact .inr ⟨by omega,h2⟩
theorem nI {α:Type}:∀(l:List α) (n:Nat) (y:α),(put l n y).length=l.length
 | [],_,_=>rfl
 | _ :: _,0,_=>rfl
 | _ :: l,n+1,y=>by simp only[put,zB1,nI l n y]
def aP6 (A:AS)(u:Out):Prop:=∀b l,u.up=some (b,l)->∃T x,at? A.bk b=some (.cells T x)
theorem zX {A:AS}{d:Option Nat}{u:Out}(hu:aP6 A u){n:Nat}{x:Bk}(h:at? (A.lay d u).bk n=some x):
  (n<A.bk.length/\((∃l T x0,u.up=some (n,l)/\at? A.bk n=some (.cells T x0)/\x=.cells T l)\/((∀l,u.up ≠ some (n,l))/\at? A.bk n=some x)))\/(n=A.bk.length/\u.nb=some x):=by
 have tail:∀(K:List Bk),K.length=A.bk.length->at? (K++u.nb.toList) n=some x->at? K n=some x\/(n=A.bk.length/\u.nb=some x):=by
  intro K hK h;rw[dG]at h
  split at h
  .
   exact .inl h
  .
   rename_i hn
   cases hb:u.nb with
   | none=>rw[hb]at h;simp[at?]at h
   | some y=>
    rw[hb]at h;simp only[Option.toList]at h
    have:=dT h
    simp only[List.length_singleton]at this
    rw[show n-K.length=0 by omega]at h
    simp only[at?,zG2]at h
    exact .inr ⟨by omega,by rw[h]⟩
 cases hup:u.up with
 | none=>
  simp only[AS.lay,hup]at h
  rcases tail _ rfl h with h9|h9
  .
   exact .inl ⟨dT h9,.inr ⟨by simp,h9⟩⟩
  .
   exact .inr h9
 | some p=>
  obtain⟨b,l⟩:=p;obtain⟨T,x0,hb⟩:=hu b l hup;simp only[AS.lay,hup,hb]at h
  rcases tail _ (nI _ _ _) h with h9|h9
  .
   rcases tL h9 with⟨rfl,rfl,h3⟩|⟨h1,h2⟩
   .
    exact .inl ⟨h3,.inl ⟨l,T,x0,rfl,hb,rfl⟩⟩
   .
    exact .inl ⟨dT h2,.inr ⟨fun l' e=>h1 (by cases e;rfl),h2⟩⟩
  .
   exact .inr h9
section
variable {C:Cx} {U:Value->Prop} {G:Cfg} {A E:AS} {S B X S' B' X':Nat->Prop} {τ τ':Sm} {V V':Vl} {a:Act} {w w':World} {v:Value} {u:Out} {d:Option Nat} {Y:List SF}
theorem Kn.pre (h:Kn C U { A with sy:=Y } S B X τ V w)(hs:∀s f,at? A.sy s=some f->at? Y s=some f):Kn C U A S B X τ V w:=
 ⟨h.fr,fun s f hf=>h.sy s f (hs s f hf),fun s f hf=>h.sc s f (hs s f hf),h.bk,h.bc,h.dj,h.lo,h.tg,h.cu⟩
def Spo (S B X:Nat->Prop)(x:CV):Prop:=(∀s ∈ x.sy,S s)/\(∀n ∈ x.bs,B n)/\(∀c ∈ x.is,X c)
theorem Spo.all {l:List CV}(h:∀x ∈ l,Spo S B X x):(∀s ∈ l.flatMap CV.sy,S s)/\(∀n ∈ l.flatMap CV.bs,B n)/\(∀c ∈ l.flatMap CV.is,X c):=by
 refine⟨fun s hs=>?_,fun s hs=>?_,fun s hs=>?_⟩
 .
  obtain⟨x,h1,h2⟩:=List.mem_flatMap.1 hs;exact(h x h1).1 s h2
 .
  obtain⟨x,h1,h2⟩:=List.mem_flatMap.1 hs;exact(h x h1).2.1 s h2
 .
  obtain⟨x,h1,h2⟩:=List.mem_flatMap.1 hs;exact(h x h1).2.2 s h2
theorem Kn.post (h:Kn C U { A with sy:=Y } S B X τ V w)(hr:Res C U A u S B X τ V w v τ' V' w')(hu:aP6 A u)
  (hY:∀q f,q<u.ns.length->at? Y (A.sy.length+q)=some f->at? u.ns q=some f)
  (hS1:∀s,S' s->S s\/∃q,q<u.ns.length/\s=A.sy.length+q) (hS2:∀s,S s->S' s)
  (hB1:∀n,B' n->B n\/n=A.bk.length) (hB2:∀n,B n->B' n) (hB3:¬B A.bk.length) (hX2:∀c,X c->X' c)
  (hns:∀q f,at? u.ns q=some f->∀t ∈ f.sy,S' t)
  (hup:∀b l,u.up=some (b,l)->∀x ∈ l,Spo S' B' X' x)
  (hnb:∀T l,u.nb=some (.cells T l)->∀x ∈ l,Spo S' B' X' x):Kn C U { A.lay d u with sy:=Y } S' B' X' τ' V' w':=by
 have old:∀n x,at? (A.lay d u).bk n=some x->B' n->(∃y,at? A.bk n=some y/\B n/\(x=.cur->y=.cur))\/(n=A.bk.length/\u.nb=some x):=fun n x hx hn=>by
  rcases zX (d:=d) hu hx with⟨h1,h2⟩|h2
  .
   have hBn:B n:=(hB1 n hn).resolve_right Q0
   rcases h2 with⟨l,T,x0,e1,e2,rfl⟩|⟨_,e2⟩
   .
    exact .inl ⟨_,e2,hBn,fun e=>by cases e⟩
   .
    exact .inl ⟨_,e2,hBn,id⟩
  .
   exact .inr h2
 refine⟨hr.fr,fun s f hf hs=>?_,fun s f hf hs=>?_,fun n x hx hn=>?_,fun n x hx hn=>?_,fun n m x y hx hy hn hm Aw=>?_,fun n hx hn=>?_,fun ht=>?_,fun n hx=>?_⟩
 .
  rcases hS1 s hs with h1|⟨q,h1,rfl⟩
  .
   rw[hr.ρ s h1]
   exact SF.on (h.sy s f hf h1) hr.sub fun t ht=>hr.ρ t (h.sc s f hf h1 t ht)
  .
   exact hr.ns q f (hY q f h1 hf)
 .
  rcases hS1 s hs with h1|⟨q,h1,rfl⟩
  .
   exact fun t ht=>hS2 t (h.sc s f hf h1 t ht)
  .
   exact hns q f (hY q f h1 hf)
 .
  rcases old n x hx hn with⟨y,h1,h2,_⟩|⟨rfl,h2⟩
  .
   obtain⟨_,b2,b3,b4⟩:=h.bk n y h1 h2
   refine⟨?_,by rw[hr.β n h2];exact hr.non _ b3 b2,by rw[hr.β n h2];exact Nat.lt_of_lt_of_le b3 hr.size,by rw[hr.β n h2];exact b4⟩
   rcases zX (d:=d) hu hx with⟨_,⟨l,T,x0,e1,e2,rfl⟩|⟨e1,e2⟩⟩|⟨e1,_⟩
   .
    exact hr.up n l T x0 e1 e2 h2
   .
    exact hr.old n x h2 e2 e1
   .
    have:=dT h1;omega
  .
   obtain⟨c1,c2,c3,c4,_⟩:=hr.nb x h2;exact⟨c1,c2,c4,.inr (zF2 h.fr.size c3)⟩
 .
  rcases zX (d:=d) hu hx with⟨h1,⟨l,T,x0,e1,e2,rfl⟩|⟨e1,e2⟩⟩|⟨rfl,e2⟩
  .
   exact Spo.all (hup n l e1)
  .
   have hBn:B n:=(hB1 n hn).resolve_right Q0
   obtain⟨c1,c2,c3⟩:=h.bc n x e2 hBn
   exact⟨fun s hs=>hS2 s (c1 s hs),fun m hm=>hB2 m (c2 m hm),fun c hc=>hX2 c (c3 c hc)⟩
  .
   cases x with
   | cur=>exact absurd rfl (hr.nb _ e2).2.2.2.2
   | cells T l=>exact Spo.all (hnb T l e2)
 .
  rcases old n x hx hn with⟨y1,h1,h2,_⟩|⟨rfl,h2⟩
  .
   rcases old m y hy hm with⟨y2,h3,h4,_⟩|⟨rfl,h4⟩
   .
    rw[hr.β n h2,hr.β m h4];exact h.dj n m _ _ h1 h3 h2 h4 Aw
   .
    have q1:=(h.bk n y1 h1 h2).2.2.1;have q2:=(hr.nb y h4).2.2.1;rw[hr.β n h2];omega
  .
   rcases old m y hy hm with⟨y2,h3,h4,_⟩|⟨rfl,h4⟩
   .
    have q1:=(h.bk m y2 h3 h4).2.2.1;have q2:=(hr.nb x h2).2.2.1;rw[hr.β m h4];omega
   .
    exact absurd rfl Aw
 .
  rcases old n .cur hx hn with⟨y,h1,h2,h3⟩|⟨rfl,h2⟩
  .
   have h1':at? A.bk n=some .cur:=by rw[h1,h3 rfl]
   obtain⟨q1,q2⟩:=h.lo n h1' h2;have q3:=(h.bk n _ h1' h2).2.2.1;rw[hr.β n h2]
   exact⟨q1,fun b hb=>⟨hr.non b Q0 (q2 b hb).1,(q2 b hb).2⟩⟩
  .
   exact absurd rfl (hr.nb _ h2).2.2.2.2
 .
  have ht':(A.tg && !u.br)=true:=ht
  simp only[zC0,Bool.not_eq_true']at ht';exact hr.tg ht'.2 (h.tg ht'.1)
 .
  rcases zX (d:=d) hu hx with⟨h1,⟨l,T,x0,e1,e2,e3⟩|⟨e1,e2⟩⟩|⟨rfl,e2⟩
  .
   cases e3
  .
   exact h.cu n e2
  .
   exact absurd rfl (hr.nb _ e2).2.2.2.2
end
end Eg
namespace Eg
theorem jS {t:Nat}:∀{l:List Oper} {i:Nat},kI t i l=none->∀o ∈ l,o.dst ≠ some t
 | [],_,_,o,h=>by cases h
 | o :: l,i,h,o',h'=>by
  simp only[kI]at h
  cases hd:o.dst with
  | none=>
   rw[hd]at h
   rcases zG3.1 h' with rfl|h'
   .
    rw[hd];simp
   .
    exact jS h o' h'
  | some d=>
   rw[hd]at h
   simp only at h
   split at h
   .
    cases h
   .
    rename_i Aw
    rcases zG3.1 h' with rfl|h'
    .
     rw[hd];intro e;cases e;simp at Aw
    .
     exact jS h o' h'
theorem pF {t:Nat}:∀{l:List Oper} {i j:Nat},kI t i l=some j->i<=j/\∃o,l[j-i]?=some o/\o.dst=some t
 | [],_,_,h=>by simp[kI]at h
 | o :: l,i,j,h=>by
  simp only[kI]at h
  have tail:kI t (i+1) l=some j->i<=j/\∃o',(o :: l)[j-i]?=some o'/\o'.dst=some t:=fun h=>by
   obtain⟨h1,o',h2,h3⟩:=pF h
   refine⟨by omega,o', ?_,h3⟩
   rw[show j-i=(j-(i+1))+1 by omega,List.getElem?_cons_succ]
   exact h2
  cases hd:o.dst with
  | none=>rw[hd]at h;exact tail h
  | some d=>
   rw[hd]at h
   simp only at h
   split at h
   .
    rename_i e
    cases h
    refine⟨zB0 _,o,by simp, ?_⟩
    rw[hd]
    simpa using e
   .
    exact tail h
theorem lL {n:Nat}:∀{l:List Oper},aDg n l=true->∀{i:Nat} {o:Oper} {d:Nat},l[i]?=some o->o.dst=some d->d<n/\∀j o',i<j->l[j]?=some o'->o'.dst ≠ some d
 | [],_,i,o,d,h,_=>by simp at h
 | x :: l,hc,i,o,d,h,hd=>by
  simp only[aDg,zC0]at hc
  cases i with
  | zero=>
   simp only[List.getElem?_cons_zero,zG2]at h;subst h;have h1:=hc.1;rw[hd]at h1;simp only[zC0,zE3,Option.isNone_iff_eq_none]at h1
   refine⟨h1.1,fun j o' hj ho'=>?_⟩
   cases j with
   | zero=>omega
   | succ j=>
    rw[List.getElem?_cons_succ]at ho';exact jS h1.2 o' (zA3 ho')
  | succ i=>
   rw[List.getElem?_cons_succ]at h;obtain⟨h1,h2⟩:=lL hc.2 h hd
   refine⟨h1,fun j o' hj ho'=>?_⟩
   cases j with
   | zero=>omega
   | succ j=>
    rw[List.getElem?_cons_succ]at ho';exact h2 j o' Q0 ho'
theorem sP {ms:List Nat}{m:Nat}{rm:Ri}:∀{l:List Ri} {i:Nat},aOi ms m rm i l=true->∀{k:Nat} {r:Ri},l[k]?=some r->i+k ≠ m->(rm.nq=true->r.cu=true->bit ms m (i+k)=true)/\((rm.br=true\/rm.sp=true)->r.nk=false->bit ms m (i+k)=true\/bit ms (i+k) m=true)
 | [],_,_,k,r,h,_=>by simp at h
 | x :: l,i,hc,k,r,h,Aw=>by
  simp only[aOi,zC0]at hc
  cases k with
  | zero=>
   simp only[List.getElem?_cons_zero,zG2]at h;subst h;have h1:=hc.1;simp only[zG1]at Aw ⊢;simp only[Bool.or_eq_true,beq_iff_eq,Aw,false_or,zC0,Bool.not_eq_true']at h1
   refine⟨fun a b=>?_,fun a b=>?_⟩
   .
    rcases h1.1 with h9|h9
    .
     rw[a,b]at h9;cases h9
    .
     exact h9
   .
    rcases h1.2 with ((h9|h9)|h9)|h9
    .
     rcases a with a|a <;> rw[a]at h9 <;> simp at h9
    .
     exact .inl h9
    .
     exact .inr h9
    .
     rw[b]at h9;cases h9
  | succ k=>
   rw[List.getElem?_cons_succ]at h
   have:=sP hc.2 h Q0
   rw[show i+1+k=i+(k+1) by omega]at this
   exact this
theorem jV {ms:List Nat}{is:List Ri}:∀{l:List Ri} {i:Nat},aCg ms is i l=true->∀{k:Nat} {r:Ri},l[k]?=some r->(r.sp=true->r.nk=false)/\aOi ms (i+k) r 0 is=true
 | [],_,_,k,r,h=>by simp at h
 | x :: l,i,hc,k,r,h=>by
  simp only[aCg,zC0]at hc
  cases k with
  | zero=>
   simp only[List.getElem?_cons_zero,zG2]at h;subst h
   exact⟨fun h9=>by have:=hc.1.1;rw[h9]at this;simpa using this,hc.1.2⟩
  | succ k=>
   rw[List.getElem?_cons_succ]at h
   have:=jV hc.2 h
   rw[show i+1+k=i+(k+1) by omega]at this
   exact this
theorem kX {α:Type}{t t':Nat}(h:t ≠ t'):∀{l:List (Nat × α)},bY t (del t' l)=bY t l
 | []=>rfl
 | (k,x) :: l=>by
  simp only[del]
  split
  .
   rename_i e
   have e:k=t':=by simpa using e
   rw[kX h];simp only[bY];rw[if_neg Q29]
  .
   simp only[bY];rw[kX h]
theorem tO:∀{l:List Oper},aM8 l=true->∀{j:Nat} {o:Oper} {T:TypeId},l[j]?=some o->o.op=.alloc T->o.guard=none/\∃z ds,bY T TZ=some (z,ds)
 | [],_,_,_,_,h,_=>by simp at h
 | x :: l,hc,j,o,T,h,ho=>by
  simp only[aM8,zC0]at hc
  cases j with
  | zero=>
   simp only[List.getElem?_cons_zero,zG2]at h;subst h;have h1:=hc.1;rw[ho]at h1;simp only[zC0,Option.isNone_iff_eq_none]at h1;obtain⟨p,hp⟩:=Option.isSome_iff_exists.1 h1.1;exact⟨h1.2,p.1,p.2,hp⟩
  | succ j=>
   rw[List.getElem?_cons_succ]at h;exact tO hc.2 h ho
structure eU (G:Cfg) (A:AS) (ops:Array Oper) (ms:List Nat) (I:List Ri) (f:Nat->AS) (g:Nat->Out) (st:Nat->Option Bool):Prop where
 f0:f 0={ A with nc:=[],bk:=A.bk++pre ops.toList }
 step:∀k o,ops[k]?=some o->∃ri,I[k]?=some ri/\wG G ops.toList ms A (I.take k) k o (f k) (g k) (st k) (f (k+1)) ri
 ord:aCg ms I 0 I=true
 dst:aDg G.nt ops.toList=true
 low:∀i j,bit ms i j=true->j<i
 al:aM8 ops.toList=true
section
variable {G:Cfg} {A:AS} {ops:Array Oper} {ms:List Nat} {I:List Ri} {f:Nat->AS} {g:Nat->Out} {st:Nat->Option Bool}
theorem eU.lay (h:eU G A ops ms I f g st){k:Nat}{o:Oper}(ho:ops[k]?=some o):f (k+1)=(f k).lay o.dst (g k):=by
 obtain⟨ri,_,h1⟩:=h.step k o ho;exact h1.lay
theorem nK {k:Nat}(hk:k<ops.size):∃o,ops[k]?=some o:=⟨ops[k],by simp[hk]⟩
theorem aTj {k:Nat}{o:Oper}(h:ops[k]?=some o):ops.toList[k]?=some o:=by simpa using h
theorem eU.sy1 (h:eU G A ops ms I f g st){k:Nat}(hk:k<ops.size):(f (k+1)).sy=(f k).sy++(g k).ns:=by
 obtain⟨o,ho⟩:=nK hk;rw[h.lay ho]
 rfl
theorem eU.syN (h:eU G A ops ms I f g st):∀{k n:Nat},k<=n->n<=ops.size->∃r,(f n).sy=(f k).sy++r
 | k,n,hkn,hn=>by
  induction n with
  | zero=>exact⟨[],by rw[show k=0 by omega];simp⟩
  | succ n ih=>
   rcases Nat.lt_or_eq_of_le hkn with h1|h1
   .
    obtain⟨r,hr⟩:=ih Q0 Q0
    exact⟨r++(g n).ns,by rw[h.sy1 Q0,hr,zD0]⟩
   .
    exact⟨[],by rw[h1];simp⟩
theorem eU.syIn (h:eU G A ops ms I f g st){k s:Nat}{x:SF}(hk:k<=ops.size)(hs:at? (f k).sy s=some x):at? (f ops.size).sy s=some x:=by
 obtain⟨r,hr⟩:=h.syN hk (zB0 _);rw[hr,dG,if_pos (dT hs)];exact hs
theorem eU.syNew (h:eU G A ops ms I f g st){k q:Nat}{x:SF}(hk:k<ops.size)(hq:q<(g k).ns.length)(hs:at? (f ops.size).sy ((f k).sy.length+q)=some x):at? (g k).ns q=some x:=by
 obtain⟨r,hr⟩:=h.syN (k:=k+1) Q0 (zB0 _);rw[hr,h.sy1 hk,dG,if_pos Q29,dG,if_neg Q0,Nat.add_sub_cancel_left]at hs;exact hs
theorem eU.syLe (h:eU G A ops ms I f g st){k n:Nat}(hkn:k<=n)(hn:n<=ops.size):(f k).sy.length<=(f n).sy.length:=by
 obtain⟨r,hr⟩:=h.syN hkn hn;rw[hr];simp
theorem eU.cf (h:eU G A ops ms I f g st):∀{k:Nat},k<=ops.size->(f k).cf=A.cf
 | 0,_=>by rw[h.f0]
 | k+1,hk=>by
  obtain⟨o,ho⟩:=nK (ops:=ops) (k:=k) Q0;rw[h.lay ho];exact h.cf (k:=k) Q0
theorem eU.slot0 (h:eU G A ops ms I f g st){t:Nat}:∀{k:Nat},k<=ops.size->(∀j o,j<k->ops[j]?=some o->o.dst ≠ some t)->bY t (f k).sl=bY t A.sl
 | 0,_,_=>by rw[h.f0]
 | k+1,hk,hn=>by
  obtain⟨o,ho⟩:=nK (ops:=ops) (k:=k) Q0
  rw[h.lay ho,<-h.slot0 (k:=k) Q0 (fun j o' hj=>hn j o' Q0)]
  have:=hn k o Q0 ho
  simp only[AS.lay]
  cases hd:o.dst with
  | none=>rfl
  | some d=>
   rw[hd]at this
   have Aw:t ≠ d:=fun e=>this (by rw[e])
   simp only[bY];rw[if_neg Q29,kX Aw]
theorem eU.slot1 (h:eU G A ops ms I f g st){t j:Nat}{o:Oper}(ho:ops[j]?=some o)(hd:o.dst=some t):∀{k:Nat},k<=ops.size->j<k->bY t (f k).sl=some (g j).r
 | 0,_,hj=>by omega
 | k+1,hk,hj=>by
  obtain⟨o',ho'⟩:=nK (ops:=ops) (k:=k) Q0;rw[h.lay ho']
  rcases Nat.lt_or_eq_of_le (Nat.le_of_lt_succ hj) with h1|h1
  .
   have Aw:=(lL h.dst (aTj ho) hd).2 k o' h1 (aTj ho');rw[<-h.slot1 ho hd (k:=k) Q0 h1];simp only[AS.lay]
   cases hd':o'.dst with
   | none=>rfl
   | some d=>
    rw[hd']at Aw
    have Aw:t ≠ d:=fun e=>Aw (by rw[e])
    simp only[bY];rw[if_neg Q29,kX Aw]
  .
   subst h1;rw[ho]at ho'
   cases ho'
   simp only[AS.lay,hd,bY,beq_self_eq_true,if_true]
theorem eU.uniq (h:eU G A ops ms I f g st){i j:Nat}{o o':Oper}{t:Nat}(ho:ops[i]?=some o)(ho':ops[j]?=some o')(hd:o.dst=some t)(hd':o'.dst=some t):i=j:=by
 rcases Nat.lt_trichotomy i j with h1|h1|h1
 .
  exact absurd hd' ((lL h.dst (aTj ho) hd).2 j o' h1 (aTj ho'))
 .
  exact h1
 .
  exact absurd hd ((lL h.dst (aTj ho') hd').2 i o h1 (aTj ho))
end
end Eg
namespace Eg
def aLu (x:CV):Bool:=match x with
 | .top=>true
 | .nil=>true
 | .tv _=>true
 | .int _ _=>true
 | _=>false
theorem aQa:TZ.all (fun p=>p.2.1.all aLu)=true:=by decide
theorem qD {α:Type}{n:Nat}{x:α}:∀{l:List (Nat × α)},bY n l=some x->(n,x) ∈ l
 | [],h=>by cases h
 | (k,y) :: l,h=>by
  simp only[bY]at h
  split at h
  .
   rename_i e
   cases h
   have e:k=n:=by simpa using e
   subst e
   simp
  .
   exact List.mem_cons_of_mem _ (qD h)
theorem aLt {l:List CV}(h:l.all aLu=true):l.flatMap CV.sy=[]/\l.flatMap CV.bs=[]/\l.flatMap CV.is=[]:=by
 simp only[zF3]at h
 refine⟨?_, ?_, ?_⟩ <;>
 .
  simp only[List.flatMap_eq_nil_iff];intro x hx
  have:=h x hx
  cases x <;> first|rfl|(simp[aLu]at this)
theorem aNg {T:Nat}{z:List CV}{ds:List Nat}(h:bY T TZ=some (z,ds)):z.flatMap CV.sy=[]/\z.flatMap CV.bs=[]/\z.flatMap CV.is=[]:=
 aLt (zF3.1 aQa _ (qD h))
section
variable {C:Cx} {U:Value->Prop} {G:Cfg} {A:AS} {S B X:Nat->Prop} {τ:Sm} {V:Vl} {a:Act} {w:World} {d:Option Nat} {ty:TypeId} {pos:String} {aft:Array Edge} {gd:Option (Nat × Bool)}
structure aTh (C:Cx) (U:Value->Prop) (A:AS) (S B X:Nat->Prop) (p:Nat) (τ:Sm) (V:Vl) (w:World) (τ':Sm) (V':Vl) (w':World):Prop where
 kn:Kn C U A S (fun n=>B n\/n=p) X τ' V' w'
 sub:Sub τ τ'
 qt:∀b s,τ b=some s->s.k ≠ .bt->w'.heap[b]?=w.heap[b]?
 ρ:∀s,S s->V'.ρ s=V.ρ s
 β:∀n,B n->V'.β n=V.β n
 ι:∀c,X c->V'.ι c=V.ι c
 up:w.heap.size<=V'.β p
 tg:Tg τ->Tg τ'
theorem aDk (h:Kn C U A S B X τ V w){T p:Nat}{z:List CV}{ds:List Nat}(hz:bY T TZ=some (z,ds))(hp:at? A.bk p=some (.cells T z))(hnB:¬B p)(hB:∀n,B n->n<A.bk.length)(Q:Exit->Act->World->Prop):
  (⟨d,.alloc T,ty,pos,aft,gd⟩:Oper).wp Tryz.prog a w (fun a' w'=>∃τ' V',a'=a.put d (.pointer (some ⟨V'.β p,0,none⟩))/\aTh C U A S B X p τ V w τ' V' w') Q:=by
 have hu:cK ⟨true,true,[],[],[],[],0⟩ A ⟨d,.alloc T,ty,pos,aft,gd⟩=some { r:=.c (.ptr A.bk.length 0),nb:=some (.cells T z) }:=by simp only[cK,hz]
 refine Oper.wp_mono ?_ (zL h hu (fun h9=>absurd (hB _ h9) (Nat.lt_irrefl _)) Q)
 rintro a' w' ⟨v,τ',V',rfl,hr⟩;obtain⟨n1,n2,n3,n4,_⟩:=hr.nb _ rfl;obtain⟨z1,z2,z3⟩:=aNg hz
 let V2:Vl:={ V' with β:=fun n=>if n=p then V'.β A.bk.length else V'.β n }
 have hβp:V2.β p=V'.β A.bk.length:=if_pos rfl
 have hβ:∀n,B n->V2.β n=V.β n:=fun n hn=>by
  have Aw:n ≠ p:=fun e=>hnB (e ▸ hn)
  exact(if_neg Aw).trans (hr.β n hn)
 have hb1:∀n x,at? A.bk n=some x->B n->x.ok V2 w' (V2.β n)/\τ' (V2.β n)=none/\V2.β n<w'.heap.size/\(V2.β n ∈ C.K\/C.w0.heap.size<=V2.β n):=fun n x hx hn=>by
  obtain⟨_,b2,b3,b4⟩:=h.bk n x hx hn;obtain⟨c1,c2,c3⟩:=h.bc n x hx hn;have hk:=hr.old n x hn hx Q9;rw[hr.β n hn]at hk;rw[hβ n hn]
  refine⟨Bk.on hk (fun s _=>rfl) (fun m hm=>(hβ m (c2 m hm)).trans (hr.β m (c2 m hm)).symm) (fun c _=>rfl),hr.non _ b3 b2,Nat.lt_of_lt_of_le b3 hr.size,b4⟩
 have hb2:(Bk.cells T z).ok V2 w' (V2.β p)/\τ' (V2.β p)=none/\V2.β p<w'.heap.size/\(V2.β p ∈ C.K\/C.w0.heap.size<=V2.β p):=by
  rw[hβp]
  exact⟨Bk.on n1 (fun s hs=>rfl) (fun m hm=>by simp only[Bk.bs,z2]at hm;cases hm) (fun c _=>rfl),n2,n4,.inr (zF2 h.fr.size n3)⟩
 have hcur:∀n,at? A.bk n=some .cur->(B n\/n=p)->B n:=fun n hx hn=>hn.resolve_right (by rintro rfl;rw[hp]at hx;cases hx)
 refine⟨τ',V2, ?_,⟨⟨hr.fr,fun s f hf hs=>?_,h.sc,fun n x hx hn=>?_,fun n x hx hn=>?_,fun n m x y hx hy hn hm Aw=>?_,fun n hx hn=>?_,fun ht=>hr.tg rfl (h.tg ht),h.cu⟩,hr.sub,hr.qt rfl,hr.ρ,hβ,hr.ι,by rw[hβp];exact n3,hr.tg rfl⟩⟩
 .
  show a.put d v=_
  rw[hβp,show v=_ from hr.r]
 .
  show f.ok C U τ' V2 (V'.ρ s)
  rw[hr.ρ s hs]
  exact SF.on (h.sy s f hf hs) hr.sub fun t ht=>hr.ρ t (h.sc s f hf hs t ht)
 .
  rcases hn with hn|rfl
  .
   exact hb1 n x hx hn
  .
   rw[hp]at hx;cases hx;exact hb2
 .
  rcases hn with hn|rfl
  .
   obtain⟨c1,c2,c3⟩:=h.bc n x hx hn
   exact⟨c1,fun m hm=>.inl (c2 m hm),c3⟩
  .
   rw[hp]at hx;cases hx
   refine⟨fun s hs=>?_,fun s hs=>?_,fun s hs=>?_⟩
   .
    simp only[Bk.sy,z1]at hs;cases hs
   .
    simp only[Bk.bs,z2]at hs;cases hs
   .
    simp only[Bk.is,z3]at hs;cases hs
 .
  rcases hn with hn|rfl
  .
   rcases hm with hm|rfl
   .
    rw[hβ n hn,hβ m hm];exact h.dj n m x y hx hy hn hm Aw
   .
    have:=(h.bk n x hx hn).2.2.1
    rw[hβ n hn,hβp];omega
  .
   rcases hm with hm|rfl
   .
    have:=(h.bk m y hy hm).2.2.1
    rw[hβ m hm,hβp];omega
   .
    exact absurd rfl Aw
 .
  have hBn:=hcur n hx hn;obtain⟨q1,q2⟩:=h.lo n hx hBn;have q3:=(h.bk n _ hx hBn).2.2.1;rw[hβ n hBn]
  exact⟨q1,fun b hb=>⟨hr.non b Q0 (q2 b hb).1,(q2 b hb).2⟩⟩
end
end Eg
theorem Q69{p:Prop}(h:p:=by cases h):p:=h
theorem Q72{p:Prop}(h:p:=by rw[hst];simp):p:=h
namespace Eg
def nG (S B X:Nat->Prop)(x:AV):Prop:=(∀s ∈ x.sy,S s)/\(∀n ∈ x.bs,B n)/\(∀c ∈ x.is,X c)
theorem aGu (v:Value):(aGv v).sy=[]/\(aGv v).bs=[]/\(aGv v).is=[]:=by
 unfold aGv
 split
 .
  exact⟨rfl,rfl,rfl⟩
 .
  split <;> exact⟨rfl,rfl,rfl⟩
 .
  exact⟨rfl,rfl,rfl⟩
 .
  split <;> exact⟨rfl,rfl,rfl⟩
 .
  exact⟨rfl,rfl,rfl⟩
 .
  exact⟨rfl,rfl,rfl⟩
theorem aGs (S B X:Nat->Prop)(v:Value):nG S B X (aPp v):=by
 unfold aPp
 split
 .
  rename_i cs
  refine⟨fun s hs=>?_,fun s hs=>?_,fun s hs=>?_⟩
  all_goals
   obtain⟨x,h1,h2⟩:=List.mem_flatMap.1 hs;obtain⟨y,_,rfl⟩:=zE1.1 h1;obtain⟨q1,q2,q3⟩:=aGu y
   first|(rw[q1]at h2;cases h2)|(rw[q2]at h2;cases h2)|(rw[q3]at h2;cases h2)
 .
  obtain⟨q1,q2,q3⟩:=aGu v
  refine⟨fun s hs=>?_,fun s hs=>?_,fun s hs=>?_⟩
  .
   simp only[AV.sy,q1]at hs;cases hs
  .
   simp only[AV.bs,q2]at hs;cases hs
  .
   simp only[AV.is,q3]at hs;cases hs
section
variable {C:Cx} {U:Value->Prop} {G:Cfg} {A:AS} {ops:Array Oper} {ms:List Nat} {I:List Ri} {f:Nat->AS} {g:Nat->Out} {st:Nat->Option Bool}
structure Sl (A:AS) (ops:Array Oper) (g:Nat->Out) (st:Nat->Option Bool) (a0:Act) (L R S B X:Nat->Prop) (τ:Sm) (V:Vl) (a:Act):Prop where
 yes:∀j o t,ops[j]?=some o->o.dst=some t->R j->(g j).r.ok τ V (a.eval (.tmp t))/\nG S B X (g j).r
 no:∀j o t,ops[j]?=some o->o.dst=some t->L j->¬R j->a.eval (.tmp t)=undef
 old:∀t,(∀j o,ops[j]?=some o->o.dst=some t->¬L j)->a.eval (.tmp t)=a0.eval (.tmp t)
 ent:∀t,(A.ev (.tmp t)).ok τ V (a0.eval (.tmp t))/\nG S B X (A.ev (.tmp t))
 want:∀j o,ops[j]?=some o->L j->(R j ↔ yK ops a o)
 tt:∀j o,ops[j]?=some o->L j->st j=some true->R j
 ff:∀j o,ops[j]?=some o->L j->st j=some false->¬R j
theorem aN3 {is:List Ri}{k j:Nat}{ri:Ri}(h1:I[j]?=some ri)(hj:j<k):at? (I.take k) j=some ri:=by
 rw[eK,List.getElem?_take,if_pos hj];exact h1
theorem yU (h:eU G A ops ms I f g st){a0 a:Act}{L R S B X:Nat->Prop}{τ:Sm}{V:Vl}(hs:Sl A ops g st a0 L R S B X τ V a){i:Nat}{o:Oper}(ho:ops[i]?=some o)(hr:∀j,bit ms i j=true->L j)(Ab:∀j,L j->bit ms j i=false){pk:Option (Nat × Bool)}(hw:yK ops a o)(hpk:∀c b,pk=some (c,b)->a.eval (.tmp c)=.bool b){t:Nat}(hk:yV ops.toList ms (I.take i) i o.guard pk t=true):Opd (f i) S B X τ V a (.tmp t):=by
 have hi:i<ops.size:=(zJ0.1 ho).1
 have ev:∀x,bY t (f i).sl=x->(f i).ev (.tmp t)=x.getD (.c .top):=fun x e=>by show(bY t (f i).sl).getD _=_;rw[e]
 have old:(∀(j:Nat) (o':Oper),j<i->ops[j]?=some o'->o'.dst ≠ some t)->(∀(j:Nat) (o':Oper),ops[j]?=some o'->o'.dst=some t->¬L j)->Opd (f i) S B X τ V a (.tmp t):=fun h1 h2=>by
  have e1:(f i).ev (.tmp t)=A.ev (.tmp t):=ev _ (h.slot0 Q0 h1)
  obtain⟨q1,q2,q3,q4⟩:=hs.ent t;unfold Opd;rw[e1,hs.old t h2];exact⟨q1,q2,q3,q4⟩
 unfold yV at hk
 cases hwr:kI t 0 ops.toList with
 | none=>
  have hn:=jS hwr
  have hn':∀(j:Nat) (o':Oper),ops[j]?=some o'->o'.dst ≠ some t:=fun j o' ho'=>hn o' (zA3 (aTj ho'))
  exact old (fun j o' _ ho'=>hn' j o' ho') (fun j o' ho' hd=>absurd hd (hn' j o' ho'))
 | some j=>
  obtain⟨_,oj,hoj,hdj⟩:=pF hwr
  have hoj':ops[j]?=some oj:=by simpa using hoj
  rw[hwr]at hk
  simp only at hk
  split at hk
  .
   rename_i Aj
   have Aj:j<i:=by simpa using Aj
   simp only[zC0]at hk;have hL:=hr j hk.1
   have e1:(f i).ev (.tmp t)=(g j).r:=ev _ (h.slot1 hoj' hdj Q0 Aj)
   obtain⟨ri,hri,hstep⟩:=h.step j oj hoj'
   have yes:R j->Opd (f i) S B X τ V a (.tmp t):=fun hR=>by
    obtain⟨q1,q2,q3,q4⟩:=hs.yes j oj t hoj' hdj hR;unfold Opd;rw[e1];exact⟨q1,q2,q3,q4⟩
   have hk2:=hk.2;rw[aN3 (is:=I) hri Aj,eK,aTj hoj']at hk2;simp only[Bool.or_eq_true,Bool.not_eq_true']at hk2
   rcases hk2 with (h9|h9)|h9
   .
    cases hst:st j with
    | none=>
     obtain⟨u0,_,_,_,hri2⟩:=hstep.yes Q72;rw[hri2,hst]at h9;cases h9
    | some b=>
     cases b with
     | true=>exact yes (hs.tt j oj hoj' hL hst)
     | false=>
      obtain⟨hu,_⟩:=hstep.no hst;have e2:=hs.no j oj t hoj' hdj hL (hs.ff j oj hoj' hL hst);unfold Opd;rw[e1,hu,e2]
      exact⟨rfl,fun s h=> Q69,fun s h=> Q69,fun s h=> Q69⟩
   .
    refine yes ((hs.want j oj hoj' hL).2 fun g' b' hg'=>hw g' b' ?_)
    rw[hg']at h9
    cases hgo:o.guard with
    | none=>rw[hgo]at h9;cases h9
    | some p=>
     rw[hgo]at h9;obtain⟨p1,p2⟩:=p;simp only[gEq,zC0,beq_iff_eq]at h9;rw[h9.1,h9.2]
   .
    refine yes ((hs.want j oj hoj' hL).2 fun g' b' hg'=>?_)
    rw[hg']at h9
    cases hpk':pk with
    | none=>rw[hpk']at h9;cases h9
    | some p=>
     rw[hpk']at h9;obtain⟨c,b⟩:=p;simp only[zC0,beq_iff_eq]at h9;obtain⟨h8,h7⟩:=h9;rw[eK]at h7
     cases hog:ops.toList[g']? with
     | none=>rw[hog]at h7;cases h7
     | some og=>
      rw[hog]at h7
      simp only at h7
      cases hd:og.dst with
      | none=>rw[hd]at h7;cases h7
      | some t'=>
       rw[hd]at h7;simp only[oEq,beq_iff_eq]at h7;subst h7
       exact⟨og,t',by simpa using hog,hd,by rw[hpk _ _ hpk',h8]⟩
  .
   rename_i Aj
   simp only[zC0,zE3]at hk
   have hnL:¬L j:=fun hL=>by have:=Ab j hL;rw[hk.2]at this;cases this
   exact old (fun j' o' hj' ho' hd=>by have:=h.uniq ho' hoj' hd hdj;omega) (fun j' o' ho' hd=>by rw[h.uniq ho' hoj' hd hdj];exact hnL)
end
end Eg
theorem Q25{p:Prop}(h:p:=by cases h9):p:=h
theorem U104{p:Prop}(h:p:=by
 simp only[zG2]at hg
 rw[<-hg]
 exact⟨(fun h9=>by cases h9),(fun h9=>by cases h9)⟩):p:=h
namespace Eg
section
variable {G:Cfg} {A:AS} {ops:Array Oper} {ms:List Nat} {I:List Ri} {f:Nat->AS} {g:Nat->Out} {st:Nat->Option Bool}
theorem mV (h:eU G A ops ms I f g st){a0 a:Act}{L R S B X:Nat->Prop}{τ:Sm}{V:Vl}(hs:Sl A ops g st a0 L R S B X τ V a){i:Nat}{o:Oper}(ho:ops[i]?=some o)(hr:∀j,bit ms i j=true->L j):(st i=some true->yK ops a o)/\(st i=some false->¬yK ops a o):=by
 have hi:i<ops.size:=(zJ0.1 ho).1;obtain⟨ri,_,hstep⟩:=h.step i o ho;have hg:=hstep.gst;have hb:=hstep.gbit;unfold xS at hg
 cases hgo:o.guard with
 | none=>
  rw[hgo]at hg;simp only[zG2]at hg
  refine⟨fun _ g' b' h9=>?_,fun h9=>?_⟩
  .
   rw[hgo]at h9;cases h9
  .
   rw[<-hg]at h9;cases h9
 | some p=>
  obtain⟨j,b⟩:=p;rw[hgo]at hg hb;simp only[oX,zC0,zE3]at hb;have hL:=hr j hb.2;obtain⟨oj,hoj⟩:=nK (ops:=ops) (k:=j) Q0;obtain⟨rj,hrj,hsj⟩:=h.step j oj hoj
  simp only at hg
  rw[aN3 (is:=I) hrj hb.1,eK,aTj hoj]at hg
  simp only at hg
  cases hd:oj.dst with
  | none=>rw[hd]at hg;cases hg
  | some t=>
   rw[hd]at hg
   simp only at hg
   rw[h.slot1 hoj hd (k:=i) Q0 hb.1]at hg
   have wiff:yK ops a o ↔ a.eval (.tmp t)=.bool b:=by
    constructor
    .
     intro hw;obtain⟨og,t',q1,q2,q3⟩:=hw j b hgo;rw[hoj]at q1;cases q1;rw[hd]at q2;cases q2;exact q3
    .
     intro e g' b' h9;rw[hgo]at h9;cases h9;exact⟨oj,t,hoj,hd,e⟩
   have un:rj.un=false->st j=some true\/st j=some false:=fun h9=>by
    cases hst:st j with
    | none=>
     obtain⟨u0,_,_,_,hri2⟩:=hsj.yes Q72;rw[hri2,hst]at h9;cases h9
    | some b=>cases b <;> simp
   split at hg
   .
    rename_i b2 e
    split at hg
    .
     exact U104
    .
     rename_i hun
     have hv:a.eval (.tmp t)=.bool b2:=by
      rcases un (by simpa using hun) with h9|h9
      .
       have:=(hs.yes j oj t hoj hd (hs.tt j oj hoj hL h9)).1
       have e':(g j).r=.c (.tv b2):=by simpa using e
       rw[e']at this;exact this
      .
       have e':(g j).r=.c (.tv b2):=by simpa using e
       rw[(hsj.no h9).1]at e'
       cases e'
     simp only[zG2]at hg;rw[wiff,hv,<-hg]
     refine⟨fun h9=>?_,fun h9=>?_⟩
     .
      simp only[zG2,beq_iff_eq]at h9;rw[h9]
     .
      simp only[zG2,beq_eq_false_iff_ne]at h9;intro e9;cases e9;exact h9 rfl
   .
    exact U104
   .
    rename_i e
    split at hg
    .
     cases hg
    .
     rename_i hun
     have e':(g j).r=.c .und:=by simpa using e
     have hv:a.eval (.tmp t)=undef:=by
      rcases un (by simpa using hun) with h9|h9
      .
       have:=(hs.yes j oj t hoj hd (hs.tt j oj hoj hL h9)).1
       rw[e']at this;exact this
      .
       exact hs.no j oj t hoj hd hL (hs.ff j oj hoj hL h9)
     simp only[zG2]at hg;rw[wiff,hv,<-hg]
     exact⟨fun h9=> Q25,fun _ e9=>by simp[undef]at e9⟩
   .
    cases hg
end
end Eg
theorem U51{p:Prop}(h:p:=by
 obtain⟨u0,_,_,e1,e2⟩:=h2.yes Q72
 obtain⟨q1,q2,q3,q4,q5,q6⟩:=lW (A:=f k) A.sy.length o u0 (xM (st k))
 rw[e1,q2,q3,q5,q6,e2,hst]
 exact⟨rfl,rfl,rfl,by simp[Ri.of,xM]⟩):p:=h
theorem U100{p:Prop}(h:p:=by
 rcases zJ3 i i' with h9|h9
 .
  exact h9
 .
  exact absurd (.inr rfl) (h2 i ri h9 hri hs)):p:=h
namespace Eg
section
variable {G:Cfg} {A:AS} {ops:Array Oper} {ms:List Nat} {I:List Ri} {f:Nat->AS} {g:Nat->Out} {st:Nat->Option Bool}
theorem eU.row (h:eU G A ops ms I f g st){k:Nat}{o:Oper}{ri:Ri}(ho:ops[k]?=some o)(hri:I[k]?=some ri):ri.sp=((g k).up.isSome || (g k).nb.isSome)/\ri.br=(g k).br/\ri.nq=(g k).nq/\(ri.un=true ↔ st k=none):=by
 obtain⟨ri',h1,h2⟩:=h.step k o ho;rw[hri]at h1;cases h1
 cases hst:st k with
 | none=>
  exact U51
 | some b=>
  cases b with
  | false=>
   obtain⟨e1,e2⟩:=h2.no hst;rw[e2,e1]
   exact⟨rfl,rfl,rfl,by simp[Ri.of]⟩
  | true=>
   exact U51
theorem eU.bk1 (h:eU G A ops ms I f g st){k:Nat}{o:Oper}{ri:Ri}(ho:ops[k]?=some o)(hri:I[k]?=some ri)(hs:ri.sp=false):(f (k+1)).bk=(f k).bk:=by
 obtain⟨h1,_⟩:=h.row ho hri;rw[hs]at h1;have h2:=h1.symm;simp only[Bool.or_eq_false_iff,Option.isSome_eq_false_iff,Option.isNone_iff_eq_none]at h2;rw[h.lay ho];simp only[AS.lay,h2.1,h2.2,Option.toList,List.append_nil]
theorem eU.tg1 (h:eU G A ops ms I f g st){k:Nat}{o:Oper}{ri:Ri}(ho:ops[k]?=some o)(hri:I[k]?=some ri):(f (k+1)).tg=((f k).tg && !ri.br):=by
 obtain⟨_,h1,_⟩:=h.row ho hri;rw[h.lay ho,h1]
 rfl
theorem eU.ri (h:eU G A ops ms I f g st){k:Nat}(hk:k<ops.size):∃o ri,ops[k]?=some o/\I[k]?=some ri:=by
 obtain⟨o,ho⟩:=nK hk;obtain⟨ri,h1,_⟩:=h.step k o ho;exact⟨o,ri,ho,h1⟩
theorem eU.bkN (h:eU G A ops ms I f g st){k:Nat}:∀{n:Nat},k<=n->n<=ops.size->(∀m ri,k<=m->m<n->I[m]?=some ri->ri.sp=false)->(f n).bk=(f k).bk
 | 0,hk,_,_=>by rw[show k=0 by omega]
 | n+1,hk,hn,hs=>by
  rcases Nat.lt_or_eq_of_le hk with h1|h1
  .
   obtain⟨o,ri,q1,q2⟩:=h.ri (k:=n) Q0;rw[h.bk1 q1 q2 (hs n ri Q0 Q0 q2)]
   exact h.bkN Q0 Q0 (fun m ri a b=>hs m ri a Q0)
  .
   rw[h1]
theorem eU.tgN (h:eU G A ops ms I f g st){k:Nat}:∀{n:Nat},k<=n->n<=ops.size->(∀m ri,k<=m->m<n->I[m]?=some ri->ri.br=false)->(f n).tg=(f k).tg
 | 0,hk,_,_=>by rw[show k=0 by omega]
 | n+1,hk,hn,hs=>by
  rcases Nat.lt_or_eq_of_le hk with h1|h1
  .
   obtain⟨o,ri,q1,q2⟩:=h.ri (k:=n) Q0;rw[h.tg1 q1 q2,hs n ri Q0 Q0 q2,Bool.not_false,Bool.and_true]
   exact h.tgN Q0 Q0 (fun m ri a b=>hs m ri a Q0)
  .
   rw[h1]
theorem eU.tgF (h:eU G A ops ms I f g st){k:Nat}{ri:Ri}(hri:I[k]?=some ri)(hb:ri.br=true):∀{n:Nat},k<n->n<=ops.size->(f n).tg=false
 | 0,hk,_=>by omega
 | n+1,hk,hn=>by
  obtain⟨o,ri',q1,q2⟩:=h.ri (k:=n) Q0;rw[h.tg1 q1 q2]
  rcases Nat.lt_or_eq_of_le (Nat.le_of_lt_succ hk) with h1|h1
  .
   rw[h.tgF hri hb h1 Q0];rfl
  .
   subst h1;rw[hri]at q2;cases q2;rw[hb,Bool.not_true,Bool.and_false]
structure At (ops:Array Oper) (I:List Ri) (f:Nat->AS) (L:Nat->Prop) (K:List Bk) (b:Bool):Prop where
 bk:∀i,i<=ops.size->(∀m ri,m<i->I[m]?=some ri->ri.sp=true->L m)->(∀m ri,i<=m->I[m]?=some ri->ri.sp=true->¬L m)->K=(f i).bk
 tg:∀i,i<=ops.size->(∀m ri,m<i->I[m]?=some ri->ri.br=true->L m)->(∀m ri,i<=m->I[m]?=some ri->ri.br=true->¬L m)->b=(f i).tg
theorem At.ready (h:eU G A ops ms I f g st){L:Nat->Prop}{K:List Bk}{b:Bool}(hA:At ops I f L K b){i:Nat}{ri:Ri}(hi:i<ops.size)(hri:I[i]?=some ri)(hnk:ri.nk=false)(hr:∀j,bit ms i j=true->L j)(hnL:¬L i)(Ab:∀j,L j->bit ms j i=false):K=(f i).bk/\b=(f i).tg:=by
 have key:∀m rm,I[m]?=some rm->(rm.br=true\/rm.sp=true)->m ≠ i->bit ms m i=true\/bit ms i m=true:=fun m rm hm hb Aw=>by
  obtain⟨_,h1⟩:=jV h.ord hm;rw[zJ2]at h1
  have:=(sP h1 hri Q0).2 hb hnk
  rw[zJ2]at this;exact this
 have lo:∀m rm,m<i->I[m]?=some rm->(rm.br=true\/rm.sp=true)->L m:=fun m rm Aj hm hb=>by
  rcases key m rm hm hb Q0 with h1|h1
  .
   have:=h.low m i h1;omega
  .
   exact hr m h1
 have hi':∀m rm,i<=m->I[m]?=some rm->(rm.br=true\/rm.sp=true)->¬L m:=fun m rm hle hm hb hL=>by
  rcases Nat.lt_or_eq_of_le hle with h2|h2
  .
   rcases key m rm hm hb Q0 with h1|h1
   .
    have:=Ab m hL;rw[h1]at this;cases this
   .
    have:=h.low i m h1;omega
  .
   subst h2;exact hnL hL
 exact⟨hA.bk i Q0 (fun m rm a b c=>lo m rm a b (.inr c)) (fun m rm a b c=>hi' m rm a b (.inr c)),hA.tg i Q0 (fun m rm a b c=>lo m rm a b (.inl c)) (fun m rm a b c=>hi' m rm a b (.inl c))⟩
theorem At.next (h:eU G A ops ms I f g st){L:Nat->Prop}{K:List Bk}{b:Bool}(hA:At ops I f L K b){i:Nat}{o:Oper}{ri:Ri}(ho:ops[i]?=some o)(hri:I[i]?=some ri)(hr:∀j,bit ms i j=true->L j)(hnL:¬L i)(Ab:∀j,L j->bit ms j i=false):At ops I f (fun j=>L j\/j=i) (AS.lay { f i with bk:=K,tg:=b } o.dst (g i)).bk (b && !ri.br):=by
 have hi:i<ops.size:=(zJ0.1 ho).1;obtain⟨r1,r2,_⟩:=h.row ho hri
 refine⟨fun i' hi' h1 h2=>?_,fun i' hi' h1 h2=>?_⟩
 .
  cases hs:ri.sp with
  | false=>
   rw[hs]at r1;have r3:=r1.symm;simp only[Bool.or_eq_false_iff,Option.isSome_eq_false_iff,Option.isNone_iff_eq_none]at r3
   have e:(AS.lay { f i with bk:=K,tg:=b } o.dst (g i)).bk=K:=by simp only[AS.lay,r3.1,r3.2,Option.toList,List.append_nil]
   rw[e]
   refine hA.bk i' hi' (fun m rm a b c=>(h1 m rm a b c).resolve_right ?_) (fun m rm a b c hL=>h2 m rm a b c (.inl hL))
   rintro rfl;rw[hri]at b;cases b;rw[hs]at c;cases c
  | true=>
   obtain⟨e1,e2⟩:=At.ready h hA hi hri ((jV h.ord hri).1 hs) hr hnL Ab;subst e1 e2
   have Aj:i<i':=by
    exact U100
   show((f i).lay o.dst (g i)).bk=_
   rw[<-h.lay ho]
   refine(h.bkN Q0 hi' fun m rm a b hm=>?_).symm
   cases hsm:rm.sp with
   | false=>rfl
   | true=>
    have hL:L m:=(h1 m rm b hm hsm).resolve_right Q0
    have q1:=(jV h.ord hri).2;rw[zJ2]at q1;have q2:=(sP q1 hm Q0).2 (.inr hs) ((jV h.ord hm).1 hsm);rw[zJ2]at q2
    rcases q2 with q2|q2
    .
     have:=h.low i m q2;omega
    .
     have:=Ab m hL;rw[q2]at this;cases this
 .
  cases hs:ri.br with
  | false=>
   rw[Bool.not_false,Bool.and_true]
   refine hA.tg i' hi' (fun m rm a b c=>(h1 m rm a b c).resolve_right ?_) (fun m rm a b c hL=>h2 m rm a b c (.inl hL))
   rintro rfl;rw[hri]at b;cases b;rw[hs]at c;cases c
  | true=>
   have Aj:i<i':=by
    exact U100
   rw[Bool.not_true,Bool.and_false,h.tgF hri hs Aj hi']
end
end Eg
theorem U106{p:Prop}(h:p:=by
 rcases h with h|⟨j,h1,h2⟩
 .
  exact .inl h
 .
  exact .inr ⟨j,hR j h1,h2⟩):p:=h
namespace Eg
section
variable {G:Cfg} {A:AS} {ops:Array Oper} {ms:List Nat} {I:List Ri} {f:Nat->AS} {g:Nat->Out} {st:Nat->Option Bool}
def Sb (A:AS)(f:Nat->AS)(R:Nat->Prop)(s:Nat):Prop:=s<A.sy.length\/∃j,R j/\(f j).sy.length<=s/\s<(f (j+1)).sy.length
def Xb (A:AS)(f:Nat->AS)(R:Nat->Prop)(c:Nat):Prop:=c<A.ni\/∃j,R j/\(f j).ni<=c/\c<(f (j+1)).ni
def Bb (A:AS)(ops:Array Oper)(R:Nat->Prop)(K:List Bk)(n:Nat):Prop:=n<K.length/\∀j o T,ops[j]?=some o->o.op=.alloc T->n=A.bk.length+nAl j ops.toList->R j
theorem eU.ni1 (h:eU G A ops ms I f g st){k:Nat}(hk:k<ops.size):(f (k+1)).ni=if (g k).nx then (f k).ni+1 else (f k).ni:=by
 obtain⟨o,ho⟩:=nK hk;rw[h.lay ho]
 rfl
theorem eU.niLe (h:eU G A ops ms I f g st){k:Nat}:∀{n:Nat},k<=n->n<=ops.size->(f k).ni<=(f n).ni
 | 0,hk,_=>by rw[show k=0 by omega];exact zB0 _
 | n+1,hk,hn=>by
  rcases Nat.lt_or_eq_of_le hk with h1|h1
  .
   have h2:=h.niLe (k:=k) (n:=n) Q0 Q0;rw[h.ni1 Q0]
   split <;> omega
  .
   rw[h1];exact zB0 _
theorem aPr (h:eU G A ops ms I f g st){R:Nat->Prop}(hR:∀j,R j->j<ops.size){i q:Nat}(hi:i<ops.size)(hn:¬R i)(hq:q<(g i).ns.length):¬Sb A f R ((f i).sy.length+q):=by
 have e:(f (i+1)).sy.length=(f i).sy.length+(g i).ns.length:=by rw[h.sy1 hi];simp
 rintro (h1|⟨j,h1,h2,h3⟩)
 .
  have:=h.syLe (k:=0) (n:=i) Q0 Q0
  rw[h.f0]at this
  have h4:A.sy.length<=(f i).sy.length:=this
  omega
 .
  have hj:=hR j h1
  rcases Nat.lt_trichotomy j i with h4|h4|h4
  .
   have:=h.syLe (k:=j+1) (n:=i) Q0 Q0;omega
  .
   subst h4;exact hn h1
  .
   have:=h.syLe (k:=i+1) (n:=j) Q0 Q0;omega
theorem aPq (h:eU G A ops ms I f g st){R:Nat->Prop}(hR:∀j,R j->j<ops.size){i:Nat}(hi:i<ops.size)(hn:¬R i)(hx:(g i).nx=true):¬Xb A f R (f i).ni:=by
 have e:(f (i+1)).ni=(f i).ni+1:=by rw[h.ni1 hi,hx];rfl
 rintro (h1|⟨j,h1,h2,h3⟩)
 .
  have:=h.niLe (k:=0) (n:=i) Q0 Q0
  rw[h.f0]at this
  have h4:A.ni<=(f i).ni:=this
  omega
 .
  have hj:=hR j h1
  rcases Nat.lt_trichotomy j i with h4|h4|h4
  .
   have:=h.niLe (k:=j+1) (n:=i) Q0 Q0;omega
  .
   subst h4;exact hn h1
  .
   have:=h.niLe (k:=i+1) (n:=j) Q0 Q0;omega
theorem aPs {R:Nat->Prop}{i s:Nat}(h:Sb A f (fun j=>R j\/j=i) s)(he:(f (i+1)).sy.length=(f i).sy.length+(g i).ns.length):Sb A f R s\/∃q,q<(g i).ns.length/\s=(f i).sy.length+q:=by
 rcases h with h|⟨j,h1|rfl,h2,h3⟩
 .
  exact .inl (.inl h)
 .
  exact .inl (.inr ⟨j,h1,h2,h3⟩)
 .
  exact .inr ⟨s-(f j).sy.length,by omega,by omega⟩
theorem aGx {R R':Nat->Prop}{s:Nat}(h:Sb A f R s)(hR:∀j,R j->R' j):Sb A f R' s:=by
 exact U106
theorem aGw {R R':Nat->Prop}{s:Nat}(h:Xb A f R s)(hR:∀j,R j->R' j):Xb A f R' s:=by
 exact U106
end
theorem aJ9 {o:Oper}{T:TypeId}(ho:o.op=.alloc T):∀(l:List Oper) (i j:Nat),l[i]?=some o->i<j->nAl i l<nAl j l:=by
 intro l
 induction l with
 | nil=>intro i j h;simp at h
 | cons x l ih=>
  intro i j h hj
  obtain⟨j,rfl⟩:∃k,j=k+1:=⟨j-1,by omega⟩
  cases i with
  | zero=>
   simp only[List.getElem?_cons_zero,zG2]at h;subst h;simp only[nAl,ho]
   omega
  | succ i=>
   rw[List.getElem?_cons_succ]at h
   have:=ih i j h Q0
   simp only[nAl]
   split <;> omega
theorem aLv {l:List Oper}{i j:Nat}{o o':Oper}{T T':TypeId}(h:l[i]?=some o)(h':l[j]?=some o')(ho:o.op=.alloc T)(ho':o'.op=.alloc T')(e:nAl i l=nAl j l):i=j:=by
 rcases Nat.lt_trichotomy i j with h1|h1|h1
 .
  have:=aJ9 ho l i j h h1;omega
 .
  exact h1
 .
  have:=aJ9 ho' l j i h' h1;omega
theorem zB:∀{l:List Oper} {i:Nat} {o:Oper} {T:TypeId} {z:List CV} {ds:List Nat},l[i]?=some o->o.op=.alloc T->bY T TZ=some (z,ds)->at? (pre l) (nAl i l)=some (.cells T z)
 | [],_,_,_,_,_,h,_,_=>by simp at h
 | x :: l,0,o,T,z,ds,h,ho,hz=>by
  simp only[List.getElem?_cons_zero,zG2]at h;subst h;simp only[pre,ho,hz,nAl,at?]
 | x :: l,i+1,o,T,z,ds,h,ho,hz=>by
  rw[List.getElem?_cons_succ]at h;have ih:=zB h ho hz;simp only[nAl,pre]
  split
  .
   rename_i T' e
   split <;> exact ih
  .
   exact ih
end Eg
end Go.Proofs.YtffphdacgblaoaaGreatDoor

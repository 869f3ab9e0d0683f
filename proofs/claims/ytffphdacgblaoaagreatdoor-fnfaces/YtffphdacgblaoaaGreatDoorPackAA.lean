import Derived.Test.YtffphdacgblaoaaGreatDoorPackO
import Derived.Test.YtffphdacgblaoaaGreatDoorPackR
namespace Go.Proofs.YtffphdacgblaoaaGreatDoor
open Go.RowKit
set_option linter.unusedVariables false
set_option linter.unusedSimpArgs false
set_option maxRecDepth 100000
theorem U103{p:Prop}(h:p:=by
 split at hnm
 .
  have:=gN hnm;omega
 .
  have:name.length=0:=by simpa using hnm
  omega):p:=h
def aM4 (fs:List Fa):Prop:=∀f ∈ fs,f.name.length<=1048576/\∀q ∈ f.procs,q.name.length<=1048576
theorem sE {l:List (List Int × Mn)}{g:List Int->Mn}{t:List Int}(hz:∀p ∈ l,p.2.1 ≠ 0):(stG g l t).1=0 ↔ (∀p ∈ l,p.1 ≠ t)/\(g t).1=0:=by
 induction l generalizing g with
 | nil=>simp[stG]
 | cons q l ih=>
  rw[yT,ih (fun p hp=>hz p (List.mem_cons_of_mem _ hp))]
  unfold qL
  by_cases e:t=q.1
  .
   rw[if_pos e]
   refine⟨fun h=>absurd h.2 (hz q Q9),fun h=>absurd e.symm (h.1 q Q9)⟩
  .
   rw[if_neg e]
   refine⟨fun h=>⟨fun p hp=>?_,h.2⟩,fun h=>⟨fun p hp=>h.1 p (List.mem_cons_of_mem _ hp),h.2⟩⟩
   rcases zG3.1 hp with rfl|hp
   .
    exact fun e'=>e e'.symm
   .
    exact h.1 p hp
theorem pT {l:List (List Int × Mn)}{g:List Int->Mn}(hz:∀p ∈ l,p.2.1 ≠ 0):okG g l=true ↔ (l.map Prod.fst).Nodup/\∀p ∈ l,(g p.1).1=0:=by
 induction l generalizing g with
 | nil=>simp[okG]
 | cons q l ih=>
  rw[zO,zC0,ih (fun p hp=>hz p (List.mem_cons_of_mem _ hp)),zH2,List.nodup_cons,zE3]
  constructor
  .
   rintro⟨h1,h2,h3⟩
   have hn:q.1 ∉ l.map Prod.fst:=by
    intro hm;obtain⟨p,hp,e⟩:=zE1.1 hm
    have:=h3 p hp
    unfold qL at this;rw[if_pos e]at this;exact hz q Q9 this
   refine⟨⟨hn,h2⟩,fun p hp=>?_⟩
   rcases zG3.1 hp with rfl|hp
   .
    exact h1
   .
    have:=h3 p hp
    unfold qL at this
    rw[if_neg (fun e=>hn (zE1.2 ⟨p,hp,e⟩))]at this
    exact this
  .
   rintro⟨⟨hn,h2⟩,h3⟩
   refine⟨h3 q Q9,h2,fun p hp=>?_⟩
   unfold qL
   rw[if_neg (fun e=>hn (zE1.2 ⟨p,hp,e⟩))]
   exact h3 p (List.mem_cons_of_mem _ hp)
theorem zZ {l:List (List Int)}:l.Nodup ↔ ∀i x,l[i]?=some x->ix l x=some i:=by
 constructor
 .
  intro h i x hx
  refine aFd (fun j y hj hy e=>?_) hx
  subst e;obtain⟨h1,e1⟩:=zC1.1 hx;obtain⟨h2,e2⟩:=zC1.1 hy
  exact(List.pairwise_iff_getElem.1 h) j i h2 h1 hj (by rw[e1,e2])
 .
  intro h
  refine List.pairwise_iff_getElem.2 fun i j hi hj hij e=>?_
  have h1:=h j l[j] (zA0 hj)
  have h2:=h i l[j] (by rw[<-e];exact zA0 hi)
  rw[h1]at h2;cases h2
  omega
theorem oI {α:Type}{f:α->List Int}{l:List α}:(l.map f).Nodup ↔ ∀i y,l[i]?=some y->ix (l.map f) (f y)=some i:=by
 rw[zZ]
 constructor
 .
  intro h i y hy
  exact h i (f y) (by rw[zA2,hy];rfl)
 .
  intro h i x hx;rw[zA2]at hx;obtain⟨y,hy,rfl⟩:=zF0.1 hx;exact h i y hy
def vaL (m:Mo):List (List Int × Mn):=m.vars.map fun v=>(v.name,oN v)
def prL (m:Mo):List (List Int × Mn):=m.procs.map fun q=>(q.name,zE q)
def g0:List Int->Mn:=fun _=>(0,[])
def g1 (m:Mo):List Int->Mn:=stG (stG g0 (vaL m)) (prL m)
def xH (m:Mo):Bool:=(okG g0 (vaL m) && okG (stG g0 (vaL m)) (prL m)) && m.procs.all (oW (g1 m))
theorem aNf (m:Mo):∀p ∈ vaL m,p.2.1 ≠ 0:=by
 intro p hp;obtain⟨v,_,rfl⟩:=zE1.1 hp;unfold oN
 simp only
 split <;> decide
theorem aJ2 (m:Mo):∀p ∈ prL m,p.2.1 ≠ 0:=by
 intro p hp;obtain⟨v,_,rfl⟩:=zE1.1 hp;unfold zE
 simp
theorem zI (q:Pr):∀p ∈ paL q,p.2.1 ≠ 0:=by
 intro p hp;obtain⟨v,_,rfl⟩:=zE1.1 hp;unfold mP
 simp only
 split <;> decide
theorem aKb (q:Pr):∀p ∈ loL q,p.2.1 ≠ 0:=by
 intro p hp;obtain⟨v,_,rfl⟩:=zE1.1 hp
 simp
theorem sA (l:List (List Int)):fU l=true ↔ l.Nodup:=by
 rw[zZ];unfold fU unl;rw[zF3]
 constructor
 .
  intro h i x hx;have hi:=(zC1.1 hx).1
  have:=h i Q77
  rw[hx,zI1,Bool.not_eq_true',List.any_eq_false]at this
  refine aFd (fun j y hj hy e=>?_) hx
  subst e
  exact this y (by rw[List.mem_take_iff_getElem];obtain⟨hj',e⟩:=zC1.1 hy;exact⟨j,by omega,e⟩) Q9
 .
  intro h i hi
  have hi:i<l.length:=by simpa using hi
  rw[zA0 hi,zI1,Bool.not_eq_true',List.any_eq_false];intro x hx e
  have e:x=l[i]:=by simpa using e
  subst e;rw[List.mem_take_iff_getElem]at hx;obtain⟨j,hj,e⟩:=hx;have h1:=h i _ (zA0 hi)
  have h2:=h j l[i] (by rw[zA0 Q0];exact congrArg some e)
  rw[h1]at h2;cases h2
  omega
theorem aIu (fs:List Fa):iJ fs=true ↔ aR2 fs:=by
 unfold iJ aR2 aSh;rw[zC0,zC0,zE3,zF3,sA,oI]
 constructor
 .
  rintro⟨⟨h1,h2⟩,h3⟩
  exact⟨h1,fun i f hf=>⟨h2 f (zA3 hf),h3 i f hf⟩⟩
 .
  rintro⟨h1,h2⟩
  refine⟨⟨h1,fun f hf=>?_⟩,fun i f hf=>(h2 i f hf).2⟩
  obtain⟨i,hi⟩:=zH3 hf;exact(h2 i f hi).1
theorem aCn {x:List Int}{g:Bool}(h:aK x g=true):(46:Int) ∉ x:=by
 intro hm;obtain⟨j,hj,e⟩:=List.getElem_of_mem hm;unfold aK at h;rw[zC0,zF3]at h
 have:=h.2 j (by simpa using hj)
 unfold pU at this
 split at this
 .
  rename_i h0
  subst h0;rw[zA0 hj,zI1,e]at this
  cases g <;> simp[upB,wJ]at this
 .
  rw[zA0 hj,zI1,e]at this
  simp[wJ,aI6]at this
theorem aE3 {x:List Int}{g:Bool}(h:aK x g=true):x ≠ []:=by
 rintro rfl
 simp[aK]at h
theorem aGi {a x:List Int}(ha:aK a true=true):(46:Int) ∈ jL a x:=by
 unfold jL;rw[if_neg (aE3 ha)]
 simp
theorem aB9 (g:List Int->Mn)(a b:List (List Int × Mn)):stG g (a++b)=stG (stG g a) b:=by unfold stG;rw[List.foldl_append]
def aHb (us:List (List Int))(fs:List Fa):List (List Int × Mn):=(fs.filter fun f=>us.any fun y=>decide (y=f.name)).flatMap fpL
theorem yO (us:List (List Int))(g:List Int->Mn)(fs:List Fa):eN us g fs=stG g (aHb us fs):=by
 induction fs generalizing g with
 | nil=>rfl
 | cons f fs ih=>
  have e:eN us g (f :: fs)=eN us (aJt us g f) fs:=rfl
  rw[e,ih];unfold aJt aHb
  cases h:us.any fun y=>decide (y=f.name)
  .
   rw[List.filter_cons_of_neg (by rw[h];simp)];rfl
  .
   rw[List.filter_cons_of_pos (by rw[h]),List.flatMap_cons,aB9];rfl
theorem tY {us:List (List Int)}{fs:List Fa}{p:List Int × Mn}:p ∈ aHb us fs ↔ ∃f ∈ fs,f.name ∈ us/\∃r ∈ f.procs,p=(jL f.name r.name,(3,r.kinds)):=by
 unfold aHb fpL;simp only[List.mem_flatMap,List.mem_filter,zE1,List.any_eq_true,zE3]
 constructor
 .
  rintro⟨f,⟨hf,y,hy,rfl⟩,r,hr,rfl⟩;exact⟨f,hf,hy,r,hr,rfl⟩
 .
  rintro⟨f,hf,hu,r,hr,rfl⟩;exact⟨f,⟨hf,f.name,hu,rfl⟩,r,hr,rfl⟩
structure MoN (m:Mo):Prop where
 va:∀v ∈ m.vars,aK v.name false=true/\0<=v.size
 pr:∀q ∈ m.procs,aK q.name false=true/\(∀a ∈ q.params,aK a.name false=true)/\∀x ∈ q.locals,aK x false=true
structure FaN (fs:List Fa):Prop where
 nd:(fs.map Fa.name).Nodup
 nm:∀f ∈ fs,aK f.name true=true
 pn:∀f ∈ fs,(f.procs.map Fp.name).Nodup
 kd:∀f ∈ fs,∀r ∈ f.procs,∀k ∈ r.kinds,k=0\/k=1
theorem aO7 {fs:List Fa}(h:aR2 fs):FaN fs:=by
 have H:∀f ∈ fs,vS f=true:=fun f hf=>by obtain⟨i,hi⟩:=zH3 hf;exact(h.2 i f hi).1
 have H':∀f ∈ fs,((aK f.name true=true/\f.procs.length<=8)/\f.procs.all aDm=true)/\fU (f.procs.map Fp.name)=true:=fun f hf=>by
  have:=H f hf
  unfold vS at this
  simpa only [zC0,zE3] using this
 refine⟨oI.2 fun i f hf=>(h.2 i f hf).2,fun f hf=>(H' f hf).1.1.1,fun f hf=>(sA _).1 (H' f hf).2,fun f hf r hr k hk=>?_⟩
 have:=zF3.1 (H' f hf).1.2 r hr
 unfold aDm at this;rw[zC0]at this
 have:=zF3.1 this.2 k hk
 simp only[aKi,zC0,zE3]at this
 omega
section
variable {m:Mo} {fs:List Fa} {q:Pr}
theorem aDr {us:List (List Int)}{g:List Int->Mn}{x:List Int}(hF:FaN fs)(h:(46:Int) ∉ x):eN us g fs x=g x:=by
 rw[yO,kK];intro p hp e;obtain⟨f,hf,_,r,_,rfl⟩:=tY.1 hp
 exact h (by rw[<-e];exact aGi (hF.nm f hf))
end
theorem gN {x:List Int}{g:Bool}(h:aK x g=true):x.length<=8:=by
 unfold aK at h;simp only[zC0,zE3]at h;exact h.1.2
theorem zQ {m:Mo}(h:cH m=true):MoN m:=by
 obtain⟨_,_,hv,hp⟩:=eQ h
 refine⟨fun v hv'=>?_,fun q hq=>?_⟩
 .
  have:=hv v hv'
  unfold mD inB at this;simp only[zC0,zE3]at this;exact⟨this.1,this.2.1⟩
 .
  have:=(hp q hq).1
  unfold kH at this;simp only[zC0,zE3,zF3]at this
  exact⟨this.1.1.1.1,fun a ha=>this.1.1.2 a ha,fun x hx=>this.2 x hx⟩
theorem oV {m:Mo}(h:cH m=true):∀q ∈ m.procs,aG0 q:=by
 intro q hq
 have:=((eQ h).2.2.2 q hq).1
 have hn:=(zQ h).pr q hq;unfold kH at this;simp only[zC0,zE3]at this
 exact⟨this.1.1.1.2,this.1.2,fun a ha=>by have:=gN (hn.2.1 a ha);omega,fun y hy=>by have:=gN (hn.2.2 y hy);omega⟩
theorem aGc {m:Mo}(h:cH m=true):m.vars.length<=8/\m.procs.length<=8:=by
 unfold cH at h;simp only[zC0,zE3]at h;exact⟨h.1.1.1.1.2,h.1.1.2⟩
mutual
theorem aNe:∀e,qN e=true->wfE e
 | .mk k n mod name kids,h=>by
  unfold qN at h;simp only[zC0]at h;have hk:=wL kids h.2;have hl:=h.1.1;unfold iW inB at hl;simp only[zC0,Bool.or_eq_true,zE3]at hl;obtain⟨⟨hk8,_,hnm⟩,hmod⟩:=hl
  refine⟨⟨hk8.1,by omega, ?_, ?_⟩,hk⟩
  .
   rcases hmod with h|⟨_,h⟩
   .
    omega
   .
    have:=gN h;omega
  .
   exact U103
theorem wL:∀l,eI l=true->aG2 l
 | [],_=>trivial
 | e :: l,h=>by
  unfold eI at h;rw[zC0]at h;exact⟨aNe e h.1,wL l h.2⟩
end
mutual
theorem aNd:∀s,xD s=true->wfS s
 | .mk k n name kids body els,h=>by
  unfold xD at h;simp only[zC0]at h;obtain⟨⟨⟨hl,hks⟩,hb⟩,he⟩:=h;have h1:=sB body hb;have h2:=sB els he;unfold pK inB at hl;simp only[zC0,Bool.or_eq_true,zE3]at hl;obtain⟨⟨⟨⟨⟨hk8,_,hnm⟩,_⟩,_⟩,_⟩,_⟩:=hl
  refine⟨⟨hk8.1,by omega, ?_⟩,wL kids hks,h1,h2⟩
  exact U103
theorem sB:∀l,gJ l=true->yM l
 | [],_=>trivial
 | s :: l,h=>by
  unfold gJ at h;rw[zC0]at h;exact⟨aNd s h.1,sB l h.2⟩
end
def iP (m:Mo)(fs:List Fa):Int:=if (lN m && iJ fs)=false then 1 else if xH m=false then 2 else if mE m fs=false then 3 else gH (eN m.uses (g1 m) fs) 0 m.procs
theorem qH {g:List Int->Mn}{l:List (List Int × Mn)}(hg:tT g)(hz:∀p ∈ l,p.2.1 ≠ 0):tT (stG g l):=by
 intro x hx;have h:=(sE hz).1 hx;rw[kK h.1];exact hg x h.2
theorem aI9:tT g0:=fun _ _=>rfl
theorem tH (m:Mo):tT (g1 m):=qH (qH aI9 (aNf m)) (aJ2 m)
theorem aDj (us:List (List Int))(m:Mo)(fs:List Fa):tT (eN us (g1 m) fs):=by
 rw[yO]
 refine qH (tH m) fun p hp=>?_
 obtain⟨f,_,_,r,_,rfl⟩:=tY.1 hp
 simp
theorem aEy {m:Mo}{fs:List Fa}{q:Pr}(us:List (List Int))(hM:MoN m)(hF:FaN fs)(hq:q ∈ m.procs):oW (eN us (g1 m) fs) q=oW (g1 m) q:=by
 have hq':=hM.pr q hq
 have e:∀x,aK x false=true->eN us (g1 m) fs x=g1 m x:=fun x hx=>aDr hF (aCn hx)
 rw[Bool.eq_iff_iff];unfold oW;rw[zC0,zC0,pT (zI q),pT (aKb q),pT (zI q),pT (aKb q)]
 refine and_congr (and_congr_right fun _=>forall_congr' fun p=>forall_congr' fun hp=>?_) (and_congr_right fun _=>forall_congr' fun p=>forall_congr' fun hp=>?_)
 .
  obtain⟨a,ha,rfl⟩:=zE1.1 hp
  simp only
  rw[e _ (hq'.2.1 a ha)]
 .
  obtain⟨x,hx,rfl⟩:=zE1.1 hp
  simp only
  rw[sE (zI q),sE (zI q),e _ (hq'.2.2 x hx)]
def qQ:List Int:=[81,113]
def faQ:Fa:=⟨qQ,[]⟩
theorem aO6:vS faQ=true:=by decide
theorem rC (g:List Int->Mn):∀(l:List Pr) (c:Int),c ≠ 1->gH g c l ≠ 1
 | [],c,h=>h
 | q :: l,c,h=>by
  simp only[gH]
  split
  .
   decide
  .
   exact rC g l _ (by split <;> first|decide|exact h)
theorem aDu {m:Mo}{fs:List Fa}(h:iP m fs=1):(lN m && iJ fs)=false:=by
 unfold iP at h
 split at h
 .
  assumption
 .
  split at h
  .
   cases h
  .
   split at h
   .
    cases h
   .
    exact absurd h (rC _ _ _ Q5)
theorem aHf {m:Mo}(h:iP m []=1):lN m=false:=by
 have h1:=aDu h
 cases hm:lN m with
 | false=>rfl
 | true=>
  rw[hm]at h1
  have:iJ []=true:=by decide
  rw[this]at h1;cases h1
theorem aDs {l:List (List Int)}(h:l.Nodup):fU l=true:=by
 refine nX fun i hi=>?_
 unfold unl;rw[Bool.not_eq_true',List.any_eq_false];intro y hy e
 have e:y=l[i]?.getD []:=by simpa using e
 rw[zA0 hi,zI1]at e;obtain⟨j,hj,rfl⟩:=List.mem_iff_getElem.1 hy;rw[List.length_take]at hj;rw[List.getElem_take]at e;exact(List.pairwise_iff_getElem.1 h) j i Q0 hi Q0 e
theorem aHc {l:List (List Int)}{x:List Int}(h:fU l=true)(hx:x ∉ l):fU (l++[x])=true:=by
 unfold fU at *;rw[zF3]at *;intro i hi;rw[List.mem_range,zA1,List.length_singleton]at hi;unfold unl;rw[Bool.not_eq_true',List.any_eq_false];intro y hy e
 have e:y=(l++[x])[i]?.getD []:=by simpa using e
 rcases zJ3 i l.length with h9|h9
 .
  rw[List.getElem?_append_left h9]at e;rw[List.take_append_of_le_length Q0]at hy
  have:=h i (List.mem_range.2 h9)
  unfold unl at this;rw[Bool.not_eq_true',List.any_eq_false]at this
  exact this y hy (by simpa using e)
 .
  have:i=l.length:=Q0
  subst this;rw[List.getElem?_append_right (zB0 _),Nat.sub_self]at e;simp only[List.getElem?_cons_zero,zI1]at e;rw[List.take_append_of_le_length (zB0 _),List.take_length]at hy;subst e;exact hx hy
theorem aFt {m:Mo}{fs:List Fa}(h:iP m fs=0):lN m=true/\vS (aFu m)=true:=by
 have h1:lN m=true/\xH m=true:=by
  unfold iP at h
  split at h
  .
   cases h
  .
   rename_i h1
   have h1:(lN m && iJ fs)=true:=by simpa using h1
   rw[zC0]at h1
   split at h
   .
    cases h
   .
    rename_i h2
    exact⟨h1.1,by simpa using h2⟩
 refine⟨h1.1, ?_⟩
 have hf:cH m=true:=by
  have:=h1.1
  unfold lN at this;rw[zC0]at this;exact this.1
 have hn:=h1.2;unfold xH at hn;rw[zC0,zC0]at hn;have hd:=((pT (aJ2 m)).1 hn.1.2).1;unfold cH at hf;simp only[zC0,zE3,zF3]at hf;obtain⟨⟨⟨⟨⟨⟨⟨f1,f2⟩,f3⟩,f4⟩,f5⟩,f6⟩,f7⟩,f8⟩:=hf;have Ak:=vK m.procs;unfold vS aFu;simp only[zC0,zE3,zF3]
 refine⟨⟨⟨f1,by omega⟩,fun x hx=>?_⟩,aDs ?_⟩
 .
  unfold jY at hx;obtain⟨q,hq,rfl⟩:=zE1.1 hx;have h7:=f7 q (List.mem_filter.1 hq).1;unfold kH at h7;simp only[zC0,zE3]at h7;unfold aDm Pr.fp;simp only[zC0,zE3,zF3]
  refine⟨⟨h7.1.1.1.1,by unfold dR;rw[zB2];exact h7.1.1.1.2⟩,fun k hk=>?_⟩
  unfold dR at hk;obtain⟨a,_,rfl⟩:=zE1.1 hk
  cases a.arr <;> decide
 .
  have e:(jY m.procs).map Fp.name=(m.procs.filter Pr.opn).map Pr.name:=by
   unfold jY;rw[List.map_map]
   rfl
  rw[e]
  have e2:(prL m).map Prod.fst=m.procs.map Pr.name:=by
   unfold prL;rw[List.map_map]
   rfl
  rw[e2]at hd;exact hd.sublist (List.Sublist.map _ List.filter_sublist)
theorem aDt {m:Mo}{fs:List Fa}(h1:iP m fs ≠ 1)(hn:qQ ∉ fs.map Fa.name)(hu:qQ ∉ m.uses)(hl:fs.length<=7):iP m (fs++[faQ])=iP m fs:=by
 have h2:(lN m && iJ fs)=true:=by
  cases h9:(lN m && iJ fs) with
  | true=>rfl
  | false=>exact absurd (by unfold iP;rw[if_pos h9]) h1
 rw[zC0]at h2
 have h3:iJ (fs++[faQ])=true:=by
  have h9:=h2.2;unfold iJ at h9 ⊢;simp only[zC0,zE3,zF3]at h9 ⊢
  refine⟨⟨by rw[zA1,List.length_singleton];omega,fun f hf=>?_⟩, ?_⟩
  .
   rcases List.mem_append.1 hf with hf|hf
   .
    exact h9.1.2 f hf
   .
    rw[List.mem_singleton.1 hf];exact aO6
  .
   rw[List.map_append];exact aHc h9.2 hn
 have h4:mE m (fs++[faQ])=mE m fs:=by
  unfold mE;rw[Bool.eq_iff_iff,zF3,zF3]
  refine forall_congr' fun j=>forall_congr' fun hj=>?_
  rw[List.mem_range]at hj
  have e:qR m (fs++[faQ]) j=qR m fs j:=by
   unfold qR
   have hx:m.uses[j]?.getD [] ∈ m.uses:=by rw[zA0 hj,zI1];exact List.getElem_mem hj
   have Aw:decide (faQ.name=m.uses[j]?.getD [])=false:=zC2 fun e9=>hu (by rw[<-e9]at hx;exact hx)
   rw[List.any_append,List.any_cons,Aw]
   simp
  rw[e]
 have h5:eN m.uses (g1 m) (fs++[faQ])=eN m.uses (g1 m) fs:=by
  unfold eN;rw[List.foldl_append];simp only[List.foldl_cons,List.foldl_nil];unfold aJt;rw[if_neg];rw[List.any_eq_true];rintro⟨y,hy,e⟩
  have e:y=faQ.name:=by simpa using e
  rw[e]at hy;exact hu hy
 unfold iP;rw[h2.2,h3,h4,h5]
set_option maxHeartbeats 8000000 in
theorem aAd (m:Mo)(fs:List Fa)(vs:List Value)(b:Option Addr)(nf d:Nat)(w:World)(hT:nF w)(hex:∀i,i<8->w.cell? ⟨1,i,none⟩=some (.int .i64 (vU i)))(hst:∀i,i<8->w.cell? ⟨0,i,none⟩=some (.int .i64 (wQ i)))
  (h:cC w m.fl vs) (hs:aL m.fl<=1048576) (hf:bQ w b d 2 (fs.map Fa.fl)) (hfl:fs.length=nf) (hfs:aM4 fs):
  Calls Tryz.prog 5 #[agg vs,.slice b nf d] w fun e w'=>e=.returned (.int .i64 (iP m fs))/\w.grownBy w' none:=by
 have h0:=h;obtain⟨v0,_,rfl,_,v1,_,rfl,hu,v2,_,rfl,_,v3,_,rfl,hp,rfl⟩:=h;obtain⟨au,cu,rfl,hU⟩:=hu.list;obtain⟨ap,cp,rfl,hP⟩:=hp.list
 have eu:(dC m.uses).length=m.uses.length:=by simp[dC]
 rw[zB2,eu]at h0 ⊢
 obtain⟨nu,hnu⟩:∃z,z=m.uses.length:=⟨_,rfl⟩
 obtain⟨np,hnp⟩:∃z,z=m.procs.length:=⟨_,rfl⟩
 have HNU:Hid (m.uses.length=nu):=hnu.symm
 have HNP:Hid (m.procs.length=np):=hnp.symm
 rw[<-hnu,<-hnp]at h0 ⊢
 have HM:Hid (cC w m.fl [v0,.slice au nu cu,v2,.slice ap np cp]):=h0
 have HU:Hid (bQ w au cu 1 (dC m.uses)):=hU
 have HP:Hid (bQ w ap cp 5 (m.procs.map Pr.fl)):=hP
 have HF:Hid (bQ w b d 2 (fs.map Fa.fl)):=hf
 have HFL:Hid (fs.length=nf):=hfl
 have HFN:Hid (aM4 fs):=hfs
 have HEX:Hid (∀i,i<8->w.cell? ⟨1,i,none⟩=some (.int .i64 (vU i))):=hex
 have HSX:Hid (∀i,i<8->w.cell? ⟨0,i,none⟩=some (.int .i64 (wQ i))):=hst
 have HTC:Hid (iP m fs=if (lN m && iJ fs)=false then 1 else if xH m=false then 2 else if mE m fs=false then 3 else gH (eN m.uses (g1 m) fs) 0 m.procs):=rfl
 have y1:=aB w (.cells #[v0,.slice au nu cu,v2,.slice ap np cp] 27 (0,0)) none;have x1:=Blk.new w 27 [v0,.slice au nu cu,v2,.slice ap np cp];simp only[List.toArray]at x1;have H1:=aAe m _ _ (hT.below (aA y1)) (h0.below (aA y1)) hs;simp only[List.toArray]at H1;simp only[agg];clear h0 hu hp hU hP hnu hnp hf hfl hfs hex hst eu hT hs;go_enter Tryz.func5,Tryz.ntmps5;go_upto_region 1 with fail;generalize w.alloc (.cells #[v0,.slice au nu cu,v2,.slice ap np cp] 27 (0,0))=w1 at *;generalize w.heap.size=gM at *;obtain⟨q0,q1,q2,q3⟩:=x1.c4;clear x1
 cases hmo:lN m
 .
  rw[hmo]at H1
  have HR:Hid (iP m fs=1):=by show _=_;rw[HTC.out,hmo];rfl
  clear hmo HTC;go_wp2_with fail;refine H1.mono ?_;rintro e w2 ⟨rfl,hg2⟩
  have G2:Hid (w.grownBy w2 none):=aD y1 hg2
  clear H1 q0 q1 q2 q3 hg2 y1;go_wp2;go_ret;exact⟨gD HR.out.symm,G2.out⟩
 rw[hmo]at H1
 have HMO:Hid (lN m=true):=hmo
 have HFO:Hid (cH m=true):=by
  have:=hmo
  unfold lN at this;rw[zC0]at this;exact this.1
 clear hmo
 cases hfa:iJ fs
 .
  have HR:Hid (iP m fs=1):=by show _=_;rw[HTC.out,hfa,Bool.and_false];rfl
  clear HTC;go_wp2_with fail;refine H1.mono ?_;rintro e w2 ⟨rfl,hg2⟩;have y2:=aD y1 hg2;have H2:=aAl fs b nf d w2 HFL.out (HF.out.below (aA y2)) HFN.out;rw[hfa]at H2;clear H1 q0 q1 q2 q3 hg2 y1 hfa;go_wp2_with fail;refine H2.mono ?_;rintro e w3 ⟨rfl,hg3⟩
  have G3:Hid (w.grownBy w3 none):=aD y2 hg3
  clear H2 hg3 y2;go_wp2;go_ret;exact⟨gD HR.out.symm,G3.out⟩
 have HFN':Hid (FaN fs):=aO7 ((aIu fs).1 hfa)
 have HFA:Hid (∀f ∈ fs,aPt f):=by
  intro f hf';have h1:=hfa;unfold iJ at h1;simp only[zC0,zF3]at h1;have h2:=h1.1.2 f hf';unfold vS at h2;simp only[zC0,zE3]at h2;have h3:=HFN.out f hf';exact⟨h2.1.1.2,h3.1,h3.2⟩
 have HF8:Hid (nf<=8):=by
  have h1:=hfa;unfold iJ at h1;simp only[zC0,zE3]at h1;rw[<-HFL.out];exact h1.1.1
 have HTC2:Hid (iP m fs=if xH m=false then 2 else if mE m fs=false then 3 else gH (eN m.uses (g1 m) fs) 0 m.procs):=by show _=_;rw[HTC.out,HMO.out,hfa];rfl
 clear HTC
 have HC8:Hid ((vaL m).length<=8/\(prL m).length<=8/\np<=8):=by
  have h1:=aGc HFO.out
  refine⟨?_, ?_,by rw[<-HNP.out];exact h1.2⟩
  .
   unfold vaL;rw[zB2];exact h1.1
  .
   unfold prL;rw[zB2];exact h1.2
 go_wp2_with fail;refine H1.mono ?_;rintro e w2 ⟨rfl,hg2⟩;have y2:=aD y1 hg2;have H2:=aAl fs b nf d w2 HFL.out (HF.out.below (aA y2)) HFN.out;rw[hfa]at H2;replace q0:=aC q0 (aA hg2);replace q1:=aC q1 (aA hg2);replace q2:=aC q2 (aA hg2);replace q3:=aC q3 (aA hg2);clear H1 hg2 y1 hfa;go_wp2_with fail;refine H2.mono ?_;rintro e w3 ⟨rfl,hg3⟩;have y3:=aD y2 hg3;have y4:=aB w3 (.map #[] 0) none
 have B4:Hid (Below w.heap.size w (w3.alloc (.map #[] 0))):=aA (aD y3 y4)
 have HBB:Hid (w.heap.size<=w3.heap.size):=(aA y3).size
 have N4:=NT.made w3;replace q0:=aC (aC q0 (aA hg3)) (aA y4);replace q1:=aC (aC q1 (aA hg3)) (aA y4);replace q2:=aC (aC q2 (aA hg3)) (aA y4);replace q3:=aC (aC q3 (aA hg3)) (aA y4)
 have hmm:∀w:World,(Instr.makeMap 45 none).run Tryz.prog w=.ok (.map (some w.heap.size)) (w.alloc (.map #[] 0)):=fun w=>rfl
 clear H2 hg3 y2 y3 y4;go_upto_region 4 with fail;clear hmm;generalize w3.alloc (.map #[] 0)=w4 at *;generalize w3.heap.size=bm at *
 have H4:=qZ m _ w w4 bm 0 _ HM.out B4.out HBB.out N4 (by show 0+(vaL m).length+(prL m).length<=_;have:=HC8.out;omega) (fun v hv=>by have:=gN ((zQ HFO.out).va v hv).1;omega) (fun q hq=>by have:=gN ((zQ HFO.out).pr q hq).1;have:=(oV HFO.out q hq).np;omega)
 change Calls _ _ _ _ (fun e w'=>e=.returned (.bool (okG g0 (vaL m) && okG (stG g0 (vaL m)) (prL m)))/\Dn w4 w' bm (0+(vaL m).length+(prL m).length) (g1 m) (okG g0 (vaL m) && okG (stG g0 (vaL m)) (prL m))) at H4
 simp only[agg,List.toArray]at H4
 have HN4:Hid (NT w4 bm 0 (fun _=>(0,[]))):=N4
 clear N4
 cases hd:(okG g0 (vaL m) && okG (stG g0 (vaL m)) (prL m))
 .
  rw[hd]at H4
  have HR:Hid (iP m fs=2):=by show _=_;rw[HTC2.out];unfold xH;rw[hd];rfl
  clear hd HTC2;go_wp2_with fail;refine H4.mono ?_;rintro e w5 ⟨rfl,hdn⟩
  have G5:Hid (w.grownBy w5 none):=aW (cX B4.out hdn.grown HBB.out) none
  clear H4 hdn q0 q1 q2 q3;go_wp2;go_ret;exact⟨gD HR.out.symm,G5.out⟩
 rw[hd]at H4
 have HTC3:Hid (iP m fs=if m.procs.all (oW (g1 m))=false then 2 else if mE m fs=false then 3 else gH (eN m.uses (g1 m) fs) 0 m.procs):=by show _=_;rw[HTC2.out];unfold xH;rw[hd,Bool.true_and]
 clear hd HTC2
 cases ho:m.procs.all (oW (g1 m))
 .
  have HR:Hid (iP m fs=2):=by show _=_;rw[HTC3.out,if_pos ho]
  have HO:Hid (m.procs.all (oW (g1 m))=false):=ho
  clear ho HTC3;go_wp2_with fail;refine H4.mono ?_;rintro e w5 ⟨rfl,hdn⟩
  have H5:=aJ7 m.procs ap np cp w w5 bm _ (g1 m) HP.out HNP.out (cX B4.out hdn.grown HBB.out) HBB.out (hdn.yes rfl) (by have:=HC8.out;omega) (tH m) (oV HFO.out)
  rw[HO.out]at H5
  have B5:Hid (Below w.heap.size w w5):=cX B4.out hdn.grown HBB.out
  replace q3:=HN4.out.cell q3 hdn.grown;clear H4 hdn q0 q1 q2;go_wp2_with fail;refine H5.mono ?_;rintro e w6 ⟨rfl,hdn⟩
  have G6:Hid (w.grownBy w6 none):=aW (cX B5.out hdn.grown HBB.out) none
  clear H5 hdn q3;go_wp2;go_ret;exact⟨gD HR.out.symm,G6.out⟩
 have HTC4:Hid (iP m fs=if mE m fs=false then 3 else gH (eN m.uses (g1 m) fs) 0 m.procs):=by show _=_;rw[HTC3.out,if_neg (by rw[ho];decide)]
 have HO:Hid (m.procs.all (oW (g1 m))=true):=ho
 clear ho HTC3;go_wp2_with fail;refine H4.mono ?_;rintro e w5 ⟨rfl,hdn⟩
 have N5:Hid (NT w5 bm (0+(vaL m).length+(prL m).length) (g1 m)):=hdn.yes rfl
 have H5:=aJ7 m.procs ap np cp w w5 bm _ (g1 m) HP.out HNP.out (cX B4.out hdn.grown HBB.out) HBB.out N5.out (by have:=HC8.out;omega) (tH m) (oV HFO.out)
 rw[HO.out]at H5
 have B5:Hid (Below w.heap.size w w5):=cX B4.out hdn.grown HBB.out
 replace q0:=HN4.out.cell q0 hdn.grown;replace q1:=HN4.out.cell q1 hdn.grown;replace q2:=HN4.out.cell q2 hdn.grown;replace q3:=HN4.out.cell q3 hdn.grown;clear H4 hdn HN4 B4;go_wp2_with fail;refine H5.mono ?_;rintro e w6 ⟨rfl,hdn⟩
 have N6:Hid (NT w6 bm (0+(vaL m).length+(prL m).length+12*np) (g1 m)):=hdn.yes rfl
 have B6:Hid (Below w.heap.size w w6):=cX B5.out hdn.grown HBB.out
 replace q0:=N5.out.cell q0 hdn.grown;replace q1:=N5.out.cell q1 hdn.grown;replace q2:=N5.out.cell q2 hdn.grown;replace q3:=N5.out.cell q3 hdn.grown;have H6:=aP8 m fs _ w w6 b nf d HM.out HF.out HFL.out B6.out;simp only[agg,List.toArray]at H6;clear H5 hdn N5 B5
 cases hus:mE m fs
 .
  rw[hus]at H6
  have HR:Hid (iP m fs=3):=by show _=_;rw[HTC4.out,if_pos hus]
  clear hus HTC4;go_wp2_with fail;refine H6.mono ?_;rintro e w7 ⟨rfl,hg7⟩
  have G7:Hid (w.grownBy w7 none):=aD (aW B6.out none) hg7
  clear H6 hg7 q0 q1 q2 q3;go_wp2;go_ret;exact⟨gD HR.out.symm,G7.out⟩
 rw[hus]at H6
 have HR:Hid (iP m fs=gH (eN m.uses (g1 m) fs) 0 m.procs):=by show _=_;rw[HTC4.out,if_neg (by rw[hus];decide)]
 clear hus HTC4;go_wp2_with fail;refine H6.mono ?_;rintro e w7 ⟨rfl,hg7⟩
 have N7:Hid (NT w7 bm (0+(vaL m).length+(prL m).length+12*np) (g1 m)):=N6.out.grown hg7
 have B7:Hid (Below w.heap.size w w7):=B6.out.trans ((aA hg7).mono B6.out.size)
 replace q1:=aC q1 (aA hg7);replace q3:=aC q3 (aA hg7)
 have H7:=vV m.uses au nu cu fs b nf d w w7 bm _ (g1 m) HU.out HNU.out HF.out HFL.out B7.out HBB.out N7.out (by have:=HC8.out;have:=HF8.out;omega) HFA
 clear H6 hg7 q0 q2 N6 B6;go_wp2_with fail;refine H7.mono ?_;rintro e w8 ⟨rfl,hN8,hg8⟩
 have B8:Hid (Below w.heap.size w w8):=cX B7.out hg8 HBB.out
 replace q3:=N7.out.cell q3 hg8
 have H8:=aK1 m.procs ap np cp w w8 bm _ _ HP.out HNP.out B8.out HBB.out hN8 (by have:=HC8.out;have:=HF8.out;omega) (aDj m.uses m fs) (oV HFO.out) (fun q hq=>by rw[aEy m.uses (zQ HFO.out) HFN'.out hq];exact zF3.1 HO.out q hq) (fun q hq=>sB _ ((eQ HFO.out).2.2.2 q hq).2) HEX.out HSX.out
 clear H7 hN8 hg8 q1 N7 B7;go_wp2_with fail;refine H8.mono ?_;rintro e w9 ⟨rfl,hb9⟩
 have G9:Hid (w.grownBy w9 none):=aW hb9 none
 clear H8 hb9 q3;go_wp2;go_ret;exact⟨gD HR.out.symm,G9.out⟩
end Go.Proofs.YtffphdacgblaoaaGreatDoor

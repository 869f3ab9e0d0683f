import Derived.Test.YtegkhlkjfeafjaaGreatDoorPackO
import Derived.Test.YtegkhlkjfeafjaaGreatDoorPackR
namespace Go.Proofs.YtegkhlkjfeafjaaGreatDoor
open Go.RowKit
set_option linter.unusedVariables false
set_option linter.unusedSimpArgs false
set_option maxRecDepth 100000
theorem U174{p:Prop}(h:p:=by
 obtain⟨f,hf,hu,r,hr,rfl⟩:=eI.1 hp
 have V:∀g,stG g (lG m.uses fs) t=(3,r.kinds):=fun g=>kW ⟨_,hp,e⟩ fun p' Bs e'=>by
  obtain⟨f',hf',hu',r',hr',rfl⟩:=eI.1 Bs
  obtain⟨e1,e2⟩:=mD (hF.nm f hf) (hF.nm f' hf') (e.trans e'.symm)
  have:=fN hF.nd hf hf' e1
  subst this
  have:=fN (hF.pn f hf) hr hr' e2
  subst this
  rfl
 rw[V,V]):p:=h
theorem U156{p:Prop}(h:p:=by
 split at hnm
 .
  have:=fS hnm;omega
 .
  have:name.length=0:=by simpa using hnm
  omega):p:=h
def T (x:Int):Prop:=x=0\/x=2\/x=4
theorem oA {a b:Int}(ha:T a)(hb:T b):T (dE a b):=by
 rcases ha with rfl|rfl|rfl <;> rcases hb with rfl|rfl|rfl <;> simp[dE,T]
theorem kS {a b c:Int}(ha:T a)(hb:T b)(hc:T c):dE (dE a b) c=dE a (dE b c):=by
 rcases ha with rfl|rfl|rfl <;> rcases hb with rfl|rfl|rfl <;> rcases hc with rfl|rfl|rfl <;> decide
theorem qF {b:Int}(hb:T b):dE 0 b=b:=by rcases hb with rfl|rfl|rfl <;> decide
theorem aAn {b:Int}(hb:T b):dE b 0=b:=by rcases hb with rfl|rfl|rfl <;> decide
theorem qE {b:Int}:dE 2 b=2:=by simp[dE]
theorem T0:T 0:=.inl rfl
theorem T2:T 2:=.inr (.inl rfl)
theorem T4:T 4:=.inr (.inr rfl)
theorem aG4 (g:List Int->Mn)(ms:List Me):T (kV g ms):=by unfold kV;split;exact T4;exact T0
theorem eK (g:List Int->Mn)(ms:List Me):T (dV g ms):=by unfold dV;split;exact T2;exact aG4 g ms
theorem oE (g:List Int->Mn):dV g []=0:=rfl
theorem fH (g:List Int->Mn)(a b:List Me):dV g (a++b)=dE (dV g a) (dV g b):=by
 unfold dV kV;rw[List.any_append,List.any_append]
 cases (a.any fun m=>decide ((g m.name).1 ≠ m.sort)) <;> cases (b.any fun m=>decide ((g m.name).1 ≠ m.sort)) <;> cases a.any (rQ g) <;> cases b.any (rQ g) <;> simp[dE]
theorem jG (g:List Int->Mn)(m:Me):dV g [m]=if (g m.name).1=m.sort then (if rQ g m=true then 4 else 0) else 2:=by
 unfold dV kV
 by_cases h:(g m.name).1=m.sort <;> simp[h]
structure tN (m:Mo) (fs:List Fa) (p:Pr) (G:List Int->Mn):Prop where
 one:∀x,aK x false=true->((G x).1=1 ↔ sgl m p x=true)
 arr:∀x,aK x false=true->((G x).1=2 ↔ arq m p x=true)
 flat:∀x,(G x).1=1\/(G x).1=2->(G x).2=[]
 proc:∀mod x,(mod=[]\/aK mod true=true)->aK x false=true->fO m fs mod x=if (G (eU mod x)).1=3 then some (G (eU mod x)).2 else none
 bits:∀x,∀k ∈ (G x).2,k=0\/k=1
theorem lU {g:List Int->Mn}{x:List Int}{s:Int}(h:(g x).2=[]):rQ g ⟨x,s,[]⟩=false:=by
 unfold rQ
 simp[h]
theorem aIi:Ex.kind=Ex.kd:=by
 funext e
 cases e
 rfl
theorem aB3 {g:List Int->Mn}{x:List Int}{s:Int}{kids:List Ex}(h:∀k ∈ (g x).2,k=0\/k=1):rQ g ⟨x,s,kids⟩=aEo (g x).2 kids:=by
 unfold rQ aEo;rw[aIi]
 simp only
 by_cases hl:(g x).2.length=kids.length
 .
  rw[zC2 (by omega:¬kids.length ≠ (g x).2.length),zC2 (by omega:¬(g x).2.length ≠ kids.length),hl,Nat.min_self,Bool.false_or,Bool.false_or]
  unfold jR;rw[Bool.eq_iff_iff,List.any_eq_true,List.any_eq_true]
  refine exists_congr fun i=>and_congr_right fun hi=>?_
  have hi:i<(g x).2.length:=by rw[hl];simpa using hi
  rw[zA0 hi]
  rcases h _ (List.getElem_mem hi) with e|e <;> rw[e] <;> by_cases h7:(kids[i]?.map Ex.kd).getD 0=7 <;> simp[h7]
 .
  rw[zB3 (by omega:kids.length ≠ (g x).2.length),zB3 (by omega:(g x).2.length ≠ kids.length),Bool.true_or,Bool.true_or]
def hdM:Ex->List Me
 | .mk k n mod name kids=>if pH k.toNat=0 then [] else [⟨eU mod name,pH k.toNat,if k=6 then kids else []⟩]
theorem aIc (k n:Int)(mod name:List Int)(kids:List Ex):wF (.mk k n mod name kids)=hdM (.mk k n mod name kids)++dC kids:=by rw[wF];rfl
theorem aIq {m:Mo}{fs:List Fa}{p:Pr}{G:List Int->Mn}(A:tN m fs p G){k n:Int}{mod name:List Int}{kids:List Ex}(h:gE k n mod name kids.length=true):
  hdC m fs p (.mk k n mod name kids)=if dV G (hdM (.mk k n mod name kids))=2 then none else some (dV G (hdM (.mk k n mod name kids))):=by
 unfold gE at h;simp only[zC0,Bool.or_eq_true,zE3]at h;obtain⟨⟨hk,_,hnm⟩,hmod⟩:=h;simp only[inB,zC0,zE3]at hk
 have hm0:k ≠ 6->mod=[]:=fun hne=>by
  rcases hmod with h|⟨h,_⟩
  .
   exact List.length_eq_zero_iff.1 h
  .
   exact absurd h hne
 obtain⟨kn,rfl⟩:∃kn:Nat,k=kn:=⟨k.toNat,by omega⟩
 have hk8:kn<8:=V6
 have hx:dK kn=true->aK name false=true:=fun e=>by rw[if_pos e]at hnm;exact hnm
 by_cases h6:kn=6
 .
  subst h6;have hx:=hx rfl
  have hP:=A.proc mod name (by rcases hmod with h|⟨_,h⟩;exact .inl (List.length_eq_zero_iff.1 h);exact .inr h) hx
  rw[show hdM (.mk ((6:Nat):Int) n mod name kids)=[⟨eU mod name,3,kids⟩] from rfl,show hdC m fs p (.mk ((6:Nat):Int) n mod name kids)=(fO m fs mod name).map fun ks=>if aEo ks kids=true then 4 else 0 from rfl,jG,hP]
  simp only
  by_cases h3:(G (eU mod name)).1=3
  .
   rw[if_pos h3,if_pos h3,aB3 (A.bits _)]
   cases hm:aEo (G (eU mod name)).2 kids <;> simp[hm]
  .
   rw[if_neg h3,if_neg h3];simp
 .
  have hm0:=hm0 V6;subst hm0;have F1:=lU (g:=G) (x:=name) (s:=1);have F2:=lU (g:=G) (x:=name) (s:=2)
  have N:∀(k:Int),dV G []=0:=fun _=>rfl
  have O1:aK name false=true->(if sgl m p name=true then some 0 else none)=if dV G [⟨name,1,[]⟩]=2 then none else some (dV G [⟨name,1,[]⟩]):=fun hx=>by
   have hs:=A.one name hx;rw[jG]
   by_cases h1:(G name).1=1
   .
    rw[if_pos (hs.1 h1),if_pos h1,F1 (A.flat _ (.inl h1))];simp
   .
    rw[if_neg (fun e=>h1 (hs.2 e)),if_neg h1];simp
  have O2:aK name false=true->(if arq m p name=true then some 0 else none)=if dV G [⟨name,2,[]⟩]=2 then none else some (dV G [⟨name,2,[]⟩]):=fun hx=>by
   have hs:=A.arr name hx;rw[jG]
   by_cases h1:(G name).1=2
   .
    rw[if_pos (hs.1 h1),if_pos h1,F2 (A.flat _ (.inr h1))];simp
   .
    rw[if_neg (fun e=>h1 (hs.2 e)),if_neg h1];simp
  rcases (by omega:kn=0\/kn=1\/kn=2\/kn=3\/kn=4\/kn=5\/kn=7) with rfl|rfl|rfl|rfl|rfl|rfl|rfl
  .
   rfl
  .
   exact O1 (hx rfl)
  .
   exact O2 (hx rfl)
  .
   rfl
  .
   rfl
  .
   exact O2 (hx rfl)
  .
   exact O2 (hx rfl)
mutual
theorem aFa {m:Mo}{fs:List Fa}{p:Pr}{G:List Int->Mn}(A:tN m fs p G):∀e,nQ e=true->exC m fs p e=dV G (wF e)
 | .mk k n mod name kids,h=>by
  unfold nQ at h;simp only[zC0]at h;have hh:=aIq A h.1.1;rw[aIc,fH];have hT:=eK G (hdM (.mk k n mod name kids));generalize dV G (hdM (.mk k n mod name kids))=t at hh hT ⊢
  by_cases h2:t=2
  .
   rw[if_pos h2]at hh;rw[kI hh,h2,qE]
  .
   rw[if_neg h2]at hh;rw[iX hh,oU A kids h.2 t hT]
theorem oU {m:Mo}{fs:List Fa}{p:Pr}{G:List Int->Mn}(A:tN m fs p G):∀l,dR l=true->∀c,T c->jC m fs p c l=dE c (dV G (dC l))
 | [],_,c,hc=>by
  rw[jC,dC,oE,aAn hc]
 | e :: l,h,c,hc=>by
  unfold dR at h;rw[zC0]at h;rw[jC,dC,fH,aFa A e h.1,oU A l h.2 _ (oA hc (eK _ _)),kS hc (eK _ _) (eK _ _)]
end
def hdS (k:Int)(name:List Int):List Me:=if pC k.toNat=0 then [] else [⟨name,pC k.toNat,[]⟩]
theorem aE2 {m:Mo}{fs:List Fa}{p:Pr}{G:List Int->Mn}(A:tN m fs p G){k n:Int}{name:List Int}{ks:List Ex}{nb ne:Nat}(h:mI k n name ks nb ne=true):
  ((((decide (k=0) && !sgl m p name) || (decide (k=1) && !arq m p name))=true) ↔ dV G (hdS k name)=2)/\(dV G (hdS k name) ≠ 2->dV G (hdS k name)=0):=by
 unfold mI at h;simp only[zC0,Bool.or_eq_true,zE3]at h;obtain⟨⟨⟨⟨⟨hk,_,hnm⟩,_⟩,_⟩,_⟩,_⟩:=h;simp only[inB,zC0,zE3]at hk
 obtain⟨kn,rfl⟩:∃kn:Nat,k=kn:=⟨k.toNat,by omega⟩
 have hk8:kn<8:=V6
 have hx:dH kn=true->aK name false=true:=fun e=>by rw[if_pos e]at hnm;exact hnm
 have F1:=lU (g:=G) (x:=name) (s:=1);have F2:=lU (g:=G) (x:=name) (s:=2);unfold hdS;simp only[Int.toNat_natCast]
 by_cases h0:kn=0
 .
  subst h0;have hs:=A.one name (hx rfl)
  rw[show pC 0=1 from rfl,if_neg V7,jG]
  by_cases h1:(G name).1=1
  .
   have:=hs.1 h1
   simp[h1,this,F1 (A.flat _ (.inl h1))]
  .
   have:sgl m p name=false:=by cases e:sgl m p name;rfl;exact absurd (hs.2 e) h1
   simp[h1,this]
 .
  by_cases h1:kn=1
  .
   subst h1;have hs:=A.arr name (hx rfl)
   rw[show pC 1=2 from rfl,if_neg V7,jG]
   by_cases h1:(G name).1=2
   .
    have:=hs.1 h1
    simp[h1,this,F2 (A.flat _ (.inr h1))]
   .
    have:arq m p name=false:=by cases e:arq m p name;rfl;exact absurd (hs.2 e) h1
    simp[h1,this]
  .
   have:pC kn=0:=by
    rcases (by omega:kn=2\/kn=3\/kn=4\/kn=5\/kn=6\/kn=7) with rfl|rfl|rfl|rfl|rfl|rfl <;> rfl
   rw[if_pos this,oE];have e0:¬((kn:Int)=0):=V6;have e1:¬((kn:Int)=1):=V6;rw[zC2 e0,zC2 e1]
   exact⟨⟨fun h=>(by cases h),fun h=> V6⟩,fun _=>rfl⟩
theorem aIb (k n:Int)(name:List Int)(kids:List Ex)(body els:List St):uL (.mk k n name kids body els)=hdS k name++(dC kids++(cI body++cI els)):=by rw[uL];rfl
mutual
theorem aD9 {m:Mo}{fs:List Fa}{p:Pr}{G:List Int->Mn}(A:tN m fs p G):∀s,sM s=true->∀c,T c->(match stC m fs p c s with|none=>dV G (uL s)=2|some c'=>c'=dE c (dV G (uL s)))
 | .mk k n name kids body els,h,c,hc=>by
  unfold sM at h;simp only[zC0]at h;obtain⟨⟨⟨hl,hks⟩,hb⟩,he⟩:=h;have hh:=aE2 A hl;rw[aIb,fH,fH,fH,pO]
  by_cases h2:dV G (hdS k name)=2
  .
   rw[if_pos (hh.1.2 h2)];rw[h2];exact qE
  .
   rw[if_neg (fun e=>h2 (hh.1.1 e)),hh.2 h2,qF (oA (eK _ _) (oA (eK _ _) (eK _ _)))]
   simp only
   rw[oU A kids hks c hc,mE A body hb 0 T0,mE A els he 0 T0,qF (eK _ _),qF (eK _ _),kS hc (eK _ _) (oA (eK _ _) (eK _ _))]
theorem mE {m:Mo}{fs:List Fa}{p:Pr}{G:List Int->Mn}(A:tN m fs p G):∀l,fC l=true->∀c,T c->fY m fs p c l=dE c (dV G (cI l))
 | [],_,c,hc=>by
  rw[aPb,cI,oE,aAn hc]
 | s :: l,h,c,hc=>by
  unfold fC at h;rw[zC0]at h;have h1:=aD9 A s h.1 c hc;rw[cI,fH]
  cases hs:stC m fs p c s with
  | none=>
   rw[hs]at h1
   simp only at h1
   rw[pA hs,h1,qE]
   rcases hc with rfl|rfl|rfl <;> decide
  | some c'=>
   rw[hs]at h1
   simp only at h1
   have hc':T c':=by rw[h1];exact oA hc (eK _ _)
   rw[mF hs,mE A l h.2 c' hc',h1,kS hc (eK _ _) (eK _ _)]
end
theorem kW:∀{l:List (List Int × Mn)} {g:List Int->Mn} {t:List Int} {v:Mn},(∃p ∈ l,p.1=t)->(∀p ∈ l,p.1=t->p.2=v)->stG g l t=v:=by
 intro l
 induction l with
 | nil=>intro g t v h _;obtain⟨p,hp,_⟩:=h;simp at hp
 | cons q l ih=>
  intro g t v h ha;rw[nM]
  by_cases hl:∃p ∈ l,p.1=t
  .
   exact ih hl (fun p hp=>ha p (List.mem_cons_of_mem _ hp))
  .
   rw[dI (fun p hp e=>hl ⟨p,hp,e⟩)]
   obtain⟨p,hp,e⟩:=h
   rcases zH0.1 hp with rfl|hp
   .
    unfold nC;rw[if_pos e.symm];exact ha p V15 e
   .
    exact absurd ⟨p,hp,e⟩ hl
theorem gI {l:List (List Int × Mn)}{g:List Int->Mn}{t:List Int}(hz:∀p ∈ l,p.2.1 ≠ 0):(stG g l t).1=0 ↔ (∀p ∈ l,p.1 ≠ t)/\(g t).1=0:=by
 induction l generalizing g with
 | nil=>simp[stG]
 | cons q l ih=>
  rw[nM,ih (fun p hp=>hz p (List.mem_cons_of_mem _ hp))]
  unfold nC
  by_cases e:t=q.1
  .
   rw[if_pos e]
   refine⟨fun h=>absurd h.2 (hz q V15),fun h=>absurd e.symm (h.1 q V15)⟩
  .
   rw[if_neg e]
   refine⟨fun h=>⟨fun p hp=>?_,h.2⟩,fun h=>⟨fun p hp=>h.1 p (List.mem_cons_of_mem _ hp),h.2⟩⟩
   rcases zH0.1 hp with rfl|hp
   .
    exact fun e'=>e e'.symm
   .
    exact h.1 p hp
theorem jQ {l:List (List Int × Mn)}{g:List Int->Mn}(hz:∀p ∈ l,p.2.1 ≠ 0):okG g l=true ↔ (l.map Prod.fst).Nodup/\∀p ∈ l,(g p.1).1=0:=by
 induction l generalizing g with
 | nil=>simp[okG]
 | cons q l ih=>
  rw[wB,zC0,ih (fun p hp=>hz p (List.mem_cons_of_mem _ hp)),zI0,List.nodup_cons,zE3]
  constructor
  .
   rintro⟨h1,h2,h3⟩
   have hn:q.1 ∉ l.map Prod.fst:=by
    intro hm;obtain⟨p,hp,e⟩:=zE1.1 hm
    have:=h3 p hp
    unfold nC at this;rw[if_pos e]at this;exact hz q V15 this
   refine⟨⟨hn,h2⟩,fun p hp=>?_⟩
   rcases zH0.1 hp with rfl|hp
   .
    exact h1
   .
    have:=h3 p hp
    unfold nC at this
    rw[if_neg (fun e=>hn (zE1.2 ⟨p,hp,e⟩))]at this
    exact this
  .
   rintro⟨⟨hn,h2⟩,h3⟩
   refine⟨h3 q V15,h2,fun p hp=>?_⟩
   unfold nC
   rw[if_neg (fun e=>hn (zE1.2 ⟨p,hp,e⟩))]
   exact h3 p (List.mem_cons_of_mem _ hp)
theorem nS {l:List (List Int)}:l.Nodup ↔ ∀i x,l[i]?=some x->ix l x=some i:=by
 constructor
 .
  intro h i x hx
  refine iU (fun j y hj hy e=>?_) hx
  subst e;obtain⟨h1,e1⟩:=zC1.1 hx;obtain⟨h2,e2⟩:=zC1.1 hy
  exact(List.pairwise_iff_getElem.1 h) j i h2 h1 hj (by rw[e1,e2])
 .
  intro h
  refine List.pairwise_iff_getElem.2 fun i j hi hj hij e=>?_
  have h1:=h j l[j] (zA0 hj)
  have h2:=h i l[j] (by rw[<-e];exact zA0 hi)
  rw[h1]at h2;cases h2
  omega
theorem cV {α:Type}{f:α->List Int}{l:List α}:(l.map f).Nodup ↔ ∀i y,l[i]?=some y->ix (l.map f) (f y)=some i:=by
 rw[nS]
 constructor
 .
  intro h i y hy
  exact h i (f y) (by rw[zA2,hy];rfl)
 .
  intro h i x hx;rw[zA2]at hx;obtain⟨y,hy,rfl⟩:=zF0.1 hx;exact h i y hy
def NmN (m:Mo):Prop:=((m.vars.map Va.name).Nodup/\∀v ∈ m.vars,v.name ∉ m.procs.map Pr.name)/\(m.procs.map Pr.name).Nodup/\∀q ∈ m.procs,
 ((q.params.map Pa.name).Nodup/\∀a ∈ q.params,a.name ∉ q.locals/\a.name ∉ m.vars.map Va.name/\a.name ∉ m.procs.map Pr.name)/\q.locals.Nodup/\∀x ∈ q.locals,x ∉ m.vars.map Va.name/\x ∉ m.procs.map Pr.name
theorem wD (m:Mo):aGr m ↔ NmN m:=by
 unfold aGr NmN
 constructor
 .
  rintro⟨hv,hp⟩
  refine⟨⟨cV.2 fun i y h=>(hv i y h).1,fun v hm=>?_⟩,cV.2 fun i y h=>(hp i y h).1,fun q hq=>?_⟩
  .
   obtain⟨i,hi⟩:=zI1 hm;exact fP.1 (hv i v hi).2
  .
   obtain⟨i,hi⟩:=zI1 hq;obtain⟨_,h2,h3⟩:=hp i q hi
   refine⟨⟨cV.2 fun i y h=>(h2 i y h).1,fun a ha=>?_⟩,nS.2 fun i y h=>(h3 i y h).1,fun x hx=>?_⟩
   .
    obtain⟨k,hk⟩:=zI1 ha
    have:=h2 k a hk
    exact⟨fP.1 this.2.1,fP.1 this.2.2.1,fP.1 this.2.2.2⟩
   .
    obtain⟨k,hk⟩:=zI1 hx
    have:=h3 k x hk
    exact⟨fP.1 this.2.1,fP.1 this.2.2⟩
 .
  rintro⟨⟨h1,h2⟩,h3,h4⟩
  refine⟨fun i v hv=>⟨cV.1 h1 i v hv,fP.2 (h2 v (zA3 hv))⟩,fun i q hq=>⟨cV.1 h3 i q hq,fun k a ha=>?_,fun k x hx=>?_⟩⟩
  .
   obtain⟨⟨a1,a2⟩,_⟩:=h4 q (zA3 hq)
   have:=a2 a (zA3 ha)
   exact⟨cV.1 a1 k a ha,fP.2 this.1,fP.2 this.2.1,fP.2 this.2.2⟩
  .
   obtain⟨_,a1,a2⟩:=h4 q (zA3 hq)
   have:=a2 x (zA3 hx)
   exact⟨nS.1 a1 k x hx,fP.2 this.1,fP.2 this.2⟩
def vaL (m:Mo):List (List Int × Mn):=m.vars.map fun v=>(v.name,kT v)
def prL (m:Mo):List (List Int × Mn):=m.procs.map fun q=>(q.name,pR q)
def g0:List Int->Mn:=fun _=>(0,[])
def g1 (m:Mo):List Int->Mn:=stG (stG g0 (vaL m)) (prL m)
def qU (m:Mo):Bool:=(okG g0 (vaL m) && okG (stG g0 (vaL m)) (prL m)) && m.procs.all (lD (g1 m))
theorem rU (m:Mo):∀p ∈ vaL m,p.2.1 ≠ 0:=by
 intro p hp;obtain⟨v,_,rfl⟩:=zE1.1 hp;unfold kT
 simp only
 split <;> decide
theorem aBr (m:Mo):∀p ∈ prL m,p.2.1 ≠ 0:=by
 intro p hp;obtain⟨v,_,rfl⟩:=zE1.1 hp;unfold pR
 simp
theorem oJ (q:Pr):∀p ∈ paL q,p.2.1 ≠ 0:=by
 intro p hp;obtain⟨v,_,rfl⟩:=zE1.1 hp;unfold jF
 simp only
 split <;> decide
theorem aB5 (q:Pr):∀p ∈ loL q,p.2.1 ≠ 0:=by
 intro p hp;obtain⟨v,_,rfl⟩:=zE1.1 hp
 simp
theorem wG {α:Type}{l:List α}{f:α->List Int × Mn}{t:List Int}:(∀p ∈ l.map f,p.1 ≠ t) ↔ t ∉ l.map fun a=>(f a).1:=by
 constructor
 .
  intro h hm;obtain⟨a,ha,e⟩:=zE1.1 hm;exact h (f a) (zE1.2 ⟨a,ha,rfl⟩) e
 .
  intro h p hp e;obtain⟨a,ha,rfl⟩:=zE1.1 hp;exact h (zE1.2 ⟨a,ha,e⟩)
theorem vL {m:Mo}{t:List Int}:(∀p ∈ vaL m,p.1 ≠ t) ↔ t ∉ m.vars.map Va.name:=wG
theorem aBs {m:Mo}{t:List Int}:(∀p ∈ prL m,p.1 ≠ t) ↔ t ∉ m.procs.map Pr.name:=wG
theorem aBv {q:Pr}{t:List Int}:(∀p ∈ paL q,p.1 ≠ t) ↔ t ∉ q.params.map Pa.name:=wG
theorem aGd {q:Pr}{t:List Int}:(∀p ∈ loL q,p.1 ≠ t) ↔ t ∉ q.locals:=by
 rw[show loL q=q.locals.map fun y=>(y,((1,[]):Mn)) from rfl,wG]
 simp
theorem rA (m:Mo)(t:List Int):(g1 m t).1=0 ↔ t ∉ m.vars.map Va.name/\t ∉ m.procs.map Pr.name:=by
 unfold g1;rw[gI (aBr m),gI (rU m),vL,aBs]
 simp[g0,and_comm]
theorem aGx (m:Mo):(vaL m).map Prod.fst=m.vars.map Va.name:=by unfold vaL;rw[List.map_map];rfl
theorem aH0 (m:Mo):(prL m).map Prod.fst=m.procs.map Pr.name:=by unfold prL;rw[List.map_map];rfl
theorem aH3 (q:Pr):(paL q).map Prod.fst=q.params.map Pa.name:=by unfold paL;rw[List.map_map];rfl
theorem aId (q:Pr):(loL q).map Prod.fst=q.locals:=by unfold loL;rw[List.map_map];exact List.map_id _
theorem wC (m:Mo)(q:Pr):lD (g1 m) q=true ↔ ((q.params.map Pa.name).Nodup/\∀a ∈ q.params,a.name ∉ q.locals/\a.name ∉ m.vars.map Va.name/\a.name ∉ m.procs.map Pr.name)/\q.locals.Nodup/\∀x ∈ q.locals,x ∉ m.vars.map Va.name/\x ∉ m.procs.map Pr.name:=by
 unfold lD;rw[zC0,jQ (oJ q),jQ (aB5 q),aH3,aId]
 constructor
 .
  rintro⟨⟨h1,h2⟩,h3,h4⟩
  have hl:∀x ∈ q.locals,x ∉ q.params.map Pa.name/\x ∉ m.vars.map Va.name/\x ∉ m.procs.map Pr.name:=fun x hx=>by
   have:=h4 (x,(1,[])) (zE1.2 ⟨x,hx,rfl⟩)
   simp only at this
   rw[gI (oJ q),aBv,rA]at this;exact this
  refine⟨⟨h1,fun a ha=>⟨fun hx=>(hl _ hx).1 (zE1.2 ⟨a,ha,rfl⟩), ?_⟩⟩,h3,fun x hx=>(hl x hx).2⟩
  have:=h2 (a.name,jF a) (zE1.2 ⟨a,ha,rfl⟩)
  exact(rA m _).1 this
 .
  rintro⟨⟨h1,h2⟩,h3,h4⟩
  refine⟨⟨h1,fun p hp=>?_⟩,h3,fun p hp=>?_⟩
  .
   obtain⟨a,ha,rfl⟩:=zE1.1 hp;exact(rA m _).2 (h2 a ha).2
  .
   obtain⟨x,hx,rfl⟩:=zE1.1 hp
   simp only
   rw[gI (oJ q),aBv,rA]
   refine⟨fun hm=>?_,h4 x hx⟩
   obtain⟨a,ha,e⟩:=zE1.1 hm
   exact(h2 a ha).1 (by rw[e];exact hx)
theorem aEm (m:Mo):qU m=nmB m:=by
 have:qU m=true ↔ aGr m:=by
  rw[wD];unfold qU NmN;rw[zC0,zC0,jQ (rU m),jQ (aBr m),aGx,aH0,zF3]
  constructor
  .
   rintro⟨⟨⟨h1,_⟩,h2,h3⟩,h4⟩
   refine⟨⟨h1,fun v hv hm=>?_⟩,h2,fun q hq=>(wC m q).1 (h4 q hq)⟩
   obtain⟨q,hq,e⟩:=zE1.1 hm
   have:=h3 (q.name,pR q) (zE1.2 ⟨q,hq,rfl⟩)
   simp only at this
   rw[gI (rU m),vL]at this;exact this.1 (zE1.2 ⟨v,hv,e.symm⟩)
  .
   rintro⟨⟨h1,h2⟩,h3,h4⟩
   refine⟨⟨⟨h1,fun _ _=>rfl⟩,h3,fun p hp=>?_⟩,fun q hq=>(wC m q).2 (h4 q hq)⟩
   obtain⟨q,hq,rfl⟩:=zE1.1 hp
   simp only
   rw[gI (rU m),vL]
   refine⟨fun hm=>?_,rfl⟩
   obtain⟨v,hv,e⟩:=zE1.1 hm
   exact h2 v hv (by rw[e];exact zE1.2 ⟨q,hq,rfl⟩)
 by_cases h:aGr m
 .
  rw[aGa h];exact this.2 h
 .
  rw[nF h];cases e:qU m;rfl;exact absurd (this.1 e) h
theorem aDv (m:Mo)(fs:List Fa):kU m fs=usB m fs:=by
 have:kU m fs=true ↔ aJk m fs:=by
  unfold kU aJk;rw[zF3]
  constructor
  .
   intro h i u hu;have hi:=(zC1.1 hu).1
   have:=h i V78
   unfold qI at this;rw[hu,zI3]at this;simp only[Bool.not_eq_true',Bool.or_eq_false_iff,zH1,Bool.not_eq_false']at this;obtain⟨⟨h1,h2⟩,h3⟩:=this
   refine⟨h1,fun hn=>?_,fun hm=>?_⟩
   .
    obtain⟨f,hf,e⟩:=List.any_eq_true.1 h3
    exact fP.1 hn (zE1.2 ⟨f,hf,by simpa using e⟩)
   .
    rw[List.any_eq_false]at h2;exact h2 u hm V15
  .
   intro h i hi
   have hi:i<m.uses.length:=by simpa using hi
   have hu:=zA0 hi;obtain⟨h1,h2,h3⟩:=h i _ hu;unfold qI;rw[hu,zI3];simp only[Bool.not_eq_true',Bool.or_eq_false_iff,zH1,Bool.not_eq_false'];refine⟨⟨h1, ?_⟩, ?_⟩
   .
    rw[List.any_eq_false];intro x hx e
    have e:x=m.uses[i]:=by simpa using e
    exact h3 (e ▸ hx)
   .
    have:m.uses[i] ∈ fs.map Fa.name:=by
     by_cases hm:m.uses[i] ∈ fs.map Fa.name
     .
      exact hm
     .
      exact absurd (fP.2 hm) h2
    obtain⟨f,hf,e⟩:=zE1.1 this
    exact List.any_eq_true.2 ⟨f,hf,by simpa using e⟩
 by_cases h:aJk m fs
 .
  rw[aF0 h];exact this.2 h
 .
  rw[aDw h];cases e:kU m fs;rfl;exact absurd (this.1 e) h
theorem qD (l:List (List Int)):gC l=true ↔ l.Nodup:=by
 rw[nS];unfold gC unl;rw[zF3]
 constructor
 .
  intro h i x hx;have hi:=(zC1.1 hx).1
  have:=h i V78
  rw[hx,zI3,Bool.not_eq_true',List.any_eq_false]at this
  refine iU (fun j y hj hy e=>?_) hx
  subst e
  exact this y (by rw[List.mem_take_iff_getElem];obtain⟨hj',e⟩:=zC1.1 hy;exact⟨j,by omega,e⟩) V15
 .
  intro h i hi
  have hi:i<l.length:=by simpa using hi
  rw[zA0 hi,zI3,Bool.not_eq_true',List.any_eq_false];intro x hx e
  have e:x=l[i]:=by simpa using e
  subst e;rw[List.mem_take_iff_getElem]at hx;obtain⟨j,hj,e⟩:=hx;have h1:=h i _ (zA0 hi)
  have h2:=h j l[i] (by rw[zA0 V6];exact congrArg some e)
  rw[h1]at h2;cases h2
  omega
theorem rB (fs:List Fa):jX fs=true ↔ aGs fs:=by
 unfold jX aGs aLh;rw[zC0,zC0,zE3,zF3,qD,cV]
 constructor
 .
  rintro⟨⟨h1,h2⟩,h3⟩
  exact⟨h1,fun i f hf=>⟨h2 f (zA3 hf),h3 i f hf⟩⟩
 .
  rintro⟨h1,h2⟩
  refine⟨⟨h1,fun f hf=>?_⟩,fun i f hf=>(h2 i f hf).2⟩
  obtain⟨i,hi⟩:=zI1 hf;exact(h2 i f hi).1
theorem aCq (fs:List Fa):jX fs=fsB fs:=by
 by_cases h:aGs fs
 .
  rw[aGh h];exact(rB fs).2 h
 .
  rw[aCk h];cases e:jX fs;rfl;exact absurd ((rB fs).1 e) h
theorem fT {x:List Int}{g:Bool}(h:aK x g=true):(46:Int) ∉ x:=by
 intro hm;obtain⟨j,hj,e⟩:=List.getElem_of_mem hm;unfold aK at h;rw[zC0,zF3]at h
 have:=h.2 j V85
 unfold oO at this
 split at this
 .
  rename_i h0
  subst h0;rw[zA0 hj,zI3,e]at this
  cases g <;> simp[upB,tO]at this
 .
  rw[zA0 hj,zI3,e]at this
  simp[tO,aFk]at this
theorem lS {x:List Int}{g:Bool}(h:aK x g=true):x ≠ []:=by
 rintro rfl
 simp[aK]at h
theorem aA5:∀{a b x y:List Int},(46:Int) ∉ a->(46:Int) ∉ b->a++[46]++x=b++[46]++y->a=b/\x=y:=by
 intro a
 induction a with
 | nil=>
  intro b x y _ hb h
  cases b with
  | nil=>exact⟨rfl,by simpa using h⟩
  | cons z b=>simp at h;exact absurd (by rw[h.1];simp) hb
 | cons u a ih=>
  intro b x y ha hb h
  cases b with
  | nil=>simp at h;exact absurd (by rw[<-h.1];simp) ha
  | cons z b=>
   simp only[List.cons_append,zK2]at h
   obtain⟨e1,e2⟩:=ih (fun hm=>ha (List.mem_cons_of_mem _ hm)) (fun hm=>hb (List.mem_cons_of_mem _ hm)) h.2
   exact⟨by rw[h.1,e1],e2⟩
theorem mD {a b x y:List Int}(ha:aK a true=true)(hb:aK b true=true)(h:eU a x=eU b y):a=b/\x=y:=by
 unfold eU at h;rw[if_neg (lS ha),if_neg (lS hb)]at h;exact aA5 (fT ha) (fT hb) h
theorem tK {a x:List Int}(ha:aK a true=true):(46:Int) ∈ eU a x:=by
 unfold eU;rw[if_neg (lS ha)]
 simp
theorem yR (g:List Int->Mn)(a b:List (List Int × Mn)):stG g (a++b)=stG (stG g a) b:=by unfold stG;rw[List.foldl_append]
theorem qL {l:List (List Int × Mn)}{g:List Int->Mn}{t:List Int}:stG g l t=g t\/∃p ∈ l,p.1=t/\stG g l t=p.2:=by
 induction l generalizing g with
 | nil=>exact .inl rfl
 | cons q l ih=>
  rw[nM]
  rcases ih (g:=nC g q.1 q.2) with h|⟨p,hp,e,h⟩
  .
   rw[h];unfold nC
   by_cases e:t=q.1
   .
    rw[if_pos e];exact .inr ⟨q,by simp,e.symm,rfl⟩
   .
    rw[if_neg e];exact .inl rfl
  .
   exact .inr ⟨p,List.mem_cons_of_mem _ hp,e,h⟩
def lG (us:List (List Int))(fs:List Fa):List (List Int × Mn):=(fs.filter fun f=>us.any fun y=>decide (y=f.name)).flatMap fpL
theorem qH (us:List (List Int))(g:List Int->Mn)(fs:List Fa):eJ us g fs=stG g (lG us fs):=by
 induction fs generalizing g with
 | nil=>rfl
 | cons f fs ih=>
  have e:eJ us g (f :: fs)=eJ us (aGy us g f) fs:=rfl
  rw[e,ih];unfold aGy lG
  cases h:us.any fun y=>decide (y=f.name)
  .
   rw[List.filter_cons_of_neg (by rw[h];simp)];rfl
  .
   rw[List.filter_cons_of_pos (by rw[h]),List.flatMap_cons,yR];rfl
theorem eI {us:List (List Int)}{fs:List Fa}{p:List Int × Mn}:p ∈ lG us fs ↔ ∃f ∈ fs,f.name ∈ us/\∃r ∈ f.procs,p=(eU f.name r.name,(3,r.kinds)):=by
 unfold lG fpL;simp only[List.mem_flatMap,List.mem_filter,zE1,List.any_eq_true,zE3]
 constructor
 .
  rintro⟨f,⟨hf,y,hy,rfl⟩,r,hr,rfl⟩;exact⟨f,hf,hy,r,hr,rfl⟩
 .
  rintro⟨f,hf,hu,r,hr,rfl⟩;exact⟨f,⟨hf,f.name,hu,rfl⟩,r,hr,rfl⟩
theorem fN {α:Type}{f:α->List Int}{l:List α}(h:(l.map f).Nodup){a b:α}(ha:a ∈ l)(hb:b ∈ l)(e:f a=f b):a=b:=by
 obtain⟨i,hi⟩:=zI1 ha;obtain⟨j,hj⟩:=zI1 hb;have h1:=cV.1 h i a hi;have h2:=cV.1 h j b hj;rw[<-e,h1]at h2;cases h2;rw[hi]at hj;exact Option.some.inj hj
theorem aB7 {α:Type}{f:α->List Int}{l:List α}(h:(l.map f).Nodup){a:α}(ha:a ∈ l):∃i,ix (l.map f) (f a)=some i/\l[i]?=some a:=by
 obtain⟨i,hi⟩:=zI1 ha;exact⟨i,cV.1 h i a hi,hi⟩
structure MoN (m:Mo):Prop where
 va:∀v ∈ m.vars,aK v.name false=true/\0<=v.size
 pr:∀q ∈ m.procs,aK q.name false=true/\(∀a ∈ q.params,aK a.name false=true)/\∀x ∈ q.locals,aK x false=true
structure FaN (fs:List Fa):Prop where
 nd:(fs.map Fa.name).Nodup
 nm:∀f ∈ fs,aK f.name true=true
 pn:∀f ∈ fs,(f.procs.map Fp.name).Nodup
 kd:∀f ∈ fs,∀r ∈ f.procs,∀k ∈ r.kinds,k=0\/k=1
theorem aGi {fs:List Fa}(h:aGs fs):FaN fs:=by
 have H:∀f ∈ fs,lA f=true:=fun f hf=>by obtain⟨i,hi⟩:=zI1 hf;exact(h.2 i f hi).1
 have H':∀f ∈ fs,((aK f.name true=true/\f.procs.length<=8)/\f.procs.all nT=true)/\gC (f.procs.map Fp.name)=true:=fun f hf=>by
  have:=H f hf
  unfold lA at this
  simpa only [zC0,zE3] using this
 refine⟨cV.2 fun i f hf=>(h.2 i f hf).2,fun f hf=>(H' f hf).1.1.1,fun f hf=>(qD _).1 (H' f hf).2,fun f hf r hr k hk=>?_⟩
 have:=zF3.1 (H' f hf).1.2 r hr
 unfold nT at this;rw[zC0]at this
 have:=zF3.1 this.2 k hk
 simp only[sT,zC0,zE3]at this
 omega
section
variable {m:Mo} {fs:List Fa} {q:Pr}
theorem aEj (h:(q.params.map Pa.name).Nodup){a:Pa}(ha:a ∈ q.params):oK q a.name=some a.arr:=by
 obtain⟨i,h1,h2⟩:=aB7 h ha;exact mK h1 h2
theorem nP {x:List Int}(h:x ∉ q.params.map Pa.name):oK q x=none:=by unfold oK;rw[fP.2 h];rfl
theorem aAo (h:(m.vars.map Va.name).Nodup){v:Va}(hv:v ∈ m.vars):jA m v.name=some v.size:=by
 obtain⟨i,h1,h2⟩:=aB7 h hv;unfold jA;rw[h1,Option.bind_some,h2]
 rfl
theorem lE {x:List Int}(h:x ∉ m.vars.map Va.name):jA m x=none:=by unfold jA;rw[fP.2 h];rfl
theorem aH4 (h:(m.procs.map Pr.name).Nodup){r:Pr}(hr:r ∈ m.procs):aDp m r.name=some (aN1 r.params):=by
 obtain⟨i,h1,h2⟩:=aB7 h hr;unfold aDp;rw[h1,Option.bind_some,h2]
 rfl
theorem qS {x:List Int}(h:x ∉ m.procs.map Pr.name):aDp m x=none:=by unfold aDp;rw[fP.2 h];rfl
theorem aE7 (h:FaN fs){f:Fa}(hf:f ∈ fs):nG fs f.name=some f:=by
 obtain⟨i,h1,h2⟩:=aB7 h.nd hf;unfold nG;rw[h1,Option.bind_some,h2]
theorem aCr {x:List Int}{f:Fa}(h:nG fs x=some f):f ∈ fs/\f.name=x:=by
 unfold nG at h
 cases hi:ix (fs.map Fa.name) x with
 | none=>rw[hi]at h;cases h
 | some i=>
  rw[hi,Option.bind_some]at h;obtain⟨y,hy,e⟩:=lW hi;rw[h]at hy;cases hy;exact⟨zA3 h,e⟩
theorem aEh {f:Fa}(h:(f.procs.map Fp.name).Nodup){r:Fp}(hr:r ∈ f.procs):nE f r.name=some r.kinds:=by
 obtain⟨i,h1,h2⟩:=aB7 h hr;unfold nE;rw[h1,Option.bind_some,h2]
 rfl
theorem aBl {f:Fa}{x:List Int}{ks:List Int}(h:nE f x=some ks):∃r ∈ f.procs,r.name=x:=by
 unfold nE at h
 cases hi:ix (f.procs.map Fp.name) x with
 | none=>rw[hi]at h;cases h
 | some i=>
  obtain⟨y,hy,e⟩:=lW hi;exact⟨y,zA3 hy,e⟩
theorem tC {g:List Int->Mn}{x:List Int}(h1:x ∉ q.params.map Pa.name)(h2:x ∉ q.locals):enG g q x=g x:=by
 unfold enG;rw[dI (aGd.2 h2),dI (aBv.2 h1)]
theorem aC9 {g:List Int->Mn}{x:List Int}(h2:x ∈ q.locals):enG g q x=(1,[]):=by
 unfold enG
 refine kW ⟨(x,(1,[])),zE1.2 ⟨x,h2,rfl⟩,rfl⟩ (fun p hp _=>?_)
 obtain⟨y,_,rfl⟩:=zE1.1 hp
 rfl
theorem aC8 {g:List Int->Mn}{a:Pa}(h:(q.params.map Pa.name).Nodup)(h1:a ∈ q.params)(h2:a.name ∉ q.locals):enG g q a.name=jF a:=by
 unfold enG;rw[dI (aGd.2 h2)]
 refine kW ⟨(a.name,jF a),zE1.2 ⟨a,h1,rfl⟩,rfl⟩ (fun p hp e=>?_)
 obtain⟨b,hb,rfl⟩:=zE1.1 hp;rw[fN h hb h1 e]
theorem rV {us:List (List Int)}{g:List Int->Mn}{x:List Int}(hF:FaN fs)(h:(46:Int) ∉ x):eJ us g fs x=g x:=by
 rw[qH,dI];intro p hp e;obtain⟨f,hf,_,r,_,rfl⟩:=eI.1 hp
 exact h (by rw[<-e];exact tK (hF.nm f hf))
theorem aIr (hN:NmN m){r:Pr}(hr:r ∈ m.procs):g1 m r.name=pR r:=by
 unfold g1
 refine kW ⟨(r.name,pR r),zE1.2 ⟨r,hr,rfl⟩,rfl⟩ (fun p hp e=>?_)
 obtain⟨b,hb,rfl⟩:=zE1.1 hp;rw[fN hN.2.1 hb hr e]
theorem aK3 (hN:NmN m){v:Va}(hv:v ∈ m.vars):g1 m v.name=kT v:=by
 unfold g1;rw[dI (aBs.2 (hN.1.2 v hv))]
 refine kW ⟨(v.name,kT v),zE1.2 ⟨v,hv,rfl⟩,rfl⟩ (fun p hp e=>?_)
 obtain⟨b,hb,rfl⟩:=zE1.1 hp;rw[fN hN.1.1 hb hv e]
theorem aK4 {x:List Int}(h1:x ∉ m.vars.map Va.name)(h2:x ∉ m.procs.map Pr.name):g1 m x=(0,[]):=by
 unfold g1;rw[dI (aBs.2 h2),dI (vL.2 h1)]
 rfl
theorem uO (ps:List Pa):∀k ∈ aN1 ps,k=0\/k=1:=by
 intro k hk;unfold aN1 at hk;obtain⟨a,_,rfl⟩:=zE1.1 hk;unfold tI
 split <;> simp
theorem uF (hN:NmN m)(hM:MoN m)(hF:FaN fs)(hq:q ∈ m.procs){us:List (List Int)}{x:List Int}(hx:(46:Int) ∉ x)(G:List Int->Mn)(hG:G=enG (eJ us (g1 m) fs) q):
  ((G x).1=1 ↔ sgl m q x=true)/\((G x).1=2 ↔ arq m q x=true)/\((G x).1=1\/(G x).1=2->(G x).2=[])/\aDp m x=(if (G x).1=3 then some (G x).2 else none)/\∀k ∈ (G x).2,k=0\/k=1:=by
 subst hG;obtain⟨⟨n1,n2⟩,n3,n4⟩:=hN.2.2 q hq
 by_cases hl:x ∈ q.locals
 .
  obtain⟨v1,v2⟩:=n4 x hl
  have hp:x ∉ q.params.map Pa.name:=fun hm=>by
   obtain⟨a,ha,e⟩:=zE1.1 hm
   exact(n2 a ha).1 (by rw[e];exact hl)
  rw[aC9 hl];unfold sgl arq;rw[nP hp,lE v1,qS v2]
  simp[hl]
 by_cases hp:x ∈ q.params.map Pa.name
 .
  obtain⟨a,ha,rfl⟩:=zE1.1 hp;obtain⟨_,v1,v2⟩:=n2 a ha;rw[aC8 n1 ha hl];unfold sgl arq jF;rw[aEj n1 ha,lE v1,qS v2]
  cases a.arr <;> simp
 rw[tC hp hl,rV hF hx]
 by_cases hr:x ∈ m.procs.map Pr.name
 .
  obtain⟨r,hr',rfl⟩:=zE1.1 hr;clear hr;have hr:=hr'
  have hv:r.name ∉ m.vars.map Va.name:=fun hm=>by
   obtain⟨v,hv,e⟩:=zE1.1 hm
   exact hN.1.2 v hv (by rw[e];exact zE1.2 ⟨r,hr,rfl⟩)
  have hb:=uO r.params;rw[aIr hN hr];unfold sgl arq pR;rw[nP hp,lE hv,aH4 hN.2.1 hr]
  simp[hl]
  exact hb
 by_cases hv:x ∈ m.vars.map Va.name
 .
  obtain⟨v,hv',rfl⟩:=zE1.1 hv;clear hv;have hv:=hv';have hs:=(hM.va v hv).2;rw[aK3 hN hv];unfold sgl arq kT;rw[nP hp,aAo hN.1.1 hv,qS hr]
  by_cases h0:v.size=0
  .
   simp[h0,hl]
  .
   have:0<v.size:=V6
   simp[h0,hl,this]
 rw[aK4 hv hr];unfold sgl arq;rw[nP hp,lE hv,qS hr]
 simp[hl]
theorem aMn (hN:NmN m)(hM:MoN m)(hF:FaN fs)(hq:q ∈ m.procs):tN m fs q (enG (eJ m.uses (g1 m) fs) q):=by
 obtain⟨G,hG⟩:∃G,G=enG (eJ m.uses (g1 m) fs) q:=⟨_,rfl⟩
 rw[<-hG]
 have P:=fun x (hx:(46:Int) ∉ x)=>uF (us:=m.uses) hN hM hF hq hx G hG
 have D:∀t,(46:Int) ∈ t->G t=stG g0 (lG m.uses fs) t:=fun t ht=>by
  have no:∀y g,aK y g=true->t ≠ y:=fun y g h e=>fT h (by rw[<-e];exact ht)
  have nL:∀{α:Type} (l:List α) (f:α->List Int),(∀a ∈ l,aK (f a) false=true)->t ∉ l.map f:=fun l f h hm=>by
   obtain⟨a,ha,e⟩:=zE1.1 hm;exact no _ _ (h a ha) e.symm
  have hq':=hM.pr q hq
  rw[hG,tC (nL _ _ hq'.2.1) (fun hm=>no _ _ (hq'.2.2 t hm) rfl),qH]
  have e0:g1 m t=g0 t:=aK4 (nL _ _ fun v hv=>(hM.va v hv).1) (nL _ _ fun r hr=>(hM.pr r hr).1)
  rcases qL (l:=lG m.uses fs) (g:=g1 m) (t:=t) with h|⟨p,hp,e,h⟩
  .
   by_cases hin:∃p ∈ lG m.uses fs,p.1=t
   .
    obtain⟨p,hp,e⟩:=hin;exact U174
   .
    have no':∀p ∈ lG m.uses fs,p.1 ≠ t:=fun p hp e=>hin ⟨p,hp,e⟩
    rw[dI no',dI no',e0]
  .
   exact U174
 refine⟨fun x hx=>(P x (fT hx)).1,fun x hx=>(P x (fT hx)).2.1,fun x hx=>?_,fun mod x hm hx=>?_,fun x=>?_⟩
 .
  by_cases h46:(46:Int) ∈ x
  .
   rw[D x h46]at hx ⊢
   rcases qL (l:=lG m.uses fs) (g:=g0) (t:=x) with h|⟨p,hp,e,h⟩
   .
    rw[h];rfl
   .
    obtain⟨f,hf,hu,r,hr,rfl⟩:=eI.1 hp;rw[h]at hx
    simp at hx
  .
   exact(P x h46).2.2.1 hx
 .
  rcases hm with rfl|hm
  .
   have:=(P x (fT hx)).2.2.2.1
   rw[show eU [] x=x from rfl,<-this]
   rfl
  .
   rw[show fO m fs mod x=(nG fs mod).bind fun f=>if mod ∈ m.uses then nE f x else none from if_neg (lS hm),D _ (tK hm)]
   by_cases hin:∃f ∈ fs,f.name=mod/\mod ∈ m.uses/\∃r ∈ f.procs,r.name=x
   .
    obtain⟨f,hf,rfl,hu,r,hr,rfl⟩:=hin
    have V:stG g0 (lG m.uses fs) (eU f.name r.name)=(3,r.kinds):=kW ⟨_,eI.2 ⟨f,hf,hu,r,hr,rfl⟩,rfl⟩ fun p' Bs e'=>by
     obtain⟨f',hf',hu',r',hr',rfl⟩:=eI.1 Bs;obtain⟨e1,e2⟩:=mD (hF.nm f' hf') hm e'
     have:=fN hF.nd hf' hf e1
     subst this
     have:=fN (hF.pn f' hf) hr' hr e2
     subst this
     rfl
    rw[V,aE7 hF hf,Option.bind_some,if_pos hu,aEh (hF.pn f hf) hr]
    rfl
   .
    have no':∀p ∈ lG m.uses fs,p.1 ≠ eU mod x:=fun p hp e=>by
     obtain⟨f',hf',hu',r',hr',rfl⟩:=eI.1 hp;obtain⟨e1,e2⟩:=mD (hF.nm f' hf') hm e;exact hin ⟨f',hf',e1,e1 ▸ hu',r',hr',e2⟩
    rw[dI no',if_neg (by show(0:Int) ≠ 3;decide)]
    cases hfq:nG fs mod with
    | none=>rfl
    | some f=>
     obtain⟨h1,h2⟩:=aCr hfq;rw[Option.bind_some]
     by_cases hu:mod ∈ m.uses
     .
      rw[if_pos hu]
      cases hpq:nE f x with
      | none=>rfl
      | some ks=>
       obtain⟨r,hr,e⟩:=aBl hpq;exact absurd ⟨f,h1,h2,hu,r,hr,e⟩ hin
     .
      rw[if_neg hu]
 .
  by_cases h46:(46:Int) ∈ x
  .
   rw[D x h46]
   rcases qL (l:=lG m.uses fs) (g:=g0) (t:=x) with h|⟨p,hp,e,h⟩
   .
    rw[h];simp[g0]
   .
    obtain⟨f,hf,hu,r,hr,rfl⟩:=eI.1 hp;rw[h];exact hF.kd f hf r hr
  .
   exact(P x h46).2.2.2.2
end
theorem aF7 (m:Mo)(fs:List Fa):∀l,qP m fs 2 l=2
 | []=>rfl
 | q :: l=>by rw[qP,qE];exact aF7 m fs l
theorem vM {m:Mo}{fs:List Fa}{g:List Int->Mn}:∀(l:List Pr) (c:Int),(c=0\/c=4)->(∀q ∈ l,fC q.body=true/\tN m fs q (enG g q))->fJ g c l=qP m fs c l
 | [],c,_,_=>rfl
 | q :: l,c,hc,h=>by
  have hq:=h q V15;have hb:=mE hq.2 q.body hq.1 0 T0;rw[qF (eK _ _)]at hb;rw[fJ,qP,hb]
  have ih:=fun c hc=>vM (g:=g) l c hc (fun q hq=>h q (List.mem_cons_of_mem _ hq))
  rcases eK (enG g q) (cI q.body) with e|e|e <;> rw[e]
  .
   rw[if_neg V7,if_neg V7,ih c hc]
   rcases hc with rfl|rfl <;> rfl
  .
   rw[if_pos rfl]
   rcases hc with rfl|rfl <;> exact(aF7 m fs l).symm
  .
   rw[if_neg V7,if_pos rfl,ih 4 (.inr rfl)]
   rcases hc with rfl|rfl <;> rfl
theorem fS {x:List Int}{g:Bool}(h:aK x g=true):x.length<=8:=by
 unfold aK at h;simp only[zC0,zE3]at h;exact h.1.2
theorem sQ {m:Mo}(h:bY m=true):MoN m:=by
 obtain⟨_,_,hv,hp⟩:=dQ h
 refine⟨fun v hv'=>?_,fun q hq=>?_⟩
 .
  have:=hv v hv'
  unfold lF inB at this;simp only[zC0,zE3]at this;exact⟨this.1,this.2.1⟩
 .
  have:=(hp q hq).1
  unfold jU at this;simp only[zC0,zE3,zF3]at this
  exact⟨this.1.1.1.1,fun a ha=>this.1.1.2 a ha,fun x hx=>this.2 x hx⟩
theorem nO {m:Mo}(h:bY m=true):∀q ∈ m.procs,vK q:=by
 intro q hq
 have:=((dQ h).2.2.2 q hq).1
 have hn:=(sQ h).pr q hq;unfold jU at this;simp only[zC0,zE3]at this
 exact⟨this.1.1.1.2,this.1.2,fun a ha=>by have:=fS (hn.2.1 a ha);omega,fun y hy=>by have:=fS (hn.2.2 y hy);omega⟩
theorem aDd {m:Mo}(h:bY m=true):m.vars.length<=8/\m.procs.length<=8:=by
 unfold bY at h;simp only[zC0,zE3]at h;exact⟨h.1.1.1.1.2,h.1.1.2⟩
mutual
theorem aJp:∀e,nQ e=true->wfE e
 | .mk k n mod name kids,h=>by
  unfold nQ at h;simp only[zC0]at h;have hk:=tR kids h.2;have hl:=h.1.1;unfold gE inB at hl;simp only[zC0,Bool.or_eq_true,zE3]at hl;obtain⟨⟨hk8,_,hnm⟩,hmod⟩:=hl
  refine⟨⟨hk8.1,by omega, ?_, ?_⟩,hk⟩
  .
   rcases hmod with h|⟨_,h⟩
   .
    omega
   .
    have:=fS h;omega
  .
   exact U156
theorem tR:∀l,dR l=true->aDn l
 | [],_=>trivial
 | e :: l,h=>by
  unfold dR at h;rw[zC0]at h;exact⟨aJp e h.1,tR l h.2⟩
end
mutual
theorem aJo:∀s,sM s=true->wfS s
 | .mk k n name kids body els,h=>by
  unfold sM at h;simp only[zC0]at h;obtain⟨⟨⟨hl,hks⟩,hb⟩,he⟩:=h;have h1:=qG body hb;have h2:=qG els he;unfold mI inB at hl;simp only[zC0,Bool.or_eq_true,zE3]at hl;obtain⟨⟨⟨⟨⟨hk8,_,hnm⟩,_⟩,_⟩,_⟩,_⟩:=hl
  refine⟨⟨hk8.1,by omega, ?_⟩,tR kids hks,h1,h2⟩
  exact U156
theorem qG:∀l,fC l=true->tQ l
 | [],_=>trivial
 | s :: l,h=>by
  unfold fC at h;rw[zC0]at h;exact⟨aJo s h.1,qG l h.2⟩
end
def nD (m:Mo)(fs:List Fa):Int:=if (mX m && jX fs)=false then 1 else if qU m=false then 2 else if kU m fs=false then 3 else fJ (eJ m.uses (g1 m) fs) 0 m.procs
theorem aD3 (m:Mo)(fs:List Fa):nD m fs=eY m fs:=by
 unfold nD eY;rw[aEm,aDv,aCq]
 by_cases h1:(mX m && fsB fs)=false
 .
  rw[if_pos h1,if_pos h1]
 rw[if_neg h1,if_neg h1]
 by_cases h2:nmB m=false
 .
  rw[if_pos h2,if_pos h2]
 rw[if_neg h2,if_neg h2]
 by_cases h3:usB m fs=false
 .
  rw[if_pos h3,if_pos h3]
 rw[if_neg h3,if_neg h3];rw[Bool.not_eq_false,zC0]at h1
 have hf:bY m=true:=by
  have:=h1.1
  unfold mX at this;rw[zC0]at this;exact this.1
 have hN:NmN m:=by
  refine(wD m).1 ?_
  by_cases h:aGr m
  .
   exact h
  .
   exact absurd (nF h) h2
 have hF:FaN fs:=by
  by_cases h:aGs fs
  .
   exact aGi h
  .
   exact absurd (aCk h) (by rw[h1.2];decide)
 exact vM m.procs 0 (.inl rfl) fun q hq=>⟨((dQ hf).2.2.2 q hq).2,aMn hN (sQ hf) hF hq⟩
theorem oW {g:List Int->Mn}{l:List (List Int × Mn)}(hg:pL g)(hz:∀p ∈ l,p.2.1 ≠ 0):pL (stG g l):=by
 intro x hx;have h:=(gI hz).1 hx;rw[dI h.1];exact hg x h.2
theorem aFl:pL g0:=fun _ _=>rfl
theorem rI (m:Mo):pL (g1 m):=oW (oW aFl (rU m)) (aBr m)
theorem aAi (us:List (List Int))(m:Mo)(fs:List Fa):pL (eJ us (g1 m) fs):=by
 rw[qH]
 refine oW (rI m) fun p hp=>?_
 obtain⟨f,_,_,r,_,rfl⟩:=eI.1 hp
 simp
theorem aBz {m:Mo}{fs:List Fa}{q:Pr}(us:List (List Int))(hM:MoN m)(hF:FaN fs)(hq:q ∈ m.procs):lD (eJ us (g1 m) fs) q=lD (g1 m) q:=by
 have hq':=hM.pr q hq
 have e:∀x,aK x false=true->eJ us (g1 m) fs x=g1 m x:=fun x hx=>rV hF (fT hx)
 rw[Bool.eq_iff_iff];unfold lD;rw[zC0,zC0,jQ (oJ q),jQ (aB5 q),jQ (oJ q),jQ (aB5 q)]
 refine and_congr (and_congr_right fun _=>forall_congr' fun p=>forall_congr' fun hp=>?_) (and_congr_right fun _=>forall_congr' fun p=>forall_congr' fun hp=>?_)
 .
  obtain⟨a,ha,rfl⟩:=zE1.1 hp
  simp only
  rw[e _ (hq'.2.1 a ha)]
 .
  obtain⟨x,hx,rfl⟩:=zE1.1 hp
  simp only
  rw[gI (oJ q),gI (oJ q),e _ (hq'.2.2 x hx)]
set_option maxHeartbeats 8000000 in
theorem aCf (m:Mo)(fs:List Fa)(vs:List Value)(b:Option Addr)(nf d:Nat)(w:World)(hT:kQ w)(hex:∀i,i<8->w.cell? ⟨1,i,none⟩=some (.int .i64 (pH i)))(hst:∀i,i<8->w.cell? ⟨0,i,none⟩=some (.int .i64 (pC i)))
  (h:aO w m.fl vs) (hs:aH m.fl<=1048576) (hf:aS w b d 2 (fs.map Fa.fl)) (hfl:fs.length=nf) (hfs:aDl fs):
  Calls Tryz.prog 57 #[agg vs,.slice b nf d] w fun e w'=>e=.returned (.int .i64 (eY m fs))/\w.grownBy w' none:=by
 rw[<-aD3];have h0:=h;obtain⟨v0,_,rfl,_,v1,_,rfl,hu,v2,_,rfl,_,v3,_,rfl,hp,rfl⟩:=h;obtain⟨au,cu,rfl,hU⟩:=hu.list;obtain⟨ap,cp,rfl,hP⟩:=hp.list
 have eu:(bH m.uses).length=m.uses.length:=by simp[bH]
 rw[zB2,eu]at h0 ⊢
 obtain⟨nu,hnu⟩:∃z,z=m.uses.length:=⟨_,rfl⟩
 obtain⟨np,hnp⟩:∃z,z=m.procs.length:=⟨_,rfl⟩
 have HNU:=hid hnu.symm;have HNP:=hid hnp.symm;rw[<-hnu,<-hnp]at h0 ⊢;have HM:=hid h0;have HU:=hid hU;have HP:=hid hP;have HF:=hid hf;have HFL:=hid hfl;have HFN:=hid hfs;have HEX:=hid hex;have HSX:=hid hst
 have HTC:Hid (nD m fs=if (mX m && jX fs)=false then 1 else if qU m=false then 2 else if kU m fs=false then 3 else fJ (eJ m.uses (g1 m) fs) 0 m.procs):=rfl
 have y1:=aC w (.cells #[v0,.slice au nu cu,v2,.slice ap np cp] 48 (0,0)) none;have x1:=Blk.new w 48 [v0,.slice au nu cu,v2,.slice ap np cp];simp only[List.toArray]at x1;have H1:=aE1 m _ _ (hT.below (aA y1)) (h0.below (aA y1)) hs;simp only[List.toArray]at H1;simp only[agg];clear h0 hu hp hU hP hnu hnp hf hfl hfs hex hst eu hT hs;go_enter Tryz.func57,Tryz.ntmps57;go_upto_region 1 with fail;generalize w.alloc (.cells #[v0,.slice au nu cu,v2,.slice ap np cp] 48 (0,0))=w1 at *;generalize w.heap.size=gM at *;obtain⟨q0,q1,q2,q3⟩:=x1.c4;clear x1
 cases hmo:mX m
 .
  rw[hmo]at H1
  have HR:Hid (nD m fs=1):=by show _=_;rw[HTC.out,hmo];rfl
  clear hmo HTC;go_wp2_with fail;refine H1.mono ?_;rintro e w2 ⟨rfl,Be⟩;have G2:=hid (aD y1 Be);clear H1 q0 q1 q2 q3 Be y1;go_wp2;go_ret;exact⟨aQ HR.out.symm,G2.out⟩
 rw[hmo]at H1;have HMO:=hid hmo
 have HFO:Hid (bY m=true):=by
  have:=hmo
  unfold mX at this;rw[zC0]at this;exact this.1
 clear hmo
 cases hfa:jX fs
 .
  have HR:Hid (nD m fs=1):=by show _=_;rw[HTC.out,hfa,Bool.and_false];rfl
  clear HTC;go_wp2_with fail;refine H1.mono ?_;rintro e w2 ⟨rfl,Be⟩;have y2:=aD y1 Be;have H2:=wS fs b nf d w2 HFL.out (HF.out.below (aA y2)) HFN.out;rw[hfa]at H2;clear H1 q0 q1 q2 q3 Be y1 hfa;go_wp2_with fail;refine H2.mono ?_;rintro e w3 ⟨rfl,hg3⟩;have G3:=hid (aD y2 hg3);clear H2 hg3 y2;go_wp2;go_ret;exact⟨aQ HR.out.symm,G3.out⟩
 have HFN':=hid (aGi ((rB fs).1 hfa))
 have HFA:Hid (∀f ∈ fs,aJj f):=by
  intro f hf';have h1:=hfa;unfold jX at h1;simp only[zC0,zF3]at h1;have h2:=h1.1.2 f hf';unfold lA at h2;simp only[zC0,zE3]at h2;have h3:=HFN.out f hf';exact⟨h2.1.1.2,h3.1,h3.2⟩
 have HF8:Hid (nf<=8):=by
  have h1:=hfa;unfold jX at h1;simp only[zC0,zE3]at h1;rw[<-HFL.out];exact h1.1.1
 have HTC2:Hid (nD m fs=if qU m=false then 2 else if kU m fs=false then 3 else fJ (eJ m.uses (g1 m) fs) 0 m.procs):=by show _=_;rw[HTC.out,HMO.out,hfa];rfl
 clear HTC
 have HC8:Hid ((vaL m).length<=8/\(prL m).length<=8/\np<=8):=by
  have h1:=aDd HFO.out
  refine⟨?_, ?_,by rw[<-HNP.out];exact h1.2⟩
  .
   unfold vaL;rw[zB2];exact h1.1
  .
   unfold prL;rw[zB2];exact h1.2
 go_wp2_with fail;refine H1.mono ?_;rintro e w2 ⟨rfl,Be⟩;have y2:=aD y1 Be;have H2:=wS fs b nf d w2 HFL.out (HF.out.below (aA y2)) HFN.out;rw[hfa]at H2;replace q0:=aB q0 (aA Be);replace q1:=aB q1 (aA Be);replace q2:=aB q2 (aA Be);replace q3:=aB q3 (aA Be);clear H1 Be y1 hfa;go_wp2_with fail;refine H2.mono ?_;rintro e w3 ⟨rfl,hg3⟩;have y3:=aD y2 hg3;have y4:=aC w3 (.map #[] 0) none;have B4:=hid (aA (aD y3 y4))
 have HBB:Hid (w.heap.size<=w3.heap.size):=(aA y3).size
 have N4:=NT.made w3;replace q0:=aB (aB q0 (aA hg3)) (aA y4);replace q1:=aB (aB q1 (aA hg3)) (aA y4);replace q2:=aB (aB q2 (aA hg3)) (aA y4);replace q3:=aB (aB q3 (aA hg3)) (aA y4)
 have hmm:∀w:World,(Instr.makeMap 149 none).run Tryz.prog w=.ok (.map (some w.heap.size)) (w.alloc (.map #[] 0)):=fun w=>rfl
 clear H2 hg3 y2 y3 y4;go_upto_region 4 with fail;clear hmm;generalize w3.alloc (.map #[] 0)=w4 at *;generalize w3.heap.size=bm at *
 have H4:=pJ m _ w w4 bm 0 _ HM.out B4.out HBB.out N4 (by show 0+(vaL m).length+(prL m).length<=_;have:=HC8.out;omega) (fun v hv=>by have:=fS ((sQ HFO.out).va v hv).1;omega) (fun q hq=>by have:=fS ((sQ HFO.out).pr q hq).1;have:=(nO HFO.out q hq).np;omega)
 change Calls _ _ _ _ (fun e w'=>e=.returned (.bool (okG g0 (vaL m) && okG (stG g0 (vaL m)) (prL m)))/\Dn w4 w' bm (0+(vaL m).length+(prL m).length) (g1 m) (okG g0 (vaL m) && okG (stG g0 (vaL m)) (prL m))) at H4
 simp only[agg,List.toArray]at H4;have HN4:=hid N4;clear N4
 cases hd:(okG g0 (vaL m) && okG (stG g0 (vaL m)) (prL m))
 .
  rw[hd]at H4
  have HR:Hid (nD m fs=2):=by show _=_;rw[HTC2.out];unfold qU;rw[hd];rfl
  clear hd HTC2;go_wp2_with fail;refine H4.mono ?_;rintro e w5 ⟨rfl,hdn⟩;have G5:=hid (aI (cO B4.out hdn.grown HBB.out) none);clear H4 hdn q0 q1 q2 q3;go_wp2;go_ret;exact⟨aQ HR.out.symm,G5.out⟩
 rw[hd]at H4
 have HTC3:Hid (nD m fs=if m.procs.all (lD (g1 m))=false then 2 else if kU m fs=false then 3 else fJ (eJ m.uses (g1 m) fs) 0 m.procs):=by show _=_;rw[HTC2.out];unfold qU;rw[hd,Bool.true_and]
 clear hd HTC2
 cases ho:m.procs.all (lD (g1 m))
 .
  have HR:Hid (nD m fs=2):=by show _=_;rw[HTC3.out,if_pos ho]
  have HO:=hid ho;clear ho HTC3;go_wp2_with fail;refine H4.mono ?_;rintro e w5 ⟨rfl,hdn⟩
  have H5:=aF9 m.procs ap np cp w w5 bm _ (g1 m) HP.out HNP.out (cO B4.out hdn.grown HBB.out) HBB.out (hdn.yes rfl) (by have:=HC8.out;omega) (rI m) (nO HFO.out)
  rw[HO.out]at H5;have B5:=hid (cO B4.out hdn.grown HBB.out);replace q3:=HN4.out.cell q3 hdn.grown;clear H4 hdn q0 q1 q2;go_wp2_with fail;refine H5.mono ?_;rintro e w6 ⟨rfl,hdn⟩;have G6:=hid (aI (cO B5.out hdn.grown HBB.out) none);clear H5 hdn q3;go_wp2;go_ret;exact⟨aQ HR.out.symm,G6.out⟩
 have HTC4:Hid (nD m fs=if kU m fs=false then 3 else fJ (eJ m.uses (g1 m) fs) 0 m.procs):=by show _=_;rw[HTC3.out,if_neg (by rw[ho];decide)]
 have HO:=hid ho;clear ho HTC3;go_wp2_with fail;refine H4.mono ?_;rintro e w5 ⟨rfl,hdn⟩
 have N5:Hid (NT w5 bm (0+(vaL m).length+(prL m).length) (g1 m)):=hdn.yes rfl
 have H5:=aF9 m.procs ap np cp w w5 bm _ (g1 m) HP.out HNP.out (cO B4.out hdn.grown HBB.out) HBB.out N5.out (by have:=HC8.out;omega) (rI m) (nO HFO.out)
 rw[HO.out]at H5;have B5:=hid (cO B4.out hdn.grown HBB.out);replace q0:=HN4.out.cell q0 hdn.grown;replace q1:=HN4.out.cell q1 hdn.grown;replace q2:=HN4.out.cell q2 hdn.grown;replace q3:=HN4.out.cell q3 hdn.grown;clear H4 hdn HN4 B4;go_wp2_with fail;refine H5.mono ?_;rintro e w6 ⟨rfl,hdn⟩
 have N6:Hid (NT w6 bm (0+(vaL m).length+(prL m).length+12*np) (g1 m)):=hdn.yes rfl
 have B6:=hid (cO B5.out hdn.grown HBB.out);replace q0:=N5.out.cell q0 hdn.grown;replace q1:=N5.out.cell q1 hdn.grown;replace q2:=N5.out.cell q2 hdn.grown;replace q3:=N5.out.cell q3 hdn.grown;have H6:=aLi m fs _ w w6 b nf d HM.out HF.out HFL.out B6.out;simp only[agg,List.toArray]at H6;clear H5 hdn N5 B5
 cases hus:kU m fs
 .
  rw[hus]at H6
  have HR:Hid (nD m fs=3):=by show _=_;rw[HTC4.out,if_pos hus]
  clear hus HTC4;go_wp2_with fail;refine H6.mono ?_;rintro e w7 ⟨rfl,hg7⟩;have G7:=hid (aD (aI B6.out none) hg7);clear H6 hg7 q0 q1 q2 q3;go_wp2;go_ret;exact⟨aQ HR.out.symm,G7.out⟩
 rw[hus]at H6
 have HR:Hid (nD m fs=fJ (eJ m.uses (g1 m) fs) 0 m.procs):=by show _=_;rw[HTC4.out,if_neg (by rw[hus];decide)]
 clear hus HTC4;go_wp2_with fail;refine H6.mono ?_;rintro e w7 ⟨rfl,hg7⟩;have N7:=hid (N6.out.grown hg7);have B7:=hid (B6.out.trans ((aA hg7).mono B6.out.size));replace q1:=aB q1 (aA hg7);replace q3:=aB q3 (aA hg7)
 have H7:=tD m.uses au nu cu fs b nf d w w7 bm _ (g1 m) HU.out HNU.out HF.out HFL.out B7.out HBB.out N7.out (by have:=HC8.out;have:=HF8.out;omega) HFA
 clear H6 hg7 q0 q2 N6 B6;go_wp2_with fail;refine H7.mono ?_;rintro e w8 ⟨rfl,hN8,hg8⟩;have B8:=hid (cO B7.out hg8 HBB.out);replace q3:=N7.out.cell q3 hg8
 have H8:=aG3 m.procs ap np cp w w8 bm _ _ HP.out HNP.out B8.out HBB.out hN8 (by have:=HC8.out;have:=HF8.out;omega) (aAi m.uses m fs) (nO HFO.out) (fun q hq=>by rw[aBz m.uses (sQ HFO.out) HFN'.out hq];exact zF3.1 HO.out q hq) (fun q hq=>qG _ ((dQ HFO.out).2.2.2 q hq).2) HEX.out HSX.out
 clear H7 hN8 hg8 q1 N7 B7;go_wp2_with fail;refine H8.mono ?_;rintro e w9 ⟨rfl,hb9⟩;have G9:=hid (aI hb9 none);clear H8 hb9 q3;go_wp2;go_ret;exact⟨aQ HR.out.symm,G9.out⟩
end Go.Proofs.YtegkhlkjfeafjaaGreatDoor

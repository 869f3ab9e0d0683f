import Derived.Test.YtffphdacgblaoaaGreatDoorPackC
import Derived.Test.YtffphdacgblaoaaGreatDoorPackV
import Derived.ArgAppend
namespace Go.Proofs.YtffphdacgblaoaaGreatDoor
open Go.RowKit
set_option linter.unusedVariables false
set_option linter.unusedSimpArgs false
namespace Eg
inductive Fd where
 | n|t|b (m:Nat)|i (m:Nat)|l (t lo m:Nat)
 deriving DecidableEq
def Dt:Nat->TypeId × List Fd
 | 0=>(22,[.b 4])
 | 1=>(82,[.b 4,.n])
 | 2=>(98,[.b 4,.t])
 | 3=>(59,[.b 4,.i 3])
 | 4=>(35,[.b 4,.l 3 0 3])
 | 5=>(119,[.n,.n,.b 4,.b 4,.l 0 0 0])
 | 6=>(119,[.n,.n,.b 4,.b 4,.l 5 0 3])
 | 7=>(119,[.n,.n,.b 4,.b 4,.l 6 0 3])
 | 8=>(119,[.n,.n,.b 4,.b 4,.l 7 0 3])
 | 9=>(116,[.n,.n,.b 4,.l 8 0 2,.l 0 0 0,.l 0 0 0])
 | 10=>(116,[.n,.n,.b 4,.l 8 0 2,.l 9 0 3,.l 9 0 1])
 | 11=>(116,[.n,.n,.b 4,.l 8 0 2,.l 10 0 4,.l 10 0 2])
 | 12=>(55,[.b 4,.t,.l 2 0 3,.l 0 0 2,.l 11 0 11])
 | 13=>(27,[.b 4,.l 0 0 2,.l 1 0 3,.l 12 1 3])
 | 14=>(116,[.n,.n,.b 4,.l 8 0 2,.l 10 0 4,.l 10 0 2])
 | 15=>(55,[.b 4,.t,.l 2 0 3,.l 0 0 2,.l 14 0 11])
 | 16=>(27,[.b 4,.l 0 0 3,.l 1 0 4,.l 15 1 3])
 | 17=>(27,[.b 4,.l 0 0 2,.l 1 0 3,.l 15 1 3])
 | _=>(22,[.b 4])
def Lt:Nat->List Fd
 | 14=>[.n,.n,.b 4,.l 8 0 3,.l 10 0 4,.l 10 0 2]
 | 15=>[.b 4,.t,.l 2 0 4,.l 0 0 3,.l 14 0 11]
 | t=>(Dt t).2
inductive Rs where
 | bt|ii|st|rc (t:Nat)
 deriving DecidableEq
def Rs.k:Rs->Nat
 | .rc t=>(Dt t).2.length
 | _=>1
def Rs.ty:Rs->TypeId
 | .bt=>5
 | .ii=>3
 | .st=>9
 | .rc t=>(Dt t).1
theorem Rs.k0 (k:Rs):0<k.k:=by
 cases k with
 | rc t=>
  show 0<(Dt t).2.length
  unfold Dt
  split <;> decide
 | _=>decide
structure So where
 k:Rs
 q:Bool
 u:Nat
 c:Nat
abbrev Sm:=Nat->Option So
def SV (τ:Sm)(k:Rs)(n:Nat)(v:Value):Prop:=
 (v=.slice none 0 0/\n=0)\/∃b j c s,v=.slice (some ⟨b,j*k.k,none⟩) n c/\τ b=some s/\s.k=k/\j+n<=s.u/\n<=c/\j+c<=s.c
def I64 (x:Int):Prop:=-9223372036854775808<=x/\x<=9223372036854775807
def FV (τ:Sm):Fd->Value->Prop
 | .n,v=>∃x,v=.int .i64 x/\I64 x
 | .t,v=>∃x,v=.bool x
 | .b m,v=>∃n,n<=m/\SV τ .bt n v
 | .i m,v=>∃n,n<=m/\SV τ .ii n v
 | .l t lo m,v=>∃n,(lo<=n/\n<=m)/\SV τ (.rc t) n v
def RV (τ:Sm):List Fd->List Value->Prop
 | [],vs=>vs=[]
 | f :: r,vs=>∃v us,vs=v :: us/\FV τ f v/\RV τ r us
def EV (τ:Sm)(q:Bool):Rs->List Value->Prop
 | .bt,vs=>∃x,vs=[.int .u8 x]/\0<=x/\x<=255
 | .ii,vs=>∃x,vs=[.int .i64 x]/\I64 x
 | .st,vs=>∃s,vs=[.string s]/\s.size<=4
 | .rc t,vs=>RV τ (if q then Lt t else (Dt t).2) vs
structure aKq (τ:Sm) (w:World) (b:Nat) (s:So):Prop where
 blk:∃cs fl,w.heap[b]?=some (.cells cs s.k.ty fl)/\(s.k ≠ .bt->fl=(0,0))/\cs.size=s.c*s.k.k
 u:s.u<=s.c
 c:s.c<=maxLen
 el:∀i,i<s.u->∃vs,vs.length=s.k.k/\EV τ s.q s.k vs/\∀j v,vs[j]?=some v->w.cell? ⟨b,i*s.k.k+j,none⟩=some v
def TH (τ:Sm)(w:World):Prop:=∀b s,τ b=some s->aKq τ w b s
def Sub (τ τ':Sm):Prop:=∀b s,τ b=some s->∃s',τ' b=some s'/\s'.k=s.k/\s'.c=s.c/\s.u<=s'.u
theorem Sub.refl (τ:Sm):Sub τ τ:=fun b s h=>⟨s,h,rfl,rfl,zB0 _⟩
theorem Sub.trans {A B C:Sm}(h:Sub A B)(h':Sub B C):Sub A C:=fun b s hb=>by
 obtain⟨s1,e1,a1,b1,d1⟩:=h b s hb;obtain⟨s2,e2,a2,b2,d2⟩:=h' b s1 e1
 exact⟨s2,e2,a2.trans a1,b2.trans b1,by omega⟩
theorem SV.sub {τ τ':Sm}{k:Rs}{n:Nat}{v:Value}(h:SV τ k n v)(hs:Sub τ τ'):SV τ' k n v:=by
 rcases h with h|⟨b,j,c,s,e,hb,h1,h3,h4,h5⟩
 .
  exact .inl h
 .
  obtain⟨s',e',a1,a3,a4⟩:=hs b s hb
  exact .inr ⟨b,j,c,s',e,e',a1.trans h1,by omega,h4,by omega⟩
theorem FV.sub {τ τ':Sm}(hs:Sub τ τ'):∀{f:Fd} {v:Value},FV τ f v->FV τ' f v
 | .n,_,h=>h
 | .t,_,h=>h
 | .b _,_,⟨n,h,h'⟩=>⟨n,h,h'.sub hs⟩
 | .i _,_,⟨n,h,h'⟩=>⟨n,h,h'.sub hs⟩
 | .l _ _ _,_,⟨n,h,h'⟩=>⟨n,h,h'.sub hs⟩
theorem RV.sub {τ τ':Sm}(hs:Sub τ τ'):∀{r:List Fd} {vs:List Value},RV τ r vs->RV τ' r vs
 | [],_,h=>h
 | _ :: _,_,⟨v,us,e,h2,h3⟩=>⟨v,us,e,FV.sub hs h2,RV.sub hs h3⟩
theorem EV.sub {τ τ':Sm}(hs:Sub τ τ'){q:Bool}{k:Rs}{vs:List Value}(h:EV τ q k vs):EV τ' q k vs:=by
 cases k with
 | rc t=>exact RV.sub hs h
 | _=>exact h
theorem SV.one {τ:Sm}{k:Rs}{n:Nat}{v:Value}(h:SV τ k n v):v.oneCell'=true:=by
 rcases h with⟨e,_⟩|⟨b,j,c,s,e,_⟩
 .
  rw[e];rfl
 .
  rw[e];rfl
theorem FV.one {τ:Sm}:∀{f:Fd} {v:Value},FV τ f v->v.oneCell'=true
 | .n,_,⟨x,e,_⟩=>by rw[e];rfl
 | .t,_,⟨x,e⟩=>by rw[e];rfl
 | .b _,_,⟨n,_,h⟩=>h.one
 | .i _,_,⟨n,_,h⟩=>h.one
 | .l _ _ _,_,⟨n,_,h⟩=>h.one
theorem RV.one {τ:Sm}:∀{r:List Fd} {vs:List Value},RV τ r vs->∀u ∈ vs,u.oneCell'=true
 | [],_,h,u,hu=>by rw[show _=[] from h]at hu;cases hu
 | _ :: _,_,⟨v,us,e,h2,h3⟩,u,hu=>by
  rw[e]at hu
  rcases zG3.1 hu with rfl|hu
  .
   exact FV.one h2
  .
   exact RV.one h3 u hu
theorem RV.length {τ:Sm}:∀{r:List Fd} {vs:List Value},RV τ r vs->vs.length=r.length
 | [],_,h=>by rw[show _=[] from h];rfl
 | _ :: _,_,⟨v,us,e,h2,h3⟩=>by rw[e,zB1,zB1,RV.length h3]
theorem RV.get {τ:Sm}:∀{r:List Fd} {vs:List Value},RV τ r vs->∀{i:Nat} {f:Fd},r[i]?=some f->∃v,vs[i]?=some v/\FV τ f v
 | [],_,_,i,f,h=>by simp at h
 | _ :: _,_,⟨v,us,e,h2,h3⟩,i,f,h=>by
  subst e
  cases i with
  | zero=>simp only[List.getElem?_cons_zero,zG2]at h;subst h;exact⟨v,rfl,h2⟩
  | succ i=>rw[List.getElem?_cons_succ]at h ⊢;exact RV.get h3 h
theorem RV.set {τ:Sm}:∀{r:List Fd} {vs:List Value},RV τ r vs->∀{i:Nat} {f:Fd} {u:Value},r[i]?=some f->FV τ f u->RV τ r (vs.set i u)
 | [],_,_,i,f,u,h,_=>by simp at h
 | _ :: _,_,⟨v,us,e,h2,h3⟩,i,f,u,h,hu=>by
  subst e
  cases i with
  | zero=>simp only[List.getElem?_cons_zero,zG2]at h;subst h;exact⟨u,us,rfl,hu,h3⟩
  | succ i=>rw[List.getElem?_cons_succ]at h;exact⟨v,_,rfl,h2,RV.set h3 h hu⟩
theorem EV.one {τ:Sm}{q:Bool}{k:Rs}{vs:List Value}(h:EV τ q k vs):∀u ∈ vs,u.oneCell'=true:=by
 cases k with
 | rc t=>exact RV.one h
 | bt=>obtain⟨x,rfl,_⟩:=h;intro u hu;simp at hu;rw[hu];rfl
 | ii=>obtain⟨x,rfl,_⟩:=h;intro u hu;simp at hu;rw[hu];rfl
 | st=>obtain⟨x,rfl,_⟩:=h;intro u hu;simp at hu;rw[hu];rfl
theorem wH (t:Nat):(Lt t).length=(Dt t).2.length:=by
 unfold Lt
 split <;> rfl
theorem EV.length {τ:Sm}{q:Bool}{k:Rs}{vs:List Value}(h:EV τ q k vs):vs.length=k.k:=by
 cases k with
 | rc t=>
  have:=RV.length h
  cases q with
  | true=>exact this.trans (wH t)
  | false=>exact this
 | bt=>obtain⟨x,rfl,_⟩:=h;rfl
 | ii=>obtain⟨x,rfl,_⟩:=h;rfl
 | st=>obtain⟨x,rfl,_⟩:=h;rfl
def upd (τ:Sm)(g:Nat)(s:So):Sm:=fun b=>if b=g then some s else τ b
theorem oB (τ:Sm)(g:Nat)(s:So):upd τ g s g=some s:=if_pos rfl
theorem iH {τ:Sm}{g b:Nat}{s:So}(h:b ≠ g):upd τ g s b=τ b:=if_neg h
theorem wP {τ:Sm}{g:Nat}{s:So}(h:τ g=none):Sub τ (upd τ g s):=fun b s0 hb=>by
 have hn:b ≠ g:=by rintro rfl;rw[h]at hb;cases hb
 exact⟨s0,(iH hn).trans hb,rfl,rfl,zB0 _⟩
theorem FV.loose {τ:Sm}{t lo m lo' m':Nat}{v:Value}(h:FV τ (.l t lo m) v)(h1:lo'<=lo)(h2:m<=m'):FV τ (.l t lo' m') v:=by
 obtain⟨n,⟨a,b⟩,h'⟩:=h
 exact⟨n,⟨by omega,by omega⟩,h'⟩
theorem RV.loose {τ:Sm}{t:Nat}{vs:List Value}(h:RV τ (Dt t).2 vs):RV τ (Lt t) vs:=by
 unfold Lt
 split
 .
  obtain⟨v0,_,rfl,h0,v1,_,rfl,h1,v2,_,rfl,h2,v3,_,rfl,h3,v4,_,rfl,h4,v5,_,rfl,h5,rfl⟩:=h;exact⟨v0,_,rfl,h0,v1,_,rfl,h1,v2,_,rfl,h2,v3,_,rfl,FV.loose h3 Q0 Q0,v4,_,rfl,h4,v5,_,rfl,h5,rfl⟩
 .
  obtain⟨v0,_,rfl,h0,v1,_,rfl,h1,v2,_,rfl,h2,v3,_,rfl,h3,v4,_,rfl,h4,rfl⟩:=h;exact⟨v0,_,rfl,h0,v1,_,rfl,h1,v2,_,rfl,FV.loose h2 Q0 Q0,v3,_,rfl,FV.loose h3 Q0 Q0,v4,_,rfl,h4,rfl⟩
 .
  exact h
theorem EV.loose {τ:Sm}{q:Bool}{k:Rs}{vs:List Value}(h:EV τ false k vs):EV τ q k vs:=by
 cases q with
 | false=>exact h
 | true=>
  cases k with
  | rc t=>exact RV.loose h
  | _=>exact h
def Rs.same:Rs->Prop
 | .rc t=>Lt t=(Dt t).2
 | _=>True
theorem EV.tight {τ:Sm}{q:Bool}{k:Rs}{vs:List Value}(hk:k.same)(h:EV τ q k vs):EV τ false k vs:=by
 cases q with
 | false=>exact h
 | true=>
  cases k with
  | rc t=>
   have h':RV τ (Lt t) vs:=h
   rw[show Lt t=(Dt t).2 from hk]at h'
   exact h'
  | _=>exact h
def Tg (τ:Sm):Prop:=∀b s,τ b=some s->s.q=false
theorem aHk {τ:Sm}{g u:Nat}{s:So}(h:τ g=some s)(hu:s.u<=u):Sub τ (upd τ g { s with u:=u }):=fun b s0 hb=>by
 by_cases hn:b=g
 .
  subst hn;rw[h]at hb;cases hb;exact⟨_,oB _ _ _,rfl,rfl,hu⟩
 .
  exact⟨s0,(iH hn).trans hb,rfl,rfl,zB0 _⟩
theorem TH.lt {τ:Sm}{w:World}(h:TH τ w){b:Nat}{s:So}(hb:τ b=some s):b<w.heap.size:=by
 obtain⟨cs,fl,e,_⟩:=(h b s hb).blk;exact(zJ0.1 e).1
theorem TH.fresh {τ:Sm}{w:World}(h:TH τ w){b:Nat}(hb:w.heap.size<=b):τ b=none:=by
 cases e:τ b with
 | none=>rfl
 | some s=>have:=h.lt e;omega
theorem aKq.on {τ τ':Sm}{w w':World}{b:Nat}{s:So}(h:aKq τ w b s)(hs:Sub τ τ')(he:w'.heap[b]?=w.heap[b]?):aKq τ' w' b s:=by
 obtain⟨cs,fl,e,r⟩:=h.blk
 refine⟨⟨cs,fl,he.trans e,r⟩,h.u,h.c,fun i hi=>?_⟩
 obtain⟨vs,h1,h2,h3⟩:=h.el i hi
 exact⟨vs,h1,h2.sub hs,fun j v hv=>(World.cell?_of_block he).trans (h3 j v hv)⟩
theorem TH.on {τ:Sm}{w w':World}(h:TH τ w)(he:∀b s,τ b=some s->w'.heap[b]?=w.heap[b]?):TH τ w':=fun b s hb=>(h b s hb).on (Sub.refl _) (he b s hb)
theorem TH.upd {τ:Sm}{w w':World}{g:Nat}{s:So}(h:TH τ w)(hs:Sub τ (upd τ g s))(he:∀b,b ≠ g->b<w.heap.size->w'.heap[b]?=w.heap[b]?)(hr:aKq (upd τ g s) w' g s):TH (upd τ g s) w':=fun b s0 hb=>by
 by_cases hn:b=g
 .
  subst hn;rw[oB]at hb;cases hb;exact hr
 .
  rw[iH hn]at hb;exact(h b s0 hb).on hs (he b hn (h.lt hb))
theorem SV.get {τ:Sm}{w:World}{k:Rs}{n:Nat}{v:Value}(hT:TH τ w)(h:SV τ k n v)(hn:0<n):
  ∃b j c s,v=.slice (some ⟨b,j*k.k,none⟩) n c/\n<=c/\c<=maxLen/\τ b=some s/\s.k=k/\j+n<=s.u/\b<w.heap.size/\∀i,i<n->∃vs,EV τ s.q k vs/\∀z u,vs[z]?=some u->w.cell? ⟨b,(j+i)*k.k+z,none⟩=some u:=by
 rcases h with⟨_,h0⟩|⟨b,j,c,s,e,hb,h1,h3,h4,h5⟩
 .
  omega
 .
  subst h1;have hr:=hT b s hb
  refine⟨b,j,c,s,e,h4,by have:=hr.c;omega,hb,rfl,h3,hT.lt hb,fun i hi=>?_⟩
  obtain⟨vs,a1,a2,a3⟩:=hr.el (j+i) Q0;exact⟨vs,a2,a3⟩
theorem SV.sh {τ:Sm}{w:World}{k:Rs}{n:Nat}{v:Value}(hT:TH τ w)(h:SV τ k n v):∃a c,v=.slice a n c/\n<=c/\c<=maxLen/\(a=none->c=0):=by
 rcases h with⟨e,h0⟩|⟨b,j,c,s,e,hb,h1,h3,h4,h5⟩
 .
  subst h0;exact⟨_,_,e,zB0 _,zD1 _,fun _=>rfl⟩
 .
  have:=(hT b s hb).c
  exact⟨_,_,e,h4,by omega,fun h=>by cases h⟩
theorem SV.nil {τ:Sm}(k:Rs):SV τ k 0 (.slice none 0 0):=.inl ⟨rfl,rfl⟩
theorem lJ {k:Nat}:∀(l:List (List Value)),(∀us ∈ l,us.length=k)->l.flatten.length=l.length*k:=by
 intro l
 induction l with
 | nil=>intro _;simp
 | cons x l ih=>intro h;rw[List.flatten_cons,zA1,h x Q9,ih fun us hu=>h us (by simp[hu]),zB1,Nat.add_mul];omega
theorem oZ {k:Nat}:∀(l:List (List Value)) (i:Nat) (us:List Value) (j:Nat) (v:Value),(∀us ∈ l,us.length=k)->l[i]?=some us->us[j]?=some v->l.flatten[i*k+j]?=some v:=by
 intro l
 induction l with
 | nil=>intro i us j v _ h;simp at h
 | cons x l ih=>
  intro i us j v h hi hj;have hx:=h x Q9
  cases i with
  | zero=>
   simp only[List.getElem?_cons_zero,zG2]at hi;subst hi;rw[List.flatten_cons,Nat.zero_mul,zJ2,List.getElem?_append_left (zC1.1 hj).1];exact hj
  | succ i=>
   rw[List.getElem?_cons_succ]at hi
   have:=ih i us j v (fun us hu=>h us (by simp[hu])) hi hj
   rw[List.flatten_cons,Nat.add_mul,Nat.one_mul,List.getElem?_append_right Q0,<-this]
   congr 1
   omega
theorem aLc {τ:Sm}{w:World}{g m:Nat}{k:Rs}{vs:List Value}{xss:List (List Value)}(hb:Blk w g k.ty vs)(hv:vs=xss.flatten)(hm:xss.length=m)(hx:∀us ∈ xss,EV τ false k us)(hc:m<=maxLen):aKq τ w g ⟨k,false,m,m⟩:=by
 have hx':∀us ∈ xss,us.length=k.k:=fun us hu=>(hx us hu).length
 refine⟨⟨_,_,hb,fun _=>rfl, ?_⟩,zB0 _,hc,fun i hi=>?_⟩
 .
  show vs.toArray.size=m*k.k
  rw[List.size_toArray,hv,lJ _ hx',hm]
 .
  have hi':i<xss.length:=by rw[hm];exact hi
  have hmem:=List.getElem_mem hi'
  refine⟨xss[i],hx' _ hmem,hx _ hmem,fun j v hv'=>hb.cell ?_⟩
  rw[hv];exact oZ _ i _ j v hx' (zA0 hi') hv'
end Eg
end Go.Proofs.YtffphdacgblaoaaGreatDoor

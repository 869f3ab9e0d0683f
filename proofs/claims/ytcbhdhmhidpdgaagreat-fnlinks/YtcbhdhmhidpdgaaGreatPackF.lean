import Derived.Test.YtcbhdhmhidpdgaaGreatPackE
import Derived.ArgAppend
import Derived.Deep.Upon
import Derived.Lib.AppendStr
import Derived.Deep.RegionHeld3
import Derived.Lib.ItoaNum
import Derived.Lib.AppendIntMem
namespace Go.Proofs.YtcbhdhmhidpdgaaGreat
open Go.RowKit
set_option linter.unusedVariables false
set_option linter.unusedSimpArgs false
set_option maxRecDepth 100000
section
theorem A37{p:Prop}(h:p:=by intro k hk;cases hk):p:=h
theorem QA135{p:Prop}(h:p:=by
 go_ret
 exact⟨_,rfl,zB0 _,HC.out _,(zD2 _ _).alloc (zB0 _) _⟩):p:=h
variable{g:Nat}{w w':World}
theorem Cur.kept{row:Option Nat}(h:Cur w g)(hg:w.grownBy w' row)(hr:∀k,row=some k->g<k):Cur w' g:=by
 obtain⟨a,n,c,l,i,h,hb,Tp,hi1,hn,hl,Bu,hc⟩:=h;have Ad:g<w.heap.size:=(zI3.1 hb).1;refine⟨a,n,c,l,i,h,by rw[hg.block g Ad (fun e=>by have:=hr g e.symm;omega)];exact hb,Tp,hi1,hn,hl,Bu,fun hp=>?_⟩;obtain⟨b,off,e,Lr,Gn⟩:=hc hp;exact⟨b,off,e,Lr,fun j hj=>hg.cell (Gn j hj) (fun e=>by have:=hr b e.symm;omega)⟩
theorem Cur.lt(h:Cur w g):g<w.heap.size:=by
 obtain⟨a,n,c,l,i,h,hb,_⟩:=h;exact(zI3.1 hb).1
theorem Cur.alloc {w:World}{g:Nat}(h:Cur w g)(o:Obj):Cur (w.alloc o) g:=h.kept (World.grownBy_alloc w o none) A37
theorem cN{w1 w2:World}{row:Option Nat}(h1:w.grownBy w1 (some g))(h2:w1.grownBy w2 row)(hr:∀k,row=some k->w.heap.size<=k):w.grownBy w2 (some g):=
 ⟨h2.os.trans h1.os,h2.tape.trans h1.tape,h2.output.trans h1.output,zF2 h1.size h2.size,fun b hb Ae=>(h2.block b (Nat.lt_of_lt_of_le hb h1.size) (fun e=>by have:=hr b e.symm;omega)).trans (h1.block b hb Ae)⟩
theorem Below.drawn{B:Nat}{w0:World}(h:Below B w0 w)(hd:w.grownBy w' (some g))(hB:B<=w.heap.size)(hg:B<=g):Below B w0 w':=
 h.grown hd hB (by intro k hk;cases hk;exact hg)
set_option maxRecDepth 100000 in
set_option maxHeartbeats 2000000 in
theorem aV2 (a:Option Addr)(n c:Nat)(l:List Int)(w:World)(h:aV w a n l)(hn:n<=9223372036854775807):
  Calls Tryz.prog 8 #[.slice a n c] w fun e w'=>∃g,e=.returned (.pointer (some ⟨g,0,none⟩))/\w.heap.size<=g/\Cur w' g/\Below w.heap.size w w':=by
 have Fx:∀hh:Int,Cur (w.alloc (.cells #[.slice a n c,.int .i64 0,.int .i64 hh] 71)) w.heap.size:=by
  intro hh;refine⟨a,n,c,l,0,hh,zJ0 w _,by omega,by omega,hn,h.1,h.2.1,fun hp=>?_⟩;obtain⟨b,off,e,hc⟩:=h.2.2 hp;have Ck:b<w.heap.size:=zI2 w _ (hc 0 hp);exact⟨b,off,e,Ck,fun j hj=>by rw[((zD2 w.heap.size w).alloc (zB0 _) _).cell (p:=⟨b,off+j,none⟩) Ck];exact hc j hj⟩
 have HC:=hid Fx;clear Fx;obtain⟨_,Bu,hc⟩:=h;have ha30:=aUv;rcases zG0 n with h0|Dj
 .
  subst h0;clear hc Bu;go_enter Tryz.func8,Tryz.ntmps8;go_wp2;refine zH1 1 ?_;rw[zE2];go_wp2;exact QA135
 .
  obtain⟨b,off,rfl,hd⟩:=hc Dj;clear hc;go_enter Tryz.func8,Tryz.ntmps8;go_wp2;go_loop [3,4] (fun hh i=>∃(j:Nat) (q:Int),j<=n/\i=.int .i64 j/\hh=.int .i64 q) (fun _ i=>n-(intOf i).toNat)
  case atStart=>exact⟨0,_,zD1 _,rfl,rfl⟩
  case round=>
   obtain⟨j,q,hj,rfl,rfl⟩:=hrel;by_cases Ad:j<n/\j<4000
   .
    obtain⟨Ad,hlt2⟩:=Ad;have hx:=hd j Ad;have hb:=kM Bu j;clear hd;go_wp2;go_round
    case rel=>exact⟨j+1,_,by omega,by go_num,rfl⟩
    case measure=>simp[intOf];omega
   .
    clear hd;by_cases Ad:j<n;all_goals
     go_wp2;exact QA135
structure aRi (w w':World) (g:Nat) (a:Option Addr) (n c:Nat) (l:List Int):Prop where
 own:Own w' w.heap.size (.slice a n c) n l
 row:aV w' a n l
 cap:n<=c
 most:c<=maxLen
 nil:a=none->c=0
 block:∀k,(Value.slice a n c).ownBlock=some k->w.heap.size<=k/\k<w'.heap.size
 drawn:qM w w' g
theorem Own.madeD{v:Value}{n:Nat}{l:List Int}(h:Own w' w.heap.size v n l)(hd:qM w w' g):∃a c,v=.slice a n c/\aRi w w' g a n c l:=by
 have Ej:∀c,v=.slice none n c->c=0:=by
  exact QA70
 obtain⟨a,c,rfl,h1,h2,h3,h4⟩:=h.shape;exact⟨a,c,rfl,h,h3,h1,h2,fun e=>Ej c A86,h4,hd⟩
end
section
namespace Eg
variable{vs:List Value}{g m:Nat}{v:Value}{w w':World}
inductive Fd where
 | n|t|b (m:Nat)|i (m:Nat)|l (t lo m:Nat)
 deriving DecidableEq
def Dt:Nat->TypeId × List Fd
 | 0=>(22,[.b 4])| 1=>(123,[.b 4,.n])| 2=>(143,[.b 4,.t])| 3=>(114,[.b 4,.i 3])| 4=>(75,[.b 4,.l 3 0 3])| 5=>(147,[.n,.n,.b 4,.b 4,.l 0 0 0])| 6=>(147,[.n,.n,.b 4,.b 4,.l 5 0 3])| 7=>(147,[.n,.n,.b 4,.b 4,.l 6 0 3])| 8=>(147,[.n,.n,.b 4,.b 4,.l 7 0 3])| 9=>(150,[.n,.n,.b 4,.l 8 0 2,.l 0 0 0,.l 0 0 0])| 10=>(150,[.n,.n,.b 4,.l 8 0 2,.l 9 0 3,.l 9 0 1])| 11=>(150,[.n,.n,.b 4,.l 8 0 2,.l 10 0 4,.l 10 0 2])| 12=>(111,[.b 4,.t,.l 2 0 3,.l 0 0 2,.l 11 0 11])| 13=>(81,[.b 4,.l 0 0 2,.l 1 0 3,.l 12 1 3])| 14=>(150,[.n,.n,.b 4,.l 8 0 2,.l 10 0 4,.l 10 0 2])| 15=>(111,[.b 4,.t,.l 2 0 3,.l 0 0 2,.l 14 0 11])| 16=>(81,[.b 4,.l 0 0 3,.l 1 0 4,.l 15 1 3])| 17=>(81,[.b 4,.l 0 0 2,.l 1 0 3,.l 15 1 3])| 18=>(68,[.b 4,.n,.n])| 19=>(87,[.b 4,.b 4,.n])| 20=>(36,[.b 4,.l 18 0 8,.l 19 0 8,.n,.b 9001])| 21=>(126,[.n,.n,.n,.n,.n,.n])| 22=>(99,[.i 3])| 23=>(4,[.t])| 24=>(81,[.b 4,.l 0 0 2,.l 1 0 3,.l 12 0 3])| _=>(22,[.b 4])
def Lt:Nat->List Fd
 | 14=>[.n,.n,.b 4,.l 8 0 3,.l 10 0 4,.l 10 0 2]| 15=>[.b 4,.t,.l 2 0 4,.l 0 0 3,.l 14 0 11]| 20=>[.b 4,.l 18 0 8,.l 19 0 9,.n,.b 9001]| t=>(Dt t).2
inductive Rs where
 | bt|ii|st|rc (t:Nat)
 deriving DecidableEq
def Rs.k:Rs->Nat
 | .rc t=>(Dt t).2.length| _=>1
def Rs.ty:Rs->TypeId
 | .bt=>5| .ii=>3| .st=>9| .rc t=>(Dt t).1
theorem Rs.k0 (k:Rs):0<k.k:=by
 cases k with
 | rc t=>
  show 0<(Dt t).2.length
  unfold Dt;split <;> decide
 | _=>decide
structure So where
 k:Rs
 q:Bool
 u:Nat
 c:Nat
abbrev Sm:=Nat->Option So
def SV (τ:Sm)(k:Rs)(n:Nat)(v:Value):Prop:=
 (v=.slice none 0 0/\n=0)\/∃b j c s,v=.slice (some ⟨b,j*k.k,none⟩) n c/\τ b=some s/\s.k=k/\j+n<=s.u/\n<=c/\j+c<=s.c
def I64 (x:Int):Prop:=-9223372036854775808<=x/\x<=9223372036854775807
def FV (τ:Sm):Fd->Value->Prop
 | .n,v=>∃x,v=.int .i64 x/\I64 x| .t,v=>∃x,v=.bool x| .b m,v=>∃n,n<=m/\SV τ .bt n v| .i m,v=>∃n,n<=m/\SV τ .ii n v| .l t lo m,v=>∃n,(lo<=n/\n<=m)/\SV τ (.rc t) n v
def RV (τ:Sm):List Fd->List Value->Prop
 | [],vs=>vs=[]| f :: r,vs=>∃v us,vs=v :: us/\FV τ f v/\RV τ r us
def EV (τ:Sm)(q:Bool):Rs->List Value->Prop
 | .bt,vs=>∃x,vs=[.int .u8 x]/\0<=x/\x<=255| .ii,vs=>∃x,vs=[.int .i64 x]/\I64 x| .st,vs=>∃s,vs=[.string s]/\s.size<=4| .rc t,vs=>RV τ (if q then Lt t else (Dt t).2) vs
structure aKq (τ:Sm) (w:World) (b:Nat) (s:So):Prop where
 blk:∃cs fl,w.heap[b]?=some (.cells cs s.k.ty fl)/\(s.k ≠ .bt->fl=(0,0))/\cs.size=s.c*s.k.k
 u:s.u<=s.c
 c:s.c<=maxLen
 el:∀i,i<s.u->∃vs,vs.length=s.k.k/\EV τ s.q s.k vs/\∀j v,vs[j]?=some v->w.cell? ⟨b,i*s.k.k+j,none⟩=some v
def TH (τ:Sm)(w:World):Prop:=∀b s,τ b=some s->aKq τ w b s
def Sub (τ τ':Sm):Prop:=∀b s,τ b=some s->∃s',τ' b=some s'/\s'.k=s.k/\s'.c=s.c/\s.u<=s'.u
theorem Sub.refl (τ:Sm):Sub τ τ:=fun b s h=>⟨s,h,rfl,rfl,zB0 _⟩
theorem Sub.trans {A B C:Sm}(h:Sub A B)(h':Sub B C):Sub A C:=fun b s hb=>by
 obtain⟨s1,e1,a1,b1,d1⟩:=h b s hb;obtain⟨s2,e2,a2,b2,d2⟩:=h' b s1 e1;exact⟨s2,e2,a2.trans a1,b2.trans b1,by omega⟩
theorem SV.sub{τ τ':Sm}{k:Rs}{n:Nat}(h:SV τ k n v)(hs:Sub τ τ'):SV τ' k n v:=by
 rcases h with h|⟨b,j,c,s,e,hb,h1,h3,h4,h5⟩
 .
  exact .inl h
 .
  obtain⟨s',e',a1,a3,a4⟩:=hs b s hb;exact .inr ⟨b,j,c,s',e,e',a1.trans h1,by omega,h4,by omega⟩
theorem FV.sub {τ τ':Sm}(hs:Sub τ τ'):∀{f:Fd} {v:Value},FV τ f v->FV τ' f v
 | .n,_,h=>h| .t,_,h=>h| .b _,_,⟨n,h,h'⟩=>⟨n,h,h'.sub hs⟩| .i _,_,⟨n,h,h'⟩=>⟨n,h,h'.sub hs⟩| .l _ _ _,_,⟨n,h,h'⟩=>⟨n,h,h'.sub hs⟩
theorem RV.sub {τ τ':Sm}(hs:Sub τ τ'):∀{r:List Fd} {vs:List Value},RV τ r vs->RV τ' r vs
 | [],_,h=>h| _ :: _,_,⟨v,us,e,h2,h3⟩=>⟨v,us,e,FV.sub hs h2,RV.sub hs h3⟩
theorem EV.sub {τ τ':Sm}(hs:Sub τ τ'){q:Bool}{k:Rs}{vs:List Value}(h:EV τ q k vs):EV τ' q k vs:=by
 cases k with
 | rc t=>exact RV.sub hs h| _=>exact h
theorem SV.one{τ:Sm}{k:Rs}{n:Nat}(h:SV τ k n v):v.oneCell'=true:=by
 rcases h with⟨e,_⟩|⟨b,j,c,s,e,_⟩
 .
  rw[e];rfl
 .
  rw[e];rfl
theorem FV.one {τ:Sm}:∀{f:Fd} {v:Value},FV τ f v->v.oneCell'=true
 | .n,_,⟨x,e,_⟩=>by rw[e];rfl
 | .t,_,⟨x,e⟩=>by rw[e];rfl
 | .b _,_,⟨n,_,h⟩=>h.one| .i _,_,⟨n,_,h⟩=>h.one| .l _ _ _,_,⟨n,_,h⟩=>h.one
theorem RV.one {τ:Sm}:∀{r:List Fd} {vs:List Value},RV τ r vs->∀u ∈ vs,u.oneCell'=true
 | [],_,h,u,hu=>by rw[show _=[] from h]at hu;cases hu
 | _ :: _,_,⟨v,us,e,h2,h3⟩,u,hu=>by
  rw[e]at hu;rcases zG3.1 hu with rfl|hu
  .
   exact FV.one h2
  .
   exact RV.one h3 u hu
theorem RV.length {τ:Sm}:∀{r:List Fd} {vs:List Value},RV τ r vs->vs.length=r.length
 | [],_,h=>by rw[show _=[] from h];rfl
 | _ :: _,_,⟨v,us,e,h2,h3⟩=>by rw[e,zB1,zB1,RV.length h3]
theorem RV.get {τ:Sm}:∀{r:List Fd} {vs:List Value},RV τ r vs->∀{i:Nat} {f:Fd},r[i]?=some f->∃v,vs[i]?=some v/\FV τ f v
 | [],_,_,i,f,h=>by simp at h
 | _ :: _,_,⟨v,us,e,h2,h3⟩,i,f,h=>by
  subst e;cases i with
  | zero=>simp only[List.getElem?_cons_zero,zG2]at h;subst h;exact⟨v,rfl,h2⟩| succ i=>rw[List.getElem?_cons_succ]at h ⊢;exact RV.get h3 h
theorem RV.set {τ:Sm}:∀{r:List Fd} {vs:List Value},RV τ r vs->∀{i:Nat} {f:Fd} {u:Value},r[i]?=some f->FV τ f u->RV τ r (vs.set i u)
 | [],_,_,i,f,u,h,_=>by simp at h
 | _ :: _,_,⟨v,us,e,h2,h3⟩,i,f,u,h,hu=>by
  subst e;cases i with
  | zero=>simp only[List.getElem?_cons_zero,zG2]at h;subst h;exact⟨u,us,rfl,hu,h3⟩| succ i=>rw[List.getElem?_cons_succ]at h;exact⟨v,_,rfl,h2,RV.set h3 h hu⟩
theorem EV.one {τ:Sm}{q:Bool}{k:Rs}{vs:List Value}(h:EV τ q k vs):∀u ∈ vs,u.oneCell'=true:=by
 cases k with
 | rc t=>exact RV.one h| bt=>obtain⟨x,rfl,_⟩:=h;intro u hu;simp at hu;rw[hu];rfl| ii=>obtain⟨x,rfl,_⟩:=h;intro u hu;simp at hu;rw[hu];rfl| st=>obtain⟨x,rfl,_⟩:=h;intro u hu;simp at hu;rw[hu];rfl
theorem vW (t:Nat):(Lt t).length=(Dt t).2.length:=by
 unfold Lt;split <;> rfl
theorem EV.length {τ:Sm}{q:Bool}{k:Rs}{vs:List Value}(h:EV τ q k vs):vs.length=k.k:=by
 cases k with
 | rc t=>
  have:=RV.length h;cases q with
  | true=>exact this.trans (vW t)| false=>exact this
 | bt=>obtain⟨x,rfl,_⟩:=h;rfl| ii=>obtain⟨x,rfl,_⟩:=h;rfl| st=>obtain⟨x,rfl,_⟩:=h;rfl
def upd (τ:Sm)(g:Nat)(s:So):Sm:=fun b=>if b=g then some s else τ b
theorem lU (τ:Sm)(g:Nat)(s:So):upd τ g s g=some s:=if_pos rfl
theorem eJ{τ:Sm}{b:Nat}{s:So}(h:b ≠ g):upd τ g s b=τ b:=if_neg h
theorem rN{τ:Sm}{s:So}(h:τ g=none):Sub τ (upd τ g s):=fun b s0 hb=>by
 have hn:b ≠ g:=by rintro rfl;rw[h]at hb;cases hb
 exact⟨s0,(eJ hn).trans hb,rfl,rfl,zB0 _⟩
theorem FV.loose{τ:Sm}{t lo lo' m':Nat}(h:FV τ (.l t lo m) v)(h1:lo'<=lo)(h2:m<=m'):FV τ (.l t lo' m') v:=by
 obtain⟨n,⟨a,b⟩,h'⟩:=h;exact⟨n,⟨by omega,by omega⟩,h'⟩
theorem RV.loose {τ:Sm}{t:Nat}{vs:List Value}(h:RV τ (Dt t).2 vs):RV τ (Lt t) vs:=by
 unfold Lt;split
 .
  obtain⟨v0,_,rfl,h0,v1,_,rfl,h1,v2,_,rfl,h2,v3,_,rfl,h3,v4,_,rfl,h4,v5,_,rfl,h5,rfl⟩:=h;exact⟨v0,_,rfl,h0,v1,_,rfl,h1,v2,_,rfl,h2,v3,_,rfl,FV.loose h3 A0 A0,v4,_,rfl,h4,v5,_,rfl,h5,rfl⟩
 .
  obtain⟨v0,_,rfl,h0,v1,_,rfl,h1,v2,_,rfl,h2,v3,_,rfl,h3,v4,_,rfl,h4,rfl⟩:=h;exact⟨v0,_,rfl,h0,v1,_,rfl,h1,v2,_,rfl,FV.loose h2 A0 A0,v3,_,rfl,FV.loose h3 A0 A0,v4,_,rfl,h4,rfl⟩
 .
  obtain⟨v0,_,rfl,h0,v1,_,rfl,h1,v2,_,rfl,h2,v3,_,rfl,h3,v4,_,rfl,h4,rfl⟩:=h;exact⟨v0,_,rfl,h0,v1,_,rfl,h1,v2,_,rfl,FV.loose h2 A0 A0,v3,_,rfl,h3,v4,_,rfl,h4,rfl⟩
 .
  exact h
theorem EV.loose {τ:Sm}{q:Bool}{k:Rs}{vs:List Value}(h:EV τ false k vs):EV τ q k vs:=by
 cases q with
 | false=>exact h| true=>
  cases k with
  | rc t=>exact RV.loose h| _=>exact h
def Rs.same:Rs->Prop
 | .rc t=>Lt t=(Dt t).2| _=>True
theorem EV.tight{τ:Sm}{q:Bool}{k:Rs}(hk:k.same)(h:EV τ q k vs):EV τ false k vs:=by
 cases q with
 | false=>exact h| true=>
  cases k with
  | rc t=>
   have h':RV τ (Lt t) vs:=h;rw[show Lt t=(Dt t).2 from hk]at h';exact h'
  | _=>exact h
def Tg (τ:Sm):Prop:=∀b s,τ b=some s->s.q=false
theorem aGp{τ:Sm}{u:Nat}{s:So}(h:τ g=some s)(hu:s.u<=u):Sub τ (upd τ g { s with u:=u }):=fun b s0 hb=>by
 by_cases hn:b=g
 .
  subst hn;rw[h]at hb;cases hb;exact⟨_,lU _ _ _,rfl,rfl,hu⟩
 .
  exact⟨s0,(eJ hn).trans hb,rfl,rfl,zB0 _⟩
theorem TH.lt{τ:Sm}(h:TH τ w){b:Nat}{s:So}(hb:τ b=some s):b<w.heap.size:=by
 obtain⟨cs,fl,e,_⟩:=(h b s hb).blk;exact(zI3.1 e).1
theorem TH.fresh{τ:Sm}(h:TH τ w){b:Nat}(hb:w.heap.size<=b):τ b=none:=by
 cases e:τ b with
 | none=>rfl| some s=>have:=h.lt e;omega
theorem aKq.on{τ τ':Sm}{b:Nat}{s:So}(h:aKq τ w b s)(hs:Sub τ τ')(he:w'.heap[b]?=w.heap[b]?):aKq τ' w' b s:=by
 obtain⟨cs,fl,e,r⟩:=h.blk;refine⟨⟨cs,fl,he.trans e,r⟩,h.u,h.c,fun i hi=>?_⟩;obtain⟨vs,h1,h2,h3⟩:=h.el i hi;exact⟨vs,h1,h2.sub hs,fun j v hv=>(World.cell?_of_block he).trans (h3 j v hv)⟩
theorem TH.on {τ:Sm}{w w':World}(h:TH τ w)(he:∀b s,τ b=some s->w'.heap[b]?=w.heap[b]?):TH τ w':=fun b s hb=>(h b s hb).on (Sub.refl _) (he b s hb)
theorem TH.upd{τ:Sm}{s:So}(h:TH τ w)(hs:Sub τ (upd τ g s))(he:∀b,b ≠ g->b<w.heap.size->w'.heap[b]?=w.heap[b]?)(hr:aKq (upd τ g s) w' g s):TH (upd τ g s) w':=fun b s0 hb=>by
 by_cases hn:b=g
 .
  subst hn;rw[lU]at hb;cases hb;exact hr
 .
  rw[eJ hn]at hb;exact(h b s0 hb).on hs (he b hn (h.lt hb))
theorem SV.get{τ:Sm}{k:Rs}{n:Nat}(hT:TH τ w)(h:SV τ k n v)(hn:0<n):
  ∃b j c s,v=.slice (some ⟨b,j*k.k,none⟩) n c/\n<=c/\c<=maxLen/\τ b=some s/\s.k=k/\j+n<=s.u/\b<w.heap.size/\∀i,i<n->∃vs,EV τ s.q k vs/\∀z u,vs[z]?=some u->w.cell? ⟨b,(j+i)*k.k+z,none⟩=some u:=by
 rcases h with⟨_,h0⟩|⟨b,j,c,s,e,hb,h1,h3,h4,h5⟩
 .
  omega
 .
  subst h1;have hr:=hT b s hb;refine⟨b,j,c,s,e,h4,by have:=hr.c;omega,hb,rfl,h3,hT.lt hb,fun i hi=>?_⟩;obtain⟨vs,a1,a2,a3⟩:=hr.el (j+i) A0;exact⟨vs,a2,a3⟩
theorem SV.sh{τ:Sm}{k:Rs}{n:Nat}(hT:TH τ w)(h:SV τ k n v):∃a c,v=.slice a n c/\n<=c/\c<=maxLen/\(a=none->c=0):=by
 rcases h with⟨e,h0⟩|⟨b,j,c,s,e,hb,h1,h3,h4,h5⟩
 .
  subst h0;exact⟨_,_,e,zB0 _,zD1 _,fun _=>rfl⟩
 .
  have:=(hT b s hb).c;exact⟨_,_,e,h4,by omega,fun h=>by cases h⟩
theorem SV.nil{τ:Sm}(k:Rs):SV τ k 0 (.slice none 0 0):=.inl ⟨rfl,rfl⟩
theorem flat_len{k:Nat}:∀(l:List (List Value)),(∀us ∈ l,us.length=k)->l.flatten.length=l.length*k:=by
 intro l;induction l with
 | nil=>intro _;simp| cons x l ih=>intro h;rw[List.flatten_cons,zA1,h x A9,ih fun us hu=>h us (by simp[hu]),zB1,Nat.add_mul];omega
theorem flat_get{k:Nat}:∀(l:List (List Value)) (i:Nat) (us:List Value) (j:Nat) (v:Value),(∀us ∈ l,us.length=k)->l[i]?=some us->us[j]?=some v->l.flatten[i*k+j]?=some v:=by
 intro l;induction l with
 | nil=>intro i us j v _ h;simp at h| cons x l ih=>
  intro i us j v h hi hj;have hx:=h x A9;cases i with
  | zero=>
   simp only[List.getElem?_cons_zero,zG2]at hi;subst hi;rw[List.flatten_cons,Nat.zero_mul,zJ1,List.getElem?_append_left (zC1.1 hj).1];exact hj
  | succ i=>
   rw[List.getElem?_cons_succ]at hi;have:=ih i us j v (fun us hu=>h us (by simp[hu])) hi hj;rw[List.flatten_cons,Nat.add_mul,Nat.one_mul,List.getElem?_append_right A0,<-this];congr 1;omega
theorem aLj{τ:Sm}{k:Rs}{xss:List (List Value)}(hb:Blk w g k.ty vs)(hv:vs=xss.flatten)(hm:xss.length=m)(hx:∀us ∈ xss,EV τ false k us)(hc:m<=maxLen):aKq τ w g ⟨k,false,m,m⟩:=by
 have Gh:∀us ∈ xss,us.length=k.k:=fun us hu=>(hx us hu).length;refine⟨⟨_,_,hb,fun _=>rfl, ?_⟩,zB0 _,hc,fun i hi=>?_⟩
 .
  show vs.toArray.size=m*k.k
  rw[List.size_toArray,hv,flat_len _ Gh,hm]
 .
  have hi':i<xss.length:=by rw[hm];exact hi
  have Ek:=List.getElem_mem hi';refine⟨xss[i],Gh _ Ek,hx _ Ek,fun j v Xh=>hb.cell ?_⟩;rw[hv];exact flat_get _ i _ j v Gh (zA0 hi') Xh
end Eg
end
section
theorem A71{p:Prop}(h:p:=by rw[Ay.2.2.2];exact zB0 _):p:=h
theorem A80{p:Prop}(h:p:=by rw[e];rfl):p:=h
theorem QA100{p:Prop}(h:p:=by
 rcases List.mem_append.1 hu with hu|hu
 .
  exact h2 us hu
 .
  rw[List.mem_singleton.1 hu];exact a2):p:=h
namespace Eg
variable{τ τ':Sm}{w w':World}
theorem heap_setCells_other (b:Nat):∀(vs:List Value) (o:Nat) (w:World) (k:Nat),k ≠ b->(w.setCells b o vs).heap[k]?=w.heap[k]?
 | [],_,_,_,_=>rfl| v :: r,o,w,k,h=>by rw[World.setCells,heap_setCells_other b r (o+1) _ k h,heap_setCell_other w ⟨b,o,none⟩ k v h]
theorem setCells_same (b:Nat):∀(vs:List Value) (o:Nat) (w:World),(w.setCells b o vs).os=w.os/\(w.setCells b o vs).tape=w.tape/\(w.setCells b o vs).output=w.output/\(w.setCells b o vs).heap.size=w.heap.size
 | [],_,_=>⟨rfl,rfl,rfl,rfl⟩| v :: r,o,w=>by
  have h:=setCells_same b r (o+1) (w.setCell ⟨b,o,none⟩ v);have h0:=(zD2 0 w).setCell (p:=⟨b,o,none⟩) (zD1 _) v;rw[World.setCells];exact⟨h.1.trans h0.os,h.2.1.trans h0.tape,h.2.2.1.trans h0.output,h.2.2.2.trans A9⟩
theorem iU (b:Nat)(T:TypeId):∀(vs:List Value) (o:Nat) (w:World) (cs:Array Value),w.heap[b]?=some (.cells cs T (0,0))->∃Rf,(w.setCells b o vs).heap[b]?=some (.cells Rf T (0,0))/\Rf.size=cs.size
 | [],_,w,cs,h=>⟨cs,h,rfl⟩| v :: r,o,w,cs,h=>by
  have h1:=heap_setCell_same w b o cs T v h;obtain⟨Rf,a,c⟩:=iU b T r (o+1) _ _ h1;exact⟨Rf,a,c.trans A9⟩
theorem nH{b i:Nat}{cs:Array Value}{T:TypeId}{fl:Nat × Nat}(h:w.heap[b]?=some (.cells cs T fl))(hi:i<cs.size):(w.cell? ⟨b,i,none⟩).isSome=true:=by
 rw[cell_of_row w b i _ _ fl h];simp[hi]
structure Cx where
 st:Bool
 K:List Nat
 τ0:Sm
 w0:World
structure Fr (C:Cx) (τ:Sm) (w:World):Prop where
 th:TH τ w
 sub:Sub C.τ0 τ
 os:w.os=C.w0.os
 tape:w.tape=C.w0.tape
 output:w.output=C.w0.output
 size:C.w0.heap.size<=w.heap.size
 non:∀b,b<C.w0.heap.size->C.τ0 b=none->τ b=none
 blk:∀b,b<C.w0.heap.size->C.τ0 b=none->b ∉ C.K->w.heap[b]?=C.w0.heap[b]?
 str:C.st=true->∀b,b<C.w0.heap.size->C.τ0 b ≠ none->τ b=C.τ0 b/\w.heap[b]?=C.w0.heap[b]?
structure Mv (C:Cx) (K:List Nat) (τ:Sm) (w:World) (τ':Sm) (w':World):Prop where
 fr:Fr C τ' w'
 sub:Sub τ τ'
 size:w.heap.size<=w'.heap.size
 non:∀b,b<w.heap.size->τ b=none->τ' b=none
 blk:∀b,b<w.heap.size->τ b=none->b ∉ K->w'.heap[b]?=w.heap[b]?
 tg:Tg τ->Tg τ'
theorem Fr.step{C:Cx}(h:Fr C τ w)(K:List Nat)(th:TH τ' w')(sub:Sub τ τ')(os:w'.os=w.os)(tape:w'.tape=w.tape)(out:w'.output=w.output)(size:w.heap.size<=w'.heap.size)
  (non:∀b,b<w.heap.size->τ b=none->τ' b=none) (blk:∀b,b<w.heap.size->τ b=none->b ∉ K->w'.heap[b]?=w.heap[b]?)
  (typed:C.st=true->∀b,b<C.w0.heap.size->τ b ≠ none->τ' b=τ b/\w'.heap[b]?=w.heap[b]?) (hK:∀b ∈ K,b<C.w0.heap.size->b ∈ C.K) (tg:Tg τ->Tg τ'):Mv C K τ w τ' w':=
 ⟨⟨th,h.sub.trans sub,os.trans h.os,tape.trans h.tape,out.trans h.output,zF2 h.size size,fun b hb hn=>non b (Nat.lt_of_lt_of_le hb h.size) (h.non b hb hn),
  fun b hb hn hk=>(blk b (Nat.lt_of_lt_of_le hb h.size) (h.non b hb hn) (fun hm=>hk (hK b hm hb))).trans (h.blk b hb hn hk),
  fun hst b hb hn=>by
   obtain⟨e1,e2⟩:=h.str hst b hb hn;obtain⟨e3,e4⟩:=typed hst b hb (by rw[e1];exact hn);exact⟨e3.trans e1,e4.trans e2⟩⟩,sub,size,non,blk,tg⟩
theorem Fr.refl {st:Bool}{K:List Nat}{τ:Sm}{w:World}(h:TH τ w):Fr ⟨st,K,τ,w⟩ τ w:=⟨h,Sub.refl _,rfl,rfl,rfl,zB0 _,fun _ _ h=>h,fun _ _ _ _=>rfl,fun _ _ _ _=>⟨rfl,rfl⟩⟩
theorem Fr.below{C:Cx}(h:Fr C τ w)(hb:Below w.heap.size w w'):Mv C [] τ w τ w':=
 h.step [] (h.th.on fun b s e=>hb.block b (h.th.lt e)) (Sub.refl _) hb.os hb.tape hb.output hb.size (fun _ _ h=>h) (fun b Ad _ _=>hb.block b Ad) (fun _ b Ad _=>⟨rfl,hb.block b (Nat.lt_of_lt_of_le Ad h.size)⟩) (fun _ h=>by cases h) (fun h=>h)
theorem Fr.alloc {C:Cx}{τ:Sm}{w:World}(h:Fr C τ w)(o:Obj):Mv C [] τ w τ (w.alloc o):=h.below ((zD2 _ _).alloc (zB0 _) o)
theorem Fr.same{C:Cx}(h:Fr C τ w):Mv C [] τ w τ w:=h.below (zD2 _ _)
theorem Mv.trans {C:Cx}{K:List Nat}{τ τ' τ2:Sm}{w w' w2:World}(h:Mv C K τ w τ' w')(h':Mv C K τ' w' τ2 w2):Mv C K τ w τ2 w2:=
 ⟨h'.fr,h.sub.trans h'.sub,zF2 h.size h'.size,fun b hb hn=>h'.non b (Nat.lt_of_lt_of_le hb h.size) (h.non b hb hn),
  fun b hb hn hk=>(h'.blk b (Nat.lt_of_lt_of_le hb h.size) (h.non b hb hn) hk).trans (h.blk b hb hn hk),fun ht=>h'.tg (h.tg ht)⟩
theorem Mv.wide{C:Cx}{K:List Nat}(h:Mv C [] τ w τ' w'):Mv C K τ w τ' w':=⟨h.fr,h.sub,h.size,h.non,fun b hb hn _=>h.blk b hb hn A9,h.tg⟩
theorem Tg.upd{g:Nat}{s:So}(h:Tg τ)(hs:s.q=false):Tg (upd τ g s):=fun b s0 hb=>by
 by_cases e:b=g
 .
  subst e;rw[lU]at hb;cases hb;exact hs
 .
  rw[eJ e]at hb;exact h b s0 hb
theorem Fr.row{C:Cx}(h:Fr C τ w){k:Rs}{xss:List (List Value)}{m:Nat}(hm:xss.length=m)(hx:∀us ∈ xss,EV τ false k us)(hc:m<=1000000):
  ∃τ',Mv C [] τ w τ' (w.alloc (.cells xss.flatten.toArray k.ty (0,0)))/\SV τ' k m (.slice (some ⟨w.heap.size,0,none⟩) m m)/\Sub τ τ':=by
 have h1:=h.alloc (.cells xss.flatten.toArray k.ty (0,0));have hn:τ w.heap.size=none:=h.th.fresh (zB0 _);have hs:=rN (s:=⟨k,false,m,m⟩) hn;have hb:=Blk.new w k.ty xss.flatten;refine⟨upd τ w.heap.size ⟨k,false,m,m⟩,h.step [] (h.th.upd hs (fun b Ae Ad=>?_) (aLj hb rfl hm (fun us hu=>(hx us hu).sub hs) A13)) hs rfl rfl rfl h1.size (fun b Ad Be=>(eJ A0).trans Be) (fun b Ad Be _=>h1.blk b Ad Be A9) (fun _ b Ad Be=>?_) (fun _ h=>by cases h) (fun ht=>ht.upd rfl), ?_,hs⟩
 .
  exact(((zD2 w.heap.size w).alloc (zB0 _) _).block b Ad)
 .
  have:=h.size;exact⟨eJ A0,((zD2 w.heap.size w).alloc (zB0 _) _).block b A0⟩
 .
  exact .inr ⟨_,0,m,_,by rw[Nat.zero_mul],lU _ _ _,rfl,by simp,zB0 _,by simp⟩
theorem Fr.app{C:Cx}(hF:Fr C τ w){k:Rs}{n m:Nat}{v x:Value}(h:SV τ k n v)(hx:SV τ k m x)(Dp:Tg τ\/k.same)(hk:k ≠ .bt\/∀a n' c',v=.slice a n' c'->c'=0)(Ak:C.st=true->∀g,v.ownBlock=some g->C.w0.heap.size<=g)
  {t ty bytes:Nat} {z:Value} (info:(Tryz.prog.info? k.ty).map (fun i=>(i.zero,i.size,i.bytes))=some (some z,k.k,bytes)) (ht:Tryz.prog.underlying t=some (.slice k.ty)) (hzs:z.cells.size=k.k) (Bu:bytes<=1000) (hmk:n+m<=1000000):
  ∃v' τ' w',(Builtin.append_ #[t,t] ty #[v,x]).run Tryz.prog w=.ok v' w'/\Mv C [] τ w τ' w'/\SV τ' k (n+m) v'/\(∀g,v'.ownBlock=some g->v.ownBlock=some g\/w.heap.size<=g)/\∀b,b<w.heap.size->some b ≠ v.ownBlock->w'.heap[b]?=w.heap[b]?:=by
 obtain⟨i0,hi,Dc,De,Db⟩:=info_parts info;have hT:=hF.th;have Kr:=k.k0;rcases zG0 m with rfl|Cu
 .
  obtain⟨av,cv,rfl,Ci,_⟩:=h.sh hT;have hs:Src Tryz.prog i0.size t x 0 [] w:=by
   obtain⟨ax,cx,rfl,_⟩:=hx.sh hT;cases ax with
   | none=>exact Src.ofNil w ht cx| some ax=>exact Src.ofSlice w ht ax 0 cx [] A9 A9 A9
  exact⟨_,τ,w,run_append_nothing w t t ty k.ty i0 ht hi av n cv Ci x hs,hF.same,h,fun g hg=>.inl hg,fun _ _ _=>rfl⟩
 obtain⟨bx,jx,cx,sx,rfl,_,_,Ch,_,_,_,hel0⟩:=hx.get hT Cu;have Nk:∀i,i<m->∃vs,EV τ false k vs/\∀z u,vs[z]?=some u->w.cell? ⟨bx,(jx+i)*k.k+z,none⟩=some u:=fun i hi=>by
  obtain⟨vs,h1,h2⟩:=hel0 i hi;refine⟨vs, ?_,h2⟩;rcases Dp with hq|hq
  .
   rw[hq bx sx Ch]at h1;exact h1
  .
   exact h1.tight hq
 obtain⟨xss,hm,Hj,hxc⟩:∃xss:List (List Value),xss.length=m/\(∀us ∈ xss,EV τ false k us)/\∀i u,xss.flatten[i]?=some u->w.cell? ⟨bx,jx*k.k+i,none⟩=some u:=by
  have Cd:∀q,q<=m->∃xss:List (List Value),xss.length=q/\(∀us ∈ xss,EV τ false k us)/\∀i u,xss.flatten[i]?=some u->w.cell? ⟨bx,jx*k.k+i,none⟩=some u:=by
   intro q;induction q with
   | zero=>intro _;exact⟨[],rfl,(fun _ h=>by cases h),(fun i v h=>by simp at h)⟩
   | succ q ih=>
    intro hq;obtain⟨xss,h1,h2,h3⟩:=ih A0;obtain⟨vs,a2,a3⟩:=Nk q A0;refine⟨xss++[vs],by simp[h1],fun us hu=>?_,fun i u hv=>?_⟩
    .
     exact QA100
    .
     have hl:=flat_len xss fun us hu=>(h2 us hu).length;rw[List.flatten_append]at hv;by_cases hi:i<xss.flatten.length
     .
      rw[List.getElem?_append_left hi]at hv;exact h3 i u hv
     .
      rw[List.getElem?_append_right A0]at hv;have:=a3 (i-xss.flatten.length) u (by simpa using hv);rw[h1]at hl;have e:jx*k.k+i=(jx+q)*k.k+(i-xss.flatten.length):=by rw[Nat.add_mul];omega
      rw[e];exact this
  exact Cd m (zB0 _)
 have Af:=flat_len xss fun us hu=>(Hj us hu).length;rw[hm]at Af;have Gj:∀u ∈ xss.flatten,u.oneCell'=true:=fun u hu=>by
  obtain⟨us,h1,h2⟩:=List.mem_flatten.1 hu;exact(Hj us h1).one u h2
 have Oy:∀j u,xss.flatten[j]?=some u->w.cell? ((⟨bx,jx*k.k,none⟩:Addr).add j)=some u:=fun j u hu=>by rw[Addr.add_lit];exact hxc j u hu
 have Ve:(n+m)*bytes<=140737488355328:=by
  have:(n+m)*bytes<=1000000*1000:=Nat.mul_le_mul hmk Bu;omega
 have h63:n+m<=maxLen:=by unfold maxLen;omega
 have grown:∀(v':Value) (w':World) (Fc:List (List Value)),Fc.length=n->(∀us ∈ Fc,EV τ false k us)->w'.ownsRow w.heap.size k.ty k.k v' (n+m) (Fc.flatten++xss.flatten)->w.grownBy w' none →
   ∃τ',Mv C [] τ w τ' w'/\SV τ' k (n+m) v'/\(∀g,v'.ownBlock=some g->v.ownBlock=some g\/w.heap.size<=g)/\∀b,b<w.heap.size->some b ≠ v.ownBlock->w'.heap[b]?=w.heap[b]?:=by
  intro v' w' Fc Xe hy2 ho hg;rcases ho.2 with⟨_,h0⟩|⟨g,cap,cur,rfl,hb,hgh,Hr,Do,Hq,Tu⟩
  .
   omega
  .
   have hn:=hT.fresh hb;have hs:=rN (s:=⟨k,false,n+m,cap⟩) hn;have Bg:=hF.size;refine⟨upd τ g ⟨k,false,n+m,cap⟩,hF.step [] (hT.upd hs (fun b Em Ad=>hg.block b Ad A9) ⟨⟨cur,(0,0),hgh,fun _=>rfl,Hq⟩,Hr,Do,fun i hi'=>?_⟩) hs hg.os hg.tape hg.output hg.size (fun b Ad Be=>(eJ A0).trans Be) (fun b Ad _ _=>hg.block b Ad A9) (fun _ b Ad _=>⟨eJ A0,hg.block b A0 A9⟩) (fun _ h=>by cases h) (fun ht=>ht.upd rfl),.inr ⟨g,0,cap,_,by rw[Nat.zero_mul],lU _ _ _,rfl,by simp,Hr,by simp⟩,(fun g' hg'=>by cases hg';exact .inr hb),fun b Ad _=>hg.block b Ad A9⟩;have Xr:i<(Fc++xss).length:=by rw[zA1,Xe,hm];exact hi'
   have Bl:∀us ∈ Fc++xss,EV τ false k us:=fun us hu=>by
    rcases List.mem_append.1 hu with hu|hu
    .
     exact hy2 us hu
    .
     exact Hj us hu
   refine⟨(Fc++xss)[i],(Bl _ (List.getElem_mem Xr)).length,(Bl _ (List.getElem_mem Xr)).sub hs,fun j u hu=>?_⟩;have e:=flat_get (Fc++xss) i _ j u (fun us hu=>(Bl us hu).length) (zA0 Xr) hu;rw[List.flatten_append,<-Tu,List.getElem?_take]at e;rw[cell_of_row w' g _ _ _ (0,0) hgh];split at e
   .
    simpa using e
   .
    cases e
 rcases h with⟨rfl,rfl⟩|⟨b,j,cv,s,rfl,hb,h1,h3,h4,h5⟩
 .
  obtain⟨v',w',hr,a1,a2,a3⟩:=run_append_own (P:=Tryz.prog) w w.heap.size t ty k.ty i0 z k.k bytes ht hi Dc De Db hzs Kr (.slice none 0 0) 0 [] (World.ownsRow_nil w _ k.ty k.k) ⟨bx,jx*k.k,none⟩ m cx xss.flatten Af Oy Gj A0 A0 (zB0 _);obtain⟨τ',b1,b2,b3⟩:=grown v' w' [] rfl (fun _ h=>by cases h) (by simpa using a1) (by simpa [Value.ownBlock] using a2);exact⟨v',τ',w',hr,b1,b2,b3⟩
 .
  subst h1;have hR:=hT b s hb;obtain⟨cs,fl,Ck,Ia,Bg⟩:=hR.blk;have hsize:=hF.size;by_cases Ft:n+m<=cv
  .
   obtain rfl:=Ia (hk.resolve_right (fun hc=>by have:=hc _ _ _ rfl;omega));have Ad:∀i,i<xss.flatten.length->j*s.k.k+n*s.k.k+i<cs.size:=fun i hi'=>by
    rw[Bg];have:(j+(n+m))*s.k.k<=s.c*s.k.k:=Nat.mul_le_mul_right _ A0;rw[Af]at hi';rw[Nat.add_mul,Nat.add_mul]at this;omega
   have hr:=run_append_room_cells (P:=Tryz.prog) w t ty s.k.ty i0 ht hi b (j*s.k.k) n cv ⟨bx,jx*s.k.k,none⟩ m cx xss.flatten (by rw[De];exact Af) Oy Gj Ft (fun i hi'=>by rw[De];exact nH Ck (Ad i hi')) (fun i hi'=>frozen_of_row w b _ _ _ Ck);rw[De]at hr;have Hn:=World.cell?_setCells_in b xss.flatten (j*s.k.k+n*s.k.k) w (fun i hi'=>nH Ck (Ad i hi'));have hs:=aGp (u:=max s.u (j+(n+m))) hb (Nat.le_max_left _ _);have Ay:=setCells_same b xss.flatten (j*s.k.k+n*s.k.k) w;obtain⟨Rf,Em,hsz'⟩:=iU b s.k.ty xss.flatten (j*s.k.k+n*s.k.k) w cs Ck;have Ae:∀g,τ g=none->g ≠ b:=by rintro g hg rfl;rw[hb]at hg;cases hg
   refine⟨_,upd τ b { s with u:=max s.u (j+(n+m)) },_,hr,hF.step [] (hT.upd hs (fun k' Ur hlt'=>heap_setCells_other b _ _ w k' Ur) ⟨⟨Rf,(0,0),Em,fun _=>rfl,hsz'.trans Bg⟩, ?_,hR.c,fun i hi'=>?_⟩) hs Ay.1 Ay.2.1 Ay.2.2.1 A71 (fun g Ad hgn=>(eJ (Ae g hgn)).trans hgn) (fun g Ad hgn _=>heap_setCells_other b _ _ w g (Ae g hgn)) (fun hst g Ad _=>?_) (fun _ h=>by cases h) (fun ht=>ht.upd (ht b s hb)),.inr ⟨b,j,cv,_,rfl,lU _ _ _,rfl,Nat.le_max_right _ _,Ft,h5⟩,(fun g hg=>.inl hg),fun g Ad hne9=>heap_setCells_other b _ _ w g (fun e=>hne9 A80)⟩
   .
    exact Nat.max_le.2 ⟨hR.u,zF2 (Nat.add_le_add_left Ft j) h5⟩
   .
    change i<max s.u (j+(n+m)) at hi';by_cases Jc:j+n<=i/\i<j+(n+m)
    .
     have Xr:i-(j+n)<xss.length:=A0;have Ek:=List.getElem_mem Xr;refine⟨xss[i-(j+n)],(Hj _ Ek).length,((Hj _ Ek).sub hs).loose,fun q u hu=>?_⟩;have e:=flat_get xss (i-(j+n)) _ q u (fun us hu=>(Hj us hu).length) (zA0 Xr) hu;obtain⟨hq,e2⟩:=zC1.1 e;have:=Hn _ hq;rw[e2]at this;have hh:i*s.k.k=(j+n)*s.k.k+(i-(j+n))*s.k.k:=by rw[<-Nat.add_mul,Nat.add_sub_cancel' Jc.1]
     have h9:j*s.k.k+n*s.k.k+((i-(j+n))*s.k.k+q)=i*s.k.k+q:=by rw[hh,Nat.add_mul];omega
     rw[h9]at this;exact this
    .
     have Nd:i<s.u:=by
      rcases zJ2 i s.u with h|h
      .
       exact h
      .
       exfalso;rcases zJ2 i (j+(n+m)) with h'|h'
       .
        exact Jc ⟨by omega,h'⟩
       .
        have:=Nat.max_le.2 ⟨h,h'⟩;omega
     obtain⟨vs,v1,v2,v3⟩:=hR.el i Nd;refine⟨vs,v1,v2.sub hs,fun q u hu=>?_⟩;have hq:=(zC1.1 hu).1;show(w.setCells b (j*s.k.k+n*s.k.k) xss.flatten).cell? ⟨b,i*s.k.k+q,none⟩=some u
     rw[World.cell?_setCells_out b _ _ w _ (fun _ _=>?_)]
     .
      exact v3 q u hu
     .
      show i*s.k.k+q<j*s.k.k+n*s.k.k\/j*s.k.k+n*s.k.k+xss.flatten.length<=i*s.k.k+q
      rw[Af,<-Nat.add_mul,<-Nat.add_mul];rcases zJ2 i (j+n) with h'|h'
      .
       left;have:(i+1)*s.k.k<=(j+n)*s.k.k:=Nat.mul_le_mul_right _ A0;rw[Nat.add_mul]at this;omega
      .
       right;have:(j+n+m)*s.k.k<=i*s.k.k:=Nat.mul_le_mul_right _ A0;omega
   .
    have Et:g ≠ b:=by rintro rfl;have:=Ak hst g rfl;omega
    exact⟨eJ Et,heap_setCells_other b _ _ w g Et⟩
  .
   rcases zG0 n with rfl|Gv
   .
    obtain⟨v',w',hr,a1,a2⟩:=run_append_arg_grows (P:=Tryz.prog) w t ty s.k.ty i0 z s.k.k bytes ht hi Dc De Db hzs Kr ⟨b,j*s.k.k,none⟩ 0 cv [] A9 (fun i u hu=>by simp at hu) ⟨bx,jx*s.k.k,none⟩ m cx xss.flatten Af Oy A0 h63 Ve;obtain⟨τ',b1,b2,b3⟩:=grown v' w' [] rfl (fun _ h=>by cases h) (by simpa using a1) a2;exact⟨v',τ',w',hr,b1,b2,b3⟩
   .
    obtain⟨_,_,_,_,e9,_,_,_,_,_,_,hel2⟩:=SV.get (n:=n) hT (.inr ⟨b,j,cv,s,rfl,hb,rfl,h3,h4,h5⟩) Gv;have hj9:j*s.k.k=j*s.k.k:=rfl;obtain⟨Fc,y1,y2,y3⟩:∃Fc:List (List Value),Fc.length=n/\(∀us ∈ Fc,EV τ false s.k us)/\∀i u,Fc.flatten[i]?=some u->w.cell? ⟨b,j*s.k.k+i,none⟩=some u:=by
     have Cd:∀q,q<=n->∃Fc:List (List Value),Fc.length=q/\(∀us ∈ Fc,EV τ false s.k us)/\∀i u,Fc.flatten[i]?=some u->w.cell? ⟨b,j*s.k.k+i,none⟩=some u:=by
      intro q;induction q with
      | zero=>intro _;exact⟨[],rfl,(fun _ h=>by cases h),(fun i v h=>by simp at h)⟩
      | succ q ih=>
       intro hq;obtain⟨Fc,h1,h2,h3'⟩:=ih A0;obtain⟨vs,a1,a20,a3⟩:=hR.el (j+q) A0;have a2:EV τ false s.k vs:=by
        rcases Dp with hq|hq
        .
         rw[hq b s hb]at a20;exact a20
        .
         exact a20.tight hq
       refine⟨Fc++[vs],by simp[h1],fun us hu=>?_,fun i u hv=>?_⟩
       .
        exact QA100
       .
        have hl:=flat_len Fc fun us hu=>(h2 us hu).length;rw[List.flatten_append]at hv;by_cases hi:i<Fc.flatten.length
        .
         rw[List.getElem?_append_left hi]at hv;exact h3' i u hv
        .
         rw[List.getElem?_append_right A0]at hv;have:=a3 (i-Fc.flatten.length) u (by simpa using hv);rw[h1]at hl;have e:j*s.k.k+i=(j+q)*s.k.k+(i-Fc.flatten.length):=by rw[Nat.add_mul];omega
         rw[e];exact this
     exact Cd n (zB0 _)
    have hyl:=flat_len Fc fun us hu=>(y2 us hu).length;rw[y1]at hyl;obtain⟨v',w',hr,a1,a2⟩:=run_append_arg_grows (P:=Tryz.prog) w t ty s.k.ty i0 z s.k.k bytes ht hi Dc De Db hzs Kr ⟨b,j*s.k.k,none⟩ n cv Fc.flatten hyl (fun i u hu=>by rw[Addr.add_lit];exact y3 i u hu) ⟨bx,jx*s.k.k,none⟩ m cx xss.flatten Af Oy A0 h63 Ve;obtain⟨τ',b1,b2,b3⟩:=grown v' w' Fc y1 y2 a1 a2;exact⟨v',τ',w',hr,b1,b2,b3⟩
end Eg
end
theorem A24{p:Prop}(h:p:=by rw[List.flatMap_cons];exact List.mem_append_right _ hm):p:=h
theorem A26{p:Prop}(h:p:=by rw[List.flatMap_cons];exact List.mem_append_left _ hm):p:=h
theorem A42{p:Prop}(h:p:=by simp[CV.sy]):p:=h
namespace Eg
structure Ct where
 s:Nat
 k:Nat
 gt:Bool
 deriving DecidableEq
inductive Ix where
 | u|k (n:Nat)|v (c:Nat)
 deriving DecidableEq
inductive CV where
 | top| und| int (lo hi:Int)| len (s k:Nat)| idx (s k:Nat)| num (c s k:Nat)| byte| tv (b:Bool)| bl (t f:List Ct)| str| sl (s:Nat)| nil| ptr (b o:Nat)| elp (s:Nat) (k:Rs) (ix:Ix) (o:Nat)
 deriving DecidableEq
inductive AV where
 | c (x:CV)| rc (t:Nat)| agg (l:List CV)| tup (t:Nat) (x:CV)
 deriving DecidableEq
structure SF where
 k:Rs
 lo:Nat
 hi:Nat
 own:Bool
 un:Bool:=false
 c0:Bool:=false
 abv:Option Nat:=none
 deriving DecidableEq
inductive Bk where
 | cur| cells (T:TypeId) (l:List CV)
 deriving DecidableEq
def ln:Value->Nat
 | .slice _ n _=>n| _=>0
structure Vl where
 ρ:Nat->Value
 β:Nat->Nat
 ι:Nat->Nat
def Ct.ok (V:Vl)(c:Ct):Prop:=if c.gt then c.k<ln (V.ρ c.s) else ln (V.ρ c.s)<=c.k
def Ix.ok (V:Vl)(i:Nat):Ix->Prop
 | .u=>True| .k n=>i=n| .v c=>i=V.ι c
def CV.ok (V:Vl):CV->Value->Prop
 | .top,_=>True| .und,v=>v=undef| .int lo hi,v=>∃x,v=.int .i64 x/\lo<=x/\x<=hi| .len s k,v=>v=.int .i64 ((ln (V.ρ s):Int)-k)| .idx s k,v=>∃x:Nat,v=.int .i64 x/\x+k<ln (V.ρ s)| .num c s k,v=>v=.int .i64 (V.ι c)/\V.ι c+k<ln (V.ρ s)| .byte,v=>∃x,v=.int .u8 x/\0<=x/\x<=255| .tv b,v=>v=.bool b| .bl t f,v=>∃b,v=.bool b/\(b=true->∀c ∈ t,c.ok V)/\(b=false->∀c ∈ f,c.ok V)| .str,v=>∃s,v=.string s/\s.size<=4| .sl s,v=>v=V.ρ s| .nil,v=>v=.slice none 0 0| .ptr b o,v=>v=.pointer (some ⟨V.β b,o,none⟩)| .elp s k ix o,v=>∃b j n c i,V.ρ s=.slice (some ⟨b,j*k.k,none⟩) n c/\i<n/\v=.pointer (some ⟨b,(j+i)*k.k+o,none⟩)/\ix.ok V i
def fY (V:Vl):List CV->List Value->Prop
 | [],vs=>vs=[]| x :: l,vs=>∃v us,vs=v :: us/\x.ok V v/\fY V l us
def AV.ok (τ:Sm)(V:Vl):AV->Value->Prop
 | .c x,v=>x.ok V v| .rc t,v=>∃vs,v=.agg vs.toArray/\RV τ (Dt t).2 vs| .agg l,v=>∃vs,v=.agg vs.toArray/\fY V l vs| .tup t x,v=>∃vs u,v=.tuple #[.agg vs.toArray,u]/\RV τ (Dt t).2 vs/\x.ok V u
def SF.ok (C:Cx)(U:Value->Prop)(τ:Sm)(V:Vl)(f:SF)(v:Value):Prop:=
 SV τ f.k (ln v) v/\f.lo<=ln v/\ln v<=f.hi/\(f.own=true->C.st=true->∀g,v.ownBlock=some g->C.w0.heap.size<=g)/\(f.un=true->U v)/\(f.c0=true->∀a n c,v=.slice a n c->c=0)/\(∀s,f.abv=some s->ln (V.ρ s)<ln v)
def Bk.ok (V:Vl)(w:World)(g:Nat):Bk->Prop
 | .cur=>Cur w g| .cells T l=>∃vs,Blk w g T vs/\fY V l vs
structure Cf where
 s:Nat
 k:Rs
 ix:Ix
 p:Nat
 r:Nat
def Cf.ok (V:Vl)(w:World)(c:Cf):Prop:=∀b j n q i,V.ρ c.s=.slice (some ⟨b,j*c.k.k,none⟩) n q->i<n->c.ix.ok V i->c.ix ≠ .u->w.cell? ⟨b,(j+i)*c.k.k+c.p,none⟩=some (V.ρ c.r)
def Ct.sy (c:Ct):Nat:=c.s
def CV.sy:CV->List Nat
 | .len s _=>[s]| .idx s _=>[s]| .num _ s _=>[s]| .bl t f=>t.map Ct.s++f.map Ct.s| .sl s=>[s]| .elp s _ _ _=>[s]| _=>[]
def Ix.is:Ix->List Nat
 | .v c=>[c]| _=>[]
def CV.is:CV->List Nat
 | .num c _ _=>[c]| .elp _ _ ix _=>ix.is| _=>[]
def CV.bs:CV->List Nat
 | .ptr b _=>[b]| _=>[]
def AV.sy:AV->List Nat
 | .c x=>x.sy| .rc _=>[]| .agg l=>l.flatMap CV.sy| .tup _ x=>x.sy
def AV.bs:AV->List Nat
 | .c x=>x.bs| .rc _=>[]| .agg l=>l.flatMap CV.bs| .tup _ x=>x.bs
def AV.is:AV->List Nat
 | .c x=>x.is| .rc _=>[]| .agg l=>l.flatMap CV.is| .tup _ x=>x.is
def Bk.sy:Bk->List Nat
 | .cur=>[]| .cells _ l=>l.flatMap CV.sy
def Bk.bs:Bk->List Nat
 | .cur=>[]| .cells _ l=>l.flatMap CV.bs
def Bk.is:Bk->List Nat
 | .cur=>[]| .cells _ l=>l.flatMap CV.is
def SF.sy (f:SF):List Nat:=f.abv.toList
def Cf.sy (c:Cf):List Nat:=[c.s,c.r]
theorem Ct.on {V V':Vl}{c:Ct}(h:c.ok V)(hs:V'.ρ c.s=V.ρ c.s):c.ok V':=by
 unfold Ct.ok at *;rw[hs];exact h
theorem Ix.on {V V':Vl}{i:Nat}{x:Ix}(h:x.ok V i)(hs:∀c ∈ x.is,V'.ι c=V.ι c):x.ok V' i:=by
 cases x with
 | v c=>simp only[Ix.ok]at h ⊢;rw[hs c (by simp[Ix.is])];exact h
 | _=>exact h
theorem CV.on {V V':Vl}{x:CV}{v:Value}(h:x.ok V v)(hs:∀s ∈ x.sy,V'.ρ s=V.ρ s)(hb:∀b ∈ x.bs,V'.β b=V.β b)(hi:∀c ∈ x.is,V'.ι c=V.ι c):x.ok V' v:=by
 cases x with
 | len s k=>simp only[CV.ok]at h ⊢;rw[hs s A42];exact h| idx s k=>simp only[CV.ok]at h ⊢;rw[hs s A42];exact h| num c s k=>simp only[CV.ok]at h ⊢;rw[hs s A42,hi c (by simp[CV.is])];exact h
 | bl t f=>
  obtain⟨b,e,h1,h2⟩:=h;exact⟨b,e,fun hb c hc=>Ct.on (h1 hb c hc) (hs _ (List.mem_append_left _ (List.mem_map_of_mem hc))),fun hb c hc=>Ct.on (h2 hb c hc) (hs _ (List.mem_append_right _ (List.mem_map_of_mem hc)))⟩
 | sl s=>simp only[CV.ok]at h ⊢;rw[hs s A42];exact h| ptr b o=>simp only[CV.ok]at h ⊢;rw[hb b (by simp[CV.bs])];exact h
 | elp s k ix o=>
  obtain⟨b,j,n,c,i,h1,h2,h3,h4⟩:=h;exact⟨b,j,n,c,i,(hs s A42).trans h1,h2,h3,Ix.on h4 hi⟩
 | _=>exact h
theorem fY.on {V V':Vl}:∀{l:List CV} {vs:List Value},fY V l vs->(∀s ∈ l.flatMap CV.sy,V'.ρ s=V.ρ s)->(∀b ∈ l.flatMap CV.bs,V'.β b=V.β b)->(∀c ∈ l.flatMap CV.is,V'.ι c=V.ι c)->fY V' l vs
 | [],_,h,_,_,_=>h| x :: l,_,⟨v,us,e,h1,h2⟩,hs,hb,hi=>⟨v,us,e,CV.on h1 (fun s hm=>hs s A26) (fun b hm=>hb b A26) (fun c hm=>hi c A26),
  fY.on h2 (fun s hm=>hs s A24) (fun b hm=>hb b A24) (fun c hm=>hi c A24)⟩
theorem AV.on {τ τ':Sm}{V V':Vl}{x:AV}{v:Value}(h:x.ok τ V v)(ht:Sub τ τ')(hs:∀s ∈ x.sy,V'.ρ s=V.ρ s)(hb:∀b ∈ x.bs,V'.β b=V.β b)(hi:∀c ∈ x.is,V'.ι c=V.ι c):x.ok τ' V' v:=by
 cases x with
 | c x=>exact CV.on h hs hb hi| rc t=>obtain⟨vs,e,h1⟩:=h;exact⟨vs,e,h1.sub ht⟩| agg l=>obtain⟨vs,e,h1⟩:=h;exact⟨vs,e,fY.on h1 hs hb hi⟩| tup t x=>obtain⟨vs,u,e,h1,h2⟩:=h;exact⟨vs,u,e,h1.sub ht,CV.on h2 hs hb hi⟩
theorem SF.on {C:Cx}{U:Value->Prop}{τ τ':Sm}{V V':Vl}{f:SF}{v:Value}(h:f.ok C U τ V v)(ht:Sub τ τ')(hs:∀s ∈ f.sy,V'.ρ s=V.ρ s):f.ok C U τ' V' v:=by
 obtain⟨h1,h2,h3,h4,h5,h6,h9⟩:=h;refine⟨h1.sub ht,h2,h3,h4,h5,h6,fun s e=>?_⟩;rw[hs s (by unfold SF.sy;rw[e];simp)];exact h9 s e
theorem Bk.on {V V':Vl}{w:World}{g:Nat}{x:Bk}(h:x.ok V w g)(hs:∀s ∈ x.sy,V'.ρ s=V.ρ s)(hb:∀b ∈ x.bs,V'.β b=V.β b)(hi:∀c ∈ x.is,V'.ι c=V.ι c):x.ok V' w g:=by
 cases x with
 | cur=>exact h| cells T l=>obtain⟨vs,e,h1⟩:=h;exact⟨vs,e,fY.on h1 hs hb hi⟩
theorem fY.get {V:Vl}:∀{l:List CV} {vs:List Value},fY V l vs->∀{i:Nat} {x:CV},l[i]?=some x->∃v,vs[i]?=some v/\x.ok V v
 | [],_,_,i,x,h=>by simp at h
 | _ :: _,_,⟨v,us,e,h1,h2⟩,i,x,h=>by
  subst e;cases i with
  | zero=>simp only[List.getElem?_cons_zero,zG2]at h;subst h;exact⟨v,rfl,h1⟩| succ i=>rw[List.getElem?_cons_succ]at h ⊢;exact fY.get h2 h
theorem fY.length {V:Vl}:∀{l:List CV} {vs:List Value},fY V l vs->vs.length=l.length
 | [],_,h=>by rw[show _=[] from h];rfl
 | _ :: _,_,⟨v,us,e,h1,h2⟩=>by rw[e,zB1,zB1,fY.length h2]
theorem fY.set {V:Vl}:∀{l:List CV} {vs:List Value},fY V l vs->∀(i:Nat) {x:CV} {v:Value},x.ok V v->fY V (l.set i x) (vs.set i v)
 | [],_,h,i,x,v,_=>by rw[show _=[] from h];exact rfl
 | _ :: _,_,⟨v,us,e,h1,h2⟩,i,x,u,hu=>by
  subst e;cases i with
  | zero=>exact⟨u,us,rfl,hu,h2⟩| succ i=>exact⟨v,_,rfl,h1,fY.set h2 i hu⟩
theorem Cur.on {w w':World}{g:Nat}(h:Cur w g)(he:∀b,b<=g->w'.heap[b]?=w.heap[b]?):Cur w' g:=by
 obtain⟨a,n,c,l,i,h,hb,Tp,hi1,hn,hl,Bu,hc⟩:=h;refine⟨a,n,c,l,i,h,(he g (zB0 _)).trans hb,Tp,hi1,hn,hl,Bu,fun hp=>?_⟩;obtain⟨b,off,e,Lr,Gn⟩:=hc hp;exact⟨b,off,e,Lr,fun j hj=>(World.cell?_of_block (he b A0)).trans (Gn j hj)⟩
end Eg
section
theorem QA18{p:Prop}(h:p:=by
 intro n
 induction n with
 | zero=>intro _;exact⟨[],rfl,(fun _ h=>by cases h),(fun h=>by omega)⟩
 | succ n ih=>
  intro h
  obtain⟨l,h1,h2,h3⟩:=ih fun i hi=>h i A0
  obtain⟨x,hx,Gg,Gd⟩:=h n A0
  refine⟨l++[x],by simp[h1],fun y hy=>?_,fun _=>⟨b,o,rfl,fun i hi=>?_⟩⟩
  .
   rcases List.mem_append.1 hy with hy|hy
   .
    exact h2 y hy
   .
    rw[List.mem_singleton.1 hy];exact⟨Gg,Gd⟩
  .
   by_cases Hn:i<n
   .
    obtain⟨b',o',e,hc⟩:=h3 A0
    cases e
    rw[hc i Hn,List.getElem?_append_left A0]
   .
    have:i=n:=A0
    subst this
    rw[hx,List.getElem?_append_right A0,h1]
    simp):p:=h
theorem QA59{p:Prop}(h:p:=by
 rcases hk with hk|rfl
 .
  rw[hk]at r4;exact r4
 .
  have:l4=[]:=by simpa using n4
  subst this
  obtain⟨a,c,q1,q2,q3,q4,_⟩:=r4
  exact⟨a,c,q1,q2,q3,q4,(fun h=>by cases h)⟩):p:=h
theorem QA61{p:Prop}(h:p:=by
 exact⟨r,h1,h2,by omega⟩):p:=h
theorem QA102{p:Prop}(h:p:=by
 exact⟨[],⟨a,c,rfl,⟨rfl,(fun _ h=>by cases h),(fun h=>by cases h)⟩,h1,h2,h3⟩,by simp⟩):p:=h
namespace Eg
theorem gP {α:Type}(f:α->List Fl):∀(rs:List (List Fl)),(∀r ∈ rs,∃x:α,r=f x)->∃l:List α,rs=l.map f
 | [],_=>⟨[],rfl⟩| r :: rs,h=>by
  obtain⟨x,hx⟩:=h r A9;obtain⟨l,hl⟩:=gP f rs fun r hr=>h r (by simp[hr]);exact⟨x :: l,by rw[hx,hl];rfl⟩
theorem aI4 {w:World}{b o:Nat}:∀(n:Nat),(∀i,i<n->∃x,w.cell? ⟨b,o+i,none⟩=some (.int .u8 x)/\0<=x/\x<=255)->∃l:List Int,aV w (some ⟨b,o,none⟩) n l:=by
 exact QA18
theorem aM3 {w:World}{b o:Nat}:∀(n:Nat),(∀i,i<n->∃x,w.cell? ⟨b,o+i,none⟩=some (.int .i64 x)/\-9223372036854775808<=x/\x<=9223372036854775807)->∃l:List Int,aF6 w (some ⟨b,o,none⟩) n l:=by
 exact QA18
theorem aJl {w:World}{b:Nat}:∀{r:List Fl} {vs:List Value} {off:Nat},aL w r vs->(∀i v,vs[i]?=some v->w.cell? ⟨b,off+i,none⟩=some v)->jT w b off r
 | [],_,_,_,_=>trivial| f :: r,vs,off,h,hc=>by
  obtain⟨v,us,rfl,h1,h2⟩:=h;refine⟨⟨v,hc 0 v rfl,h1⟩,aJl h2 (fun i u hu=>?_)⟩;have:=hc (i+1) u (by simpa using hu);rwa [show off+(i+1)=off+1+i by omega]at this
theorem oX {w:World}{b k:Nat}:∀{rs:List (List Fl)} {off:Nat} {r:List Fl},dG w b k off rs->jT w b (off+rs.length*k) r->dG w b k off (rs++[r])
 | [],off,r,_,h=>⟨by simpa using h,trivial⟩
 | x :: rs,off,r,h,h'=>⟨h.1,oX h.2 (by rw[zB1,Nat.add_mul]at h';rwa [show off+k+rs.length*k=off+(rs.length*k+1*k) by omega])⟩
theorem aLg {w:World}{b o k W:Nat}{F:List Fl->Prop}:∀(n:Nat),(∀i,i<n->∃r,F r/\aP r<=W/\jT w b (o+i*k) r)->∃rs,rs.length=n/\(∀r ∈ rs,F r)/\aG rs<=n*W/\dG w b k o rs:=by
 intro n;induction n with
 | zero=>intro _;exact⟨[],rfl,(fun _ h=>by cases h),by simp[aG],trivial⟩
 | succ n ih=>
  intro h;obtain⟨rs,h1,h2,h3,h4⟩:=ih fun i hi=>h i A0;obtain⟨r,r1,r2,r3⟩:=h n A0;refine⟨rs++[r],by simp[h1],fun y hy=>?_, ?_,oX h4 (by rw[h1];exact r3)⟩
  .
   rcases List.mem_append.1 hy with hy|hy
   .
    exact h2 y hy
   .
    rw[List.mem_singleton.1 hy];exact r1
  .
   rw[iW];simp only[aG];rw[Nat.add_mul];omega
theorem aNu {w:World}{a:Option Addr}{n:Nat}{l m:List Int}(h:aV w a n l)(h':aV w a n m):l=m:=by
 refine List.ext_getElem? fun i=>?_;by_cases hi:i<n
 .
  obtain⟨b,o,e,hc⟩:=h.2.2 A0;obtain⟨b',o',e',Dg⟩:=h'.2.2 A0;rw[e]at e';cases e';have:=(hc i hi).symm.trans (Dg i hi);simp only[zG2,Value.int.injEq,true_and]at this;have l1:=h.1;have l2:=h'.1;rw[zA0 A0,zA0 A0]at this ⊢;simpa using this
 .
  rw[List.getElem?_eq_none (by have:=h.1;omega),List.getElem?_eq_none (by have:=h'.1;omega)]
section
variable {τ:Sm} {w:World}
def RdT (τ:Sm)(w:World)(t W:Nat)(F:List Fl->Prop):Prop:=∀us,RV τ (Lt t) us->∃r,F r/\aL w r us/\aP r<=W
theorem rd_b {m:Nat}{v:Value}(hT:TH τ w)(h:FV τ (.b m) v):∃l:List Int,(Fl.b l).Rd w v/\l.length<=m:=by
 obtain⟨n,hn,h⟩:=h;obtain⟨a,c,rfl,h1,h2,h3⟩:=h.sh hT;rcases zG0 n with rfl|h0
 .
  exact QA102
 .
  obtain⟨b,j,c',s,e,_,_,_,_,_,_,hg⟩:=h.get hT h0;simp only[Value.slice.injEq,true_and]at e;obtain⟨rfl,rfl⟩:=e;obtain⟨l,hl⟩:=aI4 (w:=w) (b:=b) (o:=j*Rs.bt.k) n fun i hi=>by
   obtain⟨vs,⟨x,rfl,hx⟩,l3⟩:=hg i hi;refine⟨x, ?_,hx⟩;have h9:=l3 0 _ rfl;rw[show(j+i)*Rs.bt.k+0=j*Rs.bt.k+i by simp only[Rs.k];omega]at h9;exact h9
  have e:=hl.1;subst e;exact⟨l,⟨_,_,rfl,hl,h1,h2,h3⟩,hn⟩
theorem aU4 {m:Nat}{v:Value}(hT:TH τ w)(h:FV τ (.i m) v):∃l:List Int,(Fl.i l).Rd w v/\l.length<=m:=by
 obtain⟨n,hn,h⟩:=h;obtain⟨a,c,rfl,h1,h2,h3⟩:=h.sh hT;rcases zG0 n with rfl|h0
 .
  exact QA102
 .
  obtain⟨b,j,c',s,e,_,_,_,_,_,_,hg⟩:=h.get hT h0;simp only[Value.slice.injEq,true_and]at e;obtain⟨rfl,rfl⟩:=e;obtain⟨l,hl⟩:=aM3 (w:=w) (b:=b) (o:=j*Rs.ii.k) n fun i hi=>by
   obtain⟨vs,⟨x,rfl,hx⟩,l3⟩:=hg i hi;refine⟨x, ?_,hx⟩;have h9:=l3 0 _ rfl;rw[show(j+i)*Rs.ii.k+0=j*Rs.ii.k+i by simp only[Rs.k];omega]at h9;exact h9
  have e:=hl.1;subst e;exact⟨l,⟨_,_,rfl,hl,h1,h2,h3⟩,hn⟩
theorem aSt {t n W:Nat}{v:Value}{F:List Fl->Prop}(hT:TH τ w)(h:SV τ (.rc t) n v)(ih:0<n->RdT τ w t W F):∃rs,(∀r ∈ rs,F r)/\(Fl.l (Dt t).2.length rs).Rd w v/\rs.length=n/\aG rs<=n*W:=by
 obtain⟨a,c,rfl,h1,h2,h3⟩:=h.sh hT;rcases zG0 n with rfl|h0
 .
  exact⟨[],(fun _ h=>by cases h),⟨a,c,rfl,h1,h2,h3,(fun h=>by cases h)⟩,rfl,by simp[aG]⟩
 .
  obtain⟨b,j,c',s,e,_,_,_,_,_,_,hg⟩:=h.get hT h0;simp only[Value.slice.injEq,true_and]at e;obtain⟨rfl,rfl⟩:=e;have ih:=ih h0;obtain⟨rs,r1,r2,r3,r4⟩:=aLg (w:=w) (b:=b) (o:=j*(Dt t).2.length) (k:=(Dt t).2.length) (W:=W) (F:=F) n fun i hi=>by
   obtain⟨vs,l2,l3⟩:=hg i hi;have hR:RV τ (Lt t) vs:=by
    have l2:RV τ (if s.q then Lt t else (Dt t).2) vs:=l2;split at l2
    .
     exact l2
    .
     exact RV.loose l2
   obtain⟨r,q1,q2,q3⟩:=ih vs hR;refine⟨r,q1,q3,aJl q2 fun z u hu=>?_⟩;have h9:=l3 z u hu;rw[show(j+i)*(Rs.rc t).k+z=j*(Dt t).2.length+i*(Dt t).2.length+z by rw[Nat.add_mul];rfl]at h9;exact h9
  exact⟨rs,r2,⟨_,_,by rw[r1],by omega,h2,h3,fun _=>⟨b,_,rfl,r4⟩⟩,r1,r3⟩
theorem aCx {t lo m W:Nat}{v:Value}{F:List Fl->Prop}(hT:TH τ w)(h:FV τ (.l t lo m) v)(ih:0<m->RdT τ w t W F):∃rs,(∀r ∈ rs,F r)/\(Fl.l (Dt t).2.length rs).Rd w v/\rs.length<=m/\aG rs<=rs.length*W:=by
 obtain⟨n,⟨_,hn⟩,h⟩:=h;obtain⟨rs,h1,h2,rfl,h4⟩:=aSt hT h (fun h0=>ih A0);exact⟨rs,h1,h2,hn,h4⟩
def nmF (r:List Fl):Prop:=∃x,r=[.b x]
def vaF (r:List Fl):Prop:=∃x:Va,r=x.fl
def paF (r:List Fl):Prop:=∃x:Pa,r=x.fl
def fpF (r:List Fl):Prop:=∃x:Fp,r=x.fl
def faF (r:List Fl):Prop:=∃x:Fa,r=x.fl
def exF (r:List Fl):Prop:=∃x:Ex,r=x.fl
def stF (r:List Fl):Prop:=∃x:St,r=x.fl
def prF (r:List Fl):Prop:=∃x:Pr,r=x.fl
theorem rd0 (hT:TH τ w):RdT τ w 0 4 nmF:=by
 rintro us ⟨v0,_,rfl,h0,rfl⟩;obtain⟨l,r0,n0⟩:=rd_b hT h0;exact⟨_,⟨l,rfl⟩,⟨_,_,rfl,r0,rfl⟩,by simp[aP,Fl.len];omega⟩
theorem rd1 (hT:TH τ w):RdT τ w 1 4 vaF:=by
 rintro us ⟨v0,_,rfl,h0,v1,_,rfl,⟨y,rfl,_⟩,rfl⟩;obtain⟨l,r0,n0⟩:=rd_b hT h0;exact⟨_,⟨⟨l,y⟩,rfl⟩,⟨_,_,rfl,r0,_,_,rfl,rfl,rfl⟩,by simp[Va.fl,aP,Fl.len];omega⟩
theorem rd2 (hT:TH τ w):RdT τ w 2 4 paF:=by
 rintro us ⟨v0,_,rfl,h0,v1,_,rfl,⟨y,rfl⟩,rfl⟩;obtain⟨l,r0,n0⟩:=rd_b hT h0;exact⟨_,⟨⟨l,y⟩,rfl⟩,⟨_,_,rfl,r0,_,_,rfl,rfl,rfl⟩,by simp[Pa.fl,aP,Fl.len];omega⟩
theorem rd3 (hT:TH τ w):RdT τ w 3 7 fpF:=by
 rintro us ⟨v0,_,rfl,h0,v1,_,rfl,h1,rfl⟩;obtain⟨l,r0,n0⟩:=rd_b hT h0;obtain⟨m,r1,n1⟩:=aU4 hT h1;exact⟨_,⟨⟨l,m⟩,rfl⟩,⟨_,_,rfl,r0,_,_,rfl,r1,rfl⟩,by simp[Fp.fl,aP,Fl.len];omega⟩
theorem rd4 (hT:TH τ w):RdT τ w 4 28 faF:=by
 rintro us ⟨v0,_,rfl,h0,v1,_,rfl,h1,rfl⟩;obtain⟨l,r0,n0⟩:=rd_b hT h0;obtain⟨rs,f1,r1,n1,m1⟩:=aCx hT h1 fun _=>rd3 hT;obtain⟨ps,rfl⟩:=gP Fp.fl rs f1;refine⟨_,⟨⟨l,ps⟩,rfl⟩,⟨_,_,rfl,r0,_,_,rfl,r1,rfl⟩, ?_⟩;simp only[Fa.fl,aP,Fl.len];omega
theorem rdE {t m W:Nat}(hT:TH τ w)(hk:(Dt t).2.length=5\/m=0)(ih:0<m->RdT τ w t W exF){us:List Value}(h:RV τ [.n,.n,.b 4,.b 4,.l t 0 m] us):∃r,exF r/\aL w r us/\aP r<=8+m*(1+W):=by
 obtain⟨v0,_,rfl,⟨k,rfl,_⟩,v1,_,rfl,⟨x,rfl,_⟩,v2,_,rfl,h2,v3,_,rfl,h3,v4,_,rfl,h4,rfl⟩:=h;obtain⟨l2,r2,n2⟩:=rd_b hT h2;obtain⟨l3,r3,n3⟩:=rd_b hT h3;obtain⟨rs,f4,r4,n4,m4⟩:=aCx hT h4 ih;obtain⟨l4,rfl⟩:=gP Ex.fl rs f4;have e4:(Fl.l 5 (l4.map Ex.fl)).Rd w v4:=by
  exact QA59
 refine⟨_,⟨.mk k x l2 l3 l4,rfl⟩,⟨_,_,rfl,rfl,_,_,rfl,rfl,_,_,rfl,r2,_,_,rfl,r3,_,_,rfl,by rw[aY];exact e4,rfl⟩, ?_⟩;simp only[Ex.fl,aP,Fl.len,aY];have h9:(l4.map Ex.fl).length*W<=m*W:=Nat.mul_le_mul_right _ n4;rw[Nat.mul_add];omega
theorem rd5 (hT:TH τ w):RdT τ w 5 8 exF:=fun us h=>by
 obtain⟨r,h1,h2,h3⟩:=rdE (t:=0) (m:=0) (W:=0) hT (.inr rfl) (fun h=>by omega) h;exact QA61
theorem rd6 (hT:TH τ w):RdT τ w 6 35 exF:=fun us h=>by
 obtain⟨r,h1,h2,h3⟩:=rdE (t:=5) (m:=3) hT (.inl rfl) (fun _=>rd5 hT) h;exact QA61
theorem rd7 (hT:TH τ w):RdT τ w 7 116 exF:=fun us h=>by
 obtain⟨r,h1,h2,h3⟩:=rdE (t:=6) (m:=3) hT (.inl rfl) (fun _=>rd6 hT) h;exact QA61
theorem rd8 (hT:TH τ w):RdT τ w 8 359 exF:=fun us h=>by
 obtain⟨r,h1,h2,h3⟩:=rdE (t:=7) (m:=3) hT (.inl rfl) (fun _=>rd7 hT) h;exact QA61
theorem rdS {q t t' m m' W W':Nat}(hT:TH τ w)(hk:(Dt t).2.length=6\/m=0)(Ur:(Dt t').2.length=6\/m'=0)(ih:0<m->RdT τ w t W stF)(ih':0<m'->RdT τ w t' W' stF){us:List Value}(h:RV τ [.n,.n,.b 4,.l 8 0 q,.l t 0 m,.l t' 0 m'] us):∃r,stF r/\aL w r us/\aP r<=4+q*360+m*(1+W)+m'*(1+W'):=by
 obtain⟨v0,_,rfl,⟨k,rfl,_⟩,v1,_,rfl,⟨x,rfl,_⟩,v2,_,rfl,h2,v3,_,rfl,h3,v4,_,rfl,h4,v5,_,rfl,h5,rfl⟩:=h;obtain⟨l2,r2,n2⟩:=rd_b hT h2;obtain⟨s3,f3,r3,n3,m3⟩:=aCx hT h3 fun _=>rd8 hT;obtain⟨l3,rfl⟩:=gP Ex.fl s3 f3;have fix:∀{t m W:Nat} {v:Value},(Dt t).2.length=6\/m=0->FV τ (.l t 0 m) v->(0<m->RdT τ w t W stF)->∃l:List St,(Fl.l 6 (l.map St.fl)).Rd w v/\(l.map St.fl).length+aG (l.map St.fl)<=m*(1+W):=fun {t m W v} hk h ih=>by
  obtain⟨rs,f4,r4,n4,m4⟩:=aCx hT h ih;obtain⟨l4,rfl⟩:=gP St.fl rs f4;refine⟨l4, ?_, ?_⟩
  .
   exact QA59
  .
   have h9:(l4.map St.fl).length*W<=m*W:=Nat.mul_le_mul_right _ n4;rw[Nat.mul_add];omega
 obtain⟨l4,r4,n4⟩:=fix hk h4 ih;obtain⟨l5,r5,n5⟩:=fix Ur h5 ih';refine⟨_,⟨.mk k x l2 l3 l4 l5,rfl⟩,⟨_,_,rfl,rfl,_,_,rfl,rfl,_,_,rfl,r2,_,_,rfl,by rw[aY];exact r3,_,_,rfl,by rw[bE];exact r4,_,_,rfl,by rw[bE];exact r5,rfl⟩, ?_⟩;simp only[St.fl,aP,Fl.len,aY,bE];have h8:(l3.map Ex.fl).length*360<=q*360:=Nat.mul_le_mul_right _ n3;omega
theorem rd9 (hT:TH τ w):RdT τ w 9 724 stF:=fun us h=>by
 obtain⟨r,h1,h2,h3⟩:=rdS (q:=2) (t:=0) (t':=0) (m:=0) (m':=0) (W:=0) (W':=0) hT (.inr rfl) (.inr rfl) (fun h=>by omega) (fun h=>by omega) h;exact QA61
theorem aU5 (hT:TH τ w):RdT τ w 10 3624 stF:=fun us h=>by
 obtain⟨r,h1,h2,h3⟩:=rdS (q:=2) (t:=9) (t':=9) (m:=3) (m':=1) hT (.inl rfl) (.inl rfl) (fun _=>rd9 hT) (fun _=>rd9 hT) h;exact QA61
theorem aOt (hT:TH τ w){lo hi:Nat}{v:Value}(h:SV τ (.rc 4) (ln v) v)(hh:lo<=ln v/\ln v<=hi):∃fs:List Fa,fs.length=ln v/\(Fl.l 2 (fs.map Fa.fl)).Rd w v/\aG (fs.map Fa.fl)<=fs.length*28:=by
 obtain⟨rs,h1,h2,h3,h4⟩:=aSt hT h fun _=>rd4 hT;obtain⟨fs,rfl⟩:=gP Fa.fl rs h1;rw[zB2]at h3;exact⟨fs,h3,h2,by rw[h3];exact h4⟩
end
end Eg
end
section
variable{l:List Int}{xs:List Value}{T hi hi' lo lo':Nat}{nv pv v:Value}{w w':World}
structure Ob (w:World) (T:TypeId) (lo hi:Nat) (v:Value) (n:Nat) (xs:List Value):Prop where
 own:w.ownsRow lo T 1 v n xs
 lt:∀k,v.ownBlock=some k->k<hi
theorem Ob.stays{n:Nat}(h:Ob w T lo hi v n xs)(hs:∀g,lo<=g->g<hi->(∃cur,w.heap[g]?=some (.cells cur T (0,0)))->w'.heap[g]?=w.heap[g]?):Ob w' T lo hi v n xs:=
 ⟨bW h.own fun g hg=>hs g (h.own.lt g hg).1 (h.lt g hg) (eN h.own hg),h.lt⟩
theorem Ob.wide{n:Nat}(h:Ob w T lo hi v n xs)(a:lo'<=lo)(b:hi<=hi'):Ob w T lo' hi' v n xs:=
 ⟨kG h.own a,fun k hk=>Nat.lt_of_lt_of_le (h.lt k hk) b⟩
def bV (l:List Int):List Value:=l.map (Value.int .u8)
def iV (l:List Int):List Value:=l.map (Value.int .i64)
def isB (l:List Int):Prop:=∀x ∈ l,0<=x/\x<=255
def isI (l:List Int):Prop:=∀x ∈ l, -9223372036854775808<=x/\x<=9223372036854775807
def Fps (w:World):Nat->Nat->List (Value × Value)->List Fp->Prop
 | lo,hi,[],ds=>ds=[]| lo,hi,x :: l,ds=>∃d Mq m1 m2,ds=d :: Mq/\lo<=m1/\m1<=m2/\m2<=hi/\Ob w 5 lo m1 x.1 d.name.length (bV d.name)/\isB d.name/\Ob w 3 m1 m2 x.2 d.kinds.length (iV d.kinds)/\isI d.kinds/\Fps w m2 hi l Mq
def nR (lo hi:Nat)(w w':World):Prop:=∀g,lo<=g->g<hi->((∃cur,w.heap[g]?=some (.cells cur 5 (0,0)))\/(∃cur,w.heap[g]?=some (.cells cur 3 (0,0))))->w'.heap[g]?=w.heap[g]?
theorem nR.mono(h:nR lo hi w w')(a:lo<=lo')(b:hi'<=hi):nR lo' hi' w w':=fun g h1 h2 h3=>h g A0 A0 h3
theorem nR.of(h:fH lo hi w w'):nR lo hi w w':=fun g h1 h2 _=>h g h1 h2
theorem Fps.stays {w w':World}:∀{l:List (Value × Value)} {lo hi:Nat} {ds:List Fp},Fps w lo hi l ds->nR lo hi w w'->Fps w' lo hi l ds:=by
 intro l;induction l with
 | nil=>intro lo hi ds h _;exact h| cons x l ih=>
  intro lo hi ds h hs;obtain⟨d,Mq,m1,m2,rfl,a,b,c,h1,hb,h2,hi',h3⟩:=h;exact⟨d,Mq,m1,m2,rfl,a,b,c,h1.stays (fun g p q r=>hs g p A0 (.inl r)),hb,h2.stays (fun g p q r=>hs g A0 A0 (.inr r)),hi',ih h3 (hs.mono A0 (zB0 _))⟩
theorem Fps.wide {w:World}:∀{l:List (Value × Value)} {lo hi lo' hi':Nat} {ds:List Fp},Fps w lo hi l ds->lo'<=lo->hi<=hi'->Fps w lo' hi' l ds:=by
 intro l;induction l with
 | nil=>intro lo hi lo' hi' ds h _ _;exact h| cons x l ih=>
  intro lo hi lo' hi' ds h p q;obtain⟨d,Mq,m1,m2,rfl,a,b,c,h1,hb,h2,hi',h3⟩:=h;exact⟨d,Mq,m1,m2,rfl,by omega,b,by omega,h1.wide p (zB0 _),hb,h2,hi',ih h3 (zB0 _) q⟩
theorem Fps.len:∀{l:List (Value × Value)} {lo hi:Nat} {ds:List Fp},Fps w lo hi l ds->l.length=ds.length:=by
 intro l;induction l with
 | nil=>intro lo hi ds h;rw[show ds=[] from h];rfl| cons x l ih=>
  intro lo hi ds h;obtain⟨d,Mq,m1,m2,rfl,a,b,c,h1,hb,h2,hi',h3⟩:=h;simp[ih h3]
theorem Fps.snoc:∀{l:List (Value × Value)} {lo mid m1 m2:Nat} {ds:List Fp} {x:Value × Value} {d:Fp},Fps w lo mid l ds->lo<=mid->mid<=m1->m1<=m2->Ob w 5 mid m1 x.1 d.name.length (bV d.name)->isB d.name->Ob w 3 m1 m2 x.2 d.kinds.length (iV d.kinds)->isI d.kinds->Fps w lo m2 (l++[x]) (ds++[d]):=by
 intro l;induction l with
 | nil=>
  intro lo mid m1 m2 ds x d h p q r h1 hb h2 hi;rw[show ds=[] from h];exact⟨d,[],m1,m2,rfl,by omega,r,zB0 _,h1.wide p (zB0 _),hb,h2,hi,rfl⟩
 | cons y l ih=>
  intro lo mid m1 m2 ds x d h p q r h1 hb h2 hi;obtain⟨d0,Mq,k1,k2,rfl,a,b,c,e1,eb,e2,ei,e3⟩:=h;exact⟨d0,Mq++[d],k1,k2,rfl,a,b,by omega,e1,eb,e2,ei,ih e3 c q r h1 hb h2 hi⟩
theorem Fps.part:∀{l:List (Value × Value)} {lo hi:Nat} {ds:List Fp} (j:Nat),Fps w lo hi l ds->lo<=hi->∃mid,lo<=mid/\mid<=hi/\Fps w lo mid (l.take j) (ds.take j)/\Fps w mid hi (l.drop j) (ds.drop j):=by
 intro l;induction l with
 | nil=>
  intro lo hi ds j h p;rw[show ds=[] from h];exact⟨lo,zB0 _,p,by simp[Fps],by simp[Fps]⟩
 | cons y l ih=>
  intro lo hi ds j h p;cases j with
  | zero=>exact⟨lo,zB0 _,p,by simp[Fps],by simpa using h⟩
  | succ j=>
   obtain⟨d0,Mq,k1,k2,rfl,a,b,c,e1,eb,e2,ei,e3⟩:=h;obtain⟨mid,h1,h2,h3,h4⟩:=ih j e3 c;exact⟨mid,by omega,h2,⟨d0,Mq.take j,k1,k2,rfl,a,b,h1,e1,eb,e2,ei,h3⟩,by simpa using h4⟩
def qJ:List (Value × Value)->List Value
 | []=>[]| x :: l=>x.1 :: x.2 :: qJ l
theorem vG (l m:List (Value × Value)):qJ (l++m)=qJ l++qJ m:=by
 induction l with
 | nil=>rfl| cons x l ih=>simp[qJ,ih]
theorem Ob.brow(h:Ob w 5 lo hi v l.length (bV l))(hb:isB l):(Fl.b l).Rd w v:=by
 exact QA92
theorem Ob.irow(h:Ob w 3 lo hi v l.length (iV l))(hb:isI l):(Fl.i l).Rd w v:=by
 have ho:aN7 w lo v l.length l:=⟨h.own,hb⟩
 obtain⟨a,c,rfl,h1,h2,h3,_⟩:=aH h.own;obtain⟨a',c',e,_,_,hr,_⟩:=ho.shape;simp only[Value.slice.injEq,true_and]at e;obtain⟨rfl,rfl⟩:=e;exact⟨a,c,rfl,hr,h1,h2,h3⟩
theorem Fps.rows{g:Nat}:∀{l:List (Value × Value)} {lo hi off:Nat} {ds:List Fp},Fps w lo hi l ds->(∀i v,(qJ l)[i]?=some v->w.cell? ⟨g,off+i,none⟩=some v)->dG w g 2 off (ds.map Fp.fl):=by
 intro l;induction l with
 | nil=>intro lo hi off ds h _;rw[show ds=[] from h];exact trivial| cons x l ih=>
  intro lo hi off ds h hc;obtain⟨d,Mq,m1,m2,rfl,a,b,c,h1,hb,h2,hi',h3⟩:=h;refine⟨⟨⟨x.1,hc 0 _ rfl,h1.brow hb⟩,⟨x.2,hc 1 _ rfl,h2.irow hi'⟩,trivial⟩,ih h3 fun i v hv=>?_⟩;have:=hc (i+2) v (by simpa [qJ] using hv);rw[show off+(i+2)=off+2+i by omega]at this;exact this
structure Fg (w:World) (lo hi:Nat) (nv pv:Value) (l:List (Value × Value)) (f:Fa):Prop where
 name:∃m,lo<=m/\m<=hi/\Ob w 5 lo m nv f.name.length (bV f.name)/\isB f.name/\Fps w m hi l f.procs
 row:w.ownsRow lo 114 2 pv f.procs.length (qJ l)
 lt:∀k,pv.ownBlock=some k->k<hi
theorem Fg.stays {w w':World}{lo hi:Nat}{nv pv:Value}{l:List (Value × Value)}{f:Fa}(h:Fg w lo hi nv pv l f)(hs:fH lo hi w w'):Fg w' lo hi nv pv l f:=by
 obtain⟨m,a,b,h1,hb,h2⟩:=h.name;exact⟨⟨m,a,b,h1.stays (fun g p q _=>hs g p A0),hb,h2.stays (nR.of (hs.mono a (zB0 _)))⟩,bW h.row (fun g hg=>hs g (h.row.lt g hg).1 (h.lt g hg)),h.lt⟩
theorem Fg.wide {w:World}{lo hi lo' hi':Nat}{nv pv:Value}{l:List (Value × Value)}{f:Fa}(h:Fg w lo hi nv pv l f)(p:lo'<=lo)(q:hi<=hi'):Fg w lo' hi' nv pv l f:=by
 obtain⟨m,a,b,h1,hb,h2⟩:=h.name;exact⟨⟨m,by omega,by omega,h1.wide p (zB0 _),hb,h2.wide (zB0 _) q⟩,kG h.row p,fun k hk=>Nat.lt_of_lt_of_le (h.lt k hk) q⟩
theorem Fg.rdp{l:List (Value × Value)}{f:Fa}(h:Fg w lo hi nv pv l f):(Fl.l 2 (f.procs.map Fp.fl)).Rd w pv:=by
 obtain⟨m,_,_,_,_,h2⟩:=h.name;have An:=h.row;obtain⟨a,c,rfl,h3,h4,h5,h6⟩:=aH An;refine⟨a,c,by simp,by simpa using h3,h4,h5,fun hp=>?_⟩;obtain⟨g,rfl⟩:=h6 (by simpa using hp);exact⟨g,0,rfl,h2.rows fun i v hv=>by rw[zJ1];exact cM An i v hv⟩
theorem Fg.vals{l:List (Value × Value)}{f:Fa}(h:Fg w lo hi nv pv l f):aL w f.fl [nv,pv]:=by
 obtain⟨m,_,_,h1,hb,_⟩:=h.name;exact⟨nv,_,rfl,h1.brow hb,pv,_,rfl,h.rdp,rfl⟩
theorem Fg.push{w1 w2 w3 w4:World}{pv':Value}{l:List (Value × Value)}{f:Fa}{x y:Value}{d:Fp}(h:Fg w lo hi nv pv l f)(Lm:lo<=hi)(hh:hi<=w.heap.size)
  (b1:Below w.heap.size w w1) (hx:Ob w1 5 w.heap.size w1.heap.size x d.name.length (bV d.name)) (hxb:isB d.name)
  (b2:Below w1.heap.size w1 w2) (hy:Ob w2 3 w1.heap.size w2.heap.size y d.kinds.length (iV d.kinds)) (hyi:isI d.kinds)
  (b3:Below w2.heap.size w2 w3) (hr:w4.ownsRow lo 114 2 pv' (f.procs.length+1) (qJ l++[x,y])) (hg:w3.grownBy w4 pv.ownBlock):
  Fg w4 lo w4.heap.size nv pv' (l++[(x,y)]) ⟨f.name,f.procs++[d]⟩:=by
 have s1:=b1.size;have s2:=b2.size;have s3:=b3.size;have s4:=hg.size;have k3:fH lo hi w w3:=fun g p q=>((b3.block g A0).trans (b2.block g A0)).trans (b1.block g A0);have h3:=h.stays k3;have hx3:=hx.stays (w':=w3) (fun g p q _=>(b3.block g A0).trans (b2.block g A0));have hy3:=hy.stays (w':=w3) (fun g p q _=>b3.block g A0);have kp:∀A B,nR A B w3 w4:=fun A B g p q r=>by
  refine hg.block g ?_ ?_
  .
   rcases r with⟨c,e⟩|⟨c,e⟩ <;> exact(zI3.1 e).1
  .
   intro e;obtain⟨c,e2⟩:=eN h3.row e.symm;rcases r with⟨c',e'⟩|⟨c',e'⟩ <;> (rw[e2]at e';simp only[zG2,Obj.cells.injEq]at e';exact absurd e'.2.1 A6)
 obtain⟨m,a,b,n1,nb,p1⟩:=h3.name;refine⟨⟨m,a,by omega,n1.stays (fun g p q r=>kp lo m g p q (.inl r)),nb, ?_⟩, ?_,fun k hk=>(hr.lt k hk).2⟩
 .
  have:=(p1.stays (kp m hi)).wide (zB0 _) hh |>.snoc (x:=(x,y)) (d:=d) A0 s1 s2 (hx3.stays (fun g p q r=>kp _ _ g p q (.inl r))) hxb (hy3.stays (fun g p q r=>kp _ _ g p q (.inr r))) hyi
  exact this.wide (zB0 _) A0
 .
  rw[vG];simpa [qJ] using hr
end
def tI (b:Bool):Int:=if b then 1 else 0
def dT (ps:List Pa):List Int:=ps.map fun a=>tI a.arr
theorem xB {ps:List Pa}{j:Nat}{x:Pa}(h:ps[j]?=some x):dT (ps.take (j+1))=dT (ps.take j)++[tI x.arr]:=by
 obtain⟨hj,rfl⟩:=zC1.1 h;unfold dT;rw[zF1 hj,List.map_append];rfl
theorem qV (ps:List Pa):isI (dT ps):=by
 intro x hx;obtain⟨a,_,rfl⟩:=zE1.1 hx;unfold tI;split <;> omega
theorem aL7 (x:Bool)(w:World):Calls Tryz.prog 70 #[.bool x] w fun e w'=>e=.returned (.int .i64 (tI x))/\w'=w:=by
 cases x <;> (go_enter Tryz.func70,Tryz.ntmps70;go_wp2;go_ret;exact⟨rfl,rfl⟩)
theorem qF {w:World}{ops:Array Oper}{rest:List Oper}{o:Oper}{a:Act}{Q:Exit->Act->World->Prop}(Lq:o.guard=none)(s x:Operand)
  (ho:o.op=.call { callee:=.builtin .append,args:=#[s,x],argTypes:=#[99,99] })
  (base:Nat) (v:Value) (n:Nat) (l:List Int) (hs:a.eval s=v) (Ak:w.ownsRow base 3 1 v n (iV l))
  (g:Nat) (z:Int) (hx:a.eval x=.slice (some ⟨g,0,none⟩) 1 1) (hc:w.cell? ⟨g,0,none⟩=some (.int .i64 z)) (Bg:n<=1099511627776) (Ca:base<=w.heap.size)
  (h:∀v' w',w'.ownsRow base 3 1 v' (n+1) (iV (l++[z]))->w.grownBy w' v.ownBlock->wpList Tryz.prog ops Q rest (a.put o.dst v') w'):wpList Tryz.prog ops Q (o :: rest) a w:=by
 obtain⟨i0,hi,Dc,De,Db⟩:=info_parts aTl;refine wpList_append_own w Lq s x 99 ho base 3 i0 (.int .i64 0) 1 8 Tryz.underlying99 hi Dc De Db rfl A6 v n _ hs Ak ⟨g,0,none⟩ 1 1 [.int .i64 z] hx rfl ?_ (by simp[Value.oneCell']) A13 A0 Ca ?_
 .
  intro j u hu
  match j,hu with
  | 0,hu=>simp at hu;subst hu;exact hc| j+1,hu=>simp at hu
 .
  intro v' w' ho' hg' _;exact h v' w' (by simpa [iV] using ho') hg'
set_option maxHeartbeats 2000000 in
theorem aAb (q:Pr)(vs:List Value)(w:World)(h:aL w q.fl vs)(hn:q.params.length<=1048576):
  Calls Tryz.prog 44 #[agg vs] w fun e w'=>∃v,e=.returned v/\Ob w' 3 w.heap.size w'.heap.size v q.params.length (iV (dT q.params))/\Below w.heap.size w w':=by
 obtain⟨v0,_,rfl,_,v1,_,rfl,_,v2,_,rfl,h2,v3,_,rfl,_,v4,_,rfl,_,rfl⟩:=h;obtain⟨a,c,rfl,hR⟩:=h2.list;have x0:=Blk.new w 111 [v0,v1,.slice a (q.params.map Pa.fl).length c,v3,v4];have y0:Below w.heap.size w (w.alloc (.cells #[v0,v1,.slice a (q.params.map Pa.fl).length c,v3,v4] 111 (0,0))):=(zD2 _ _).alloc (zB0 _) _;obtain⟨n,hN⟩:=zx (q.params.length);have HL:=hid hN.symm;have HR:=hid hR;rw[zB2,<-hN]at x0 y0;rw[zB2];rw[<-hN]at hn ⊢;simp only[List.toArray]at x0;simp only[agg];clear hR h2 hN;go_enter Tryz.func44,Tryz.ntmps44;go_upto_region 1 with fail;generalize w.alloc (.cells #[v0,v1,.slice a n c,v3,v4] 111 (0,0))=w1 at *;obtain⟨gx,Au⟩:=zx (w.heap.size);have HX:=hid x0;have H1:=hid y0;have hlt1:=x0.lt;clear x0 y0 Au gx;go_wp2_with fail;go_loopw [3,4] (fun kv i wr=>∃j:Nat,j<=n/\i=.int .i64 j/\Hid (wr.ownsRow w1.heap.size 3 1 kv j (iV (dT (q.params.take j))))/\Hid (Below w1.heap.size w1 wr)) (fun _ i _=>n-(intOf i).toNat)
 case atStart=>exact⟨0,zD1 _,rfl,World.ownsRow_nil _ _ _ _,zD2 _ _⟩
 case round=>
  obtain⟨j,hj,rfl,ho,hb⟩:=hrel;obtain⟨a3,c3,rfl,_,_,_,_⟩:=aH ho.out;have x1:=HX.out.below hb.out hlt1;have k2:=x1.k 2;by_cases Ad:j<n
  .
   obtain⟨x,hx⟩:∃x,q.params[j]?=some x:=⟨_,zA0 (by rw[HL.out];exact Ad)⟩
   obtain⟨bx,offx,rfl⟩:=aX.addr HR.out (by rw[zB2,HL.out];omega);obtain⟨vs,Al,Ab⟩:=(aX.el HR.out (show(q.params.map Pa.fl)[j]?=some x.fl by rw[zA2,hx];rfl)).vals;obtain⟨y0,us,rfl,⟨ax,cx,rfl,_⟩,y1,us1,rfl,rfl,rfl⟩:=Al;have Fi:=H1.out.trans (hb.out.mono H1.out.size);have r1:=aB (Ab 1 _ rfl) Fi;have HK:=hid (xB hx);have HT:=aL7 x.arr wr;have Ge:=hb.out.size;have Hr:(wr.alloc (.cells #[.int .i64 (tI x.arr)] 3)).cell? ⟨wr.heap.size,0,none⟩=some (.int .i64 (tI x.arr)):=by simp
   have Jh:Hid ((wr.alloc (.cells #[.int .i64 (tI x.arr)] 3)).ownsRow w1.heap.size 3 1 (.slice a3 j c3) j (iV (dT (q.params.take j)))):=ho.out.alloc _;have Gc:Hid (Below w1.heap.size w1 (wr.alloc (.cells #[.int .i64 (tI x.arr)] 3))):=hb.out.alloc Ge _;clear Ab hx ho hb x1 Fi;go_wp2_with fail;refine HT.mono ?_;rintro e w2 ⟨rfl,rfl⟩;go_wp2_with (at_builtin;refine qF rfl _ _ rfl w1.heap.size _ j _ rfl Jh.out w2.heap.size (tI x.arr) rfl Hr A0 A12 ?_);intro v3 w3 Nf Bn;have Zl:Hid (w3.ownsRow w1.heap.size 3 1 v3 (j+1) (iV (dT (q.params.take (j+1))))):=by rw[HK.out];exact Nf
   have Bv:Hid (Below w1.heap.size w1 w3):=Gc.out.grown Bn Gc.out.size (fun k hk=>(Jh.out.lt k hk).1);clear Jh Gc Nf Bn HT r1 Hr Ge k2;go_wp2;go_roundw
   case rel=>exact⟨j+1,by omega,by go_num,Zl,Bv⟩
   case measure=>simp[intOf];omega
  .
   have:n=j:=A0;subst this;have hO:=ho.out;rw[zD3 (by rw[HL.out];exact zB0 _)]at hO;have HF:Hid (Ob wr 3 w.heap.size wr.heap.size (.slice a3 n c3) n (iV (dT q.params))/\Below w.heap.size w wr):=⟨⟨kG hO H1.out.size,fun k hk=>(hO.lt k hk).2⟩,H1.out.trans (hb.out.mono H1.out.size)⟩
   clear hO ho hb x1;go_wp2;go_ret;exact⟨_,rfl,HF.out⟩
theorem A22{p:Prop}(h:p:=by simp only[results,Tryz.results113];simp[go_sem]):p:=h
theorem QA41{p:Prop}(h:p:=by
 go_wp2_with fail
 refine H1.mono ?_
 rintro e w2 ⟨rfl,hg⟩
 have yg:=aC y0 hg
 clear q2 q3 k0 k1 k2 k3 z0 z1 y0 hg H1
 go_wp2_with fail
 refine zI1 (v:=.tuple #[.slice none 0 0,.bool false]) A22 rfl ⟨.slice none 0 0,by rw[HF.out];rfl,(fun k hk=>by rw[HF.out]at hk;cases hk),yg⟩):p:=h
def aN2 (m:Mo)(x:List Int):Option (List Int):=(ix (m.procs.map Pr.name) x).bind fun i=>m.procs[i]?.map fun q=>dT q.params
def sQ (fs:List Fa)(x:List Int):Option Fa:=(ix (fs.map Fa.name) x).bind fun i=>fs[i]?
def wN (f:Fa)(x:List Int):Option (List Int):=(ix (f.procs.map Fp.name) x).bind fun i=>f.procs[i]?.map Fp.kinds
def fQ (m:Mo)(fs:List Fa)(mod name:List Int):Option (List Int):=
 if mod=[] then aN2 m name else (sQ fs mod).bind fun f=>if mod ∈ m.uses then wN f name else none
theorem qT {m:Mo}{fs:List Fa}{mod name:List Int}(h:mod=[]):fQ m fs mod name=aN2 m name:=if_pos h
theorem qU {m:Mo}{fs:List Fa}{mod name:List Int}(h:mod ≠ []):fQ m fs mod name=(sQ fs mod).bind fun f=>if mod ∈ m.uses then wN f name else none:=if_neg h
set_option maxHeartbeats 8000000 in
theorem aBz (m:Mo)(fs:List Fa)(x0 x1:Int)(mod name:List Int)(ks:List Ex)(vs es:List Value)(b:Option Addr)(nf d:Nat)(w:World)(hm:aL w m.fl vs)(hf:aX w b d 2 (fs.map Fa.fl))(Ia:fs.length=nf)(he:aL w (Ex.fl ⟨x0,x1,mod,name,ks⟩) es)
  (Qu:∀q ∈ m.procs,q.params.length<=1048576):
  Calls Tryz.prog 113 #[agg vs,.slice b nf d,agg es] w fun e w'=>∃v,e=.returned (.tuple #[v,.bool (fQ m fs mod name).isSome])/\(∀k,fQ m fs mod name=some k->(Fl.i k).Rd w' v)/\w.grownBy w' none:=by
 have Cu:=hm;obtain⟨v0,_,rfl,_,v1,_,rfl,Uh,v2,_,rfl,_,v3,_,rfl,hpr,rfl⟩:=hm;obtain⟨e0,_,rfl,rfl,e1,_,rfl,rfl,e2,_,rfl,⟨am,cm,rfl,Eq,_⟩,e3,_,rfl,⟨an,cn,rfl,Be,_⟩,e4,_,rfl,_,rfl⟩:=he;obtain⟨au,cu,rfl,hU⟩:=Uh.list;obtain⟨ap,cp,rfl,hP⟩:=hpr.list;have Ul:=hP.len9;have hf9:=hf.len9;rw[zB2]at Ul hf9;rw[Ia]at hf9;have hul:(dK m.uses).length=m.uses.length:=by simp[dK]
 simp only[zB2,hul]at Cu ⊢;obtain⟨np,Es⟩:=zx (m.procs.length);obtain⟨nu,hnu⟩:=zx (m.uses.length);have Ql:=hid Es.symm;have HNU:=hid hnu.symm;rw[<-Es,<-hnu]at Cu ⊢;rw[<-Es]at Ul;have HM:=hid Cu;have HP:=hid hP;have HU:=hid hU;have HFS:=hid hf;have HFL:=hid Ia;have HBM:=hid Eq;have Mu:=hid Be;have HPL:=hid Qu;clear Cu hP hU hf Ia Eq Be Uh hpr Es hnu Qu hul;have z0:=(Blk.new w 81 [v0,.slice au nu cu,v2,.slice ap np cp]).old (o:=.cells #[.int .i64 x0,.int .i64 x1,.slice am mod.length cm,.slice an name.length cn,e4] 147 (0,0));have z1:=Blk.new (w.alloc (.cells #[v0,.slice au nu cu,v2,.slice ap np cp] 81 (0,0))) 147 [.int .i64 x0,.int .i64 x1,.slice am mod.length cm,.slice an name.length cn,e4];have hgz:(w.alloc (.cells #[v0,.slice au nu cu,v2,.slice ap np cp] 81 (0,0))).heap.size=w.heap.size+1:=by simp
 have y0:w.grownBy ((w.alloc (.cells #[v0,.slice au nu cu,v2,.slice ap np cp] 81 (0,0))).alloc (.cells #[.int .i64 x0,.int .i64 x1,.slice am mod.length cm,.slice an name.length cn,e4] 147 (0,0))) none:=aC (aE w _ none) (aE _ _ none);simp only[List.toArray]at z0 z1;rw[hgz]at z1;clear hgz;simp only[agg];go_enter Tryz.func113,Tryz.ntmps113;go_upto_region 1 with fail;generalize (w.alloc (.cells #[v0,.slice au nu cu,v2,.slice ap np cp] 81 (0,0))).alloc (.cells #[.int .i64 x0,.int .i64 x1,.slice am mod.length cm,.slice an name.length cn,e4] 147 (0,0))=w1 at *;have q2:=z1.k 2;have q3:=z1.k 3;obtain⟨k0,k1,k2,k3⟩:=z0.c4;by_cases Fv:mod=[]
 .
  have HQ:Hid (fQ m fs mod name=aN2 m name):=qT Fv;have Qw:mod.length=0:=by rw[Fv];rfl
  rw[Qw]at q2;have H1:=aEa m _ w1 (aL.below HM.out (aA y0)) an name.length cn name (aV.below Mu.out (aA y0));simp only[agg,List.toArray]at H1;cases hi:ix (m.procs.map Pr.name) name with
  | none=>
   have HF:Hid (fQ m fs mod name=none):=by show _=_;rw[HQ.out];unfold aN2;rw[hi];rfl
   rw[dH hi]at H1;clear hi Fv;exact QA41
  | some i=>
   obtain⟨q,hq,_⟩:=mD hi;have HF:Hid (fQ m fs mod name=some (dT q.params)):=by show _=_;rw[HQ.out];unfold aN2;rw[hi,Option.bind_some,hq];rfl
   have Xn:i<np:=by have:=iM hq;rw[Ql.out]at this;exact this
   have hql:=HPL.out q (zA3 hq);rw[cK hi]at H1;obtain⟨bp,off,ys,rfl,Lh,Ab⟩:=aX.cellsAt HP.out (show(m.procs.map Pr.fl)[i]?=some q.fl by rw[zA2,hq];rfl);have HY:Hid (aL w q.fl ys):=Lh;obtain⟨s0,_,rfl,_,s1,_,rfl,_,s2,_,rfl,_,s3,_,rfl,_,s4,_,rfl,_,rfl⟩:=Lh;have HR:Hid (∀z v,[s0,s1,s2,s3,s4][z]?=some v->w.cell? ⟨bp,off+i*5+z,none⟩=some v):=Ab;clear hi Fv Ab hq;have Tp:¬((i:Int)<0):=A0;go_wp2_with fail;refine M976 ?_;intro w2 hg yg;replace z0:=z0.below (aA hg) z0.lt;have k3:=z0.k 3;have r0:=aB (HR.out 0 _ rfl) (aA yg);have r1:=aB (HR.out 1 _ rfl) (aA yg);have r2:=aB (HR.out 2 _ rfl) (aA yg);have r3:=aB (HR.out 3 _ rfl) (aA yg);have r4:=aB (HR.out 4 _ rfl) (aA yg);rw[zG1]at r0;have H2:=aAb q _ w2 (aL.below HY.out (aA yg)) hql;simp only[agg,List.toArray]at H2;clear q2 q3 k0 k1 k2 z0 z1 y0 hg H1;go_wp2_with fail;refine H2.mono ?_;rintro e w3 ⟨v,rfl,ho,hb⟩;have yh:=aC yg (aN hb none);have HV:Hid ((Fl.i (dT q.params)).Rd w3 v):=Ob.irow (l:=dT q.params) (by have:(dT q.params).length=q.params.length:=(by simp[dT]);rw[this];exact ho) (qV _);clear H2 ho hb yg r0 r1 r2 r3 r4 k3;go_wp2_with fail;refine zI1 (v:=.tuple #[v,.bool true]) A22 rfl ⟨v,by rw[HF.out];rfl,(fun k hk=>by rw[HF.out]at hk;cases hk;exact HV.out),yh⟩
 .
  have HQ:Hid (fQ m fs mod name=(sQ fs mod).bind fun f=>if mod ∈ m.uses then wN f name else none):=qU Fv;have Qw:(mod.length:Int) ≠ 0:=by
   intro e;exact Fv (zE0 A0)
  have hmb:((mod.length:Int) == 0)=false:=by simpa using Qw
  have H1:=pL fs b nf d w1 (aX.below HFS.out (aA y0)) HFL.out am mod.length cm mod (aV.below HBM.out (aA y0));clear Fv;cases hi:ix (fs.map Fa.name) mod with
  | none=>
   have HF:Hid (fQ m fs mod name=none):=by show _=_;rw[HQ.out];unfold sQ;rw[hi];rfl
   rw[dH hi]at H1;clear hi;exact QA41
  | some i=>
   obtain⟨f,Za,_⟩:=mD hi;have hfq:sQ fs mod=some f:=by unfold sQ;rw[hi,Option.bind_some,Za]
   have Xn:i<nf:=by have:=iM Za;rw[HFL.out]at this;exact this
   rw[cK hi]at H1;obtain⟨bf,off,ys,rfl,Lh,Ab⟩:=aX.cellsAt HFS.out (show(fs.map Fa.fl)[i]?=some f.fl by rw[zA2,Za];rfl);have HY0:=Lh;obtain⟨s0,_,rfl,_,s1,_,rfl,Jw,rfl⟩:=Lh;obtain⟨aq,cq,rfl,hQ⟩:=Jw.list;have hq9:=hQ.len9;rw[zB2]at hq9;rw[zB2]at Ab HY0;obtain⟨nq,Jz⟩:=zx (f.procs.length);have HNQ:=hid Jz.symm;rw[<-Jz]at Ab HY0 hq9;have HY:=hid HY0;have HR0:Hid (w.cell? ⟨bf,off+i*2,none⟩=some s0):=Ab 0 _ rfl;have HR1:Hid (w.cell? ⟨bf,off+i*2+1,none⟩=some (.slice aq nq cq)):=Ab 1 _ rfl;have HLQ:=hid hQ;clear hi Ab Za hQ Jw HY0 Jz;have Tp:¬((i:Int)<0):=A0;go_wp2_with fail;refine M976 ?_;intro w2 hg yg;replace z0:=z0.below (aA hg) z0.lt;replace z1:=z1.below (aA hg) z1.lt;clear q2 q3 k0 k1 k2 k3 y0 hg H1;have q2:=z1.k 2;have k1:=z0.k 1;have H2:=aPi m.uses au nu cu w2 (aX.below HU.out (aA yg)) HNU.out am mod.length cm mod (aV.below HBM.out (aA yg));by_cases Hn:mod ∈ m.uses
   .
    rw[zB3 Hn]at H2;have Qk:Hid (fQ m fs mod name=wN f name):=by show _=_;rw[HQ.out,hfq,Option.bind_some,if_pos Hn]
    clear Hn hfq;go_wp2_with fail;refine H2.mono ?_;rintro e w3 ⟨rfl,hg⟩;have yh:=aC yg hg;replace z0:=z0.below (aA hg) z0.lt;replace z1:=z1.below (aA hg) z1.lt;clear q2 k1 yg hg H2;have q3:=z1.k 3;go_wp2_with fail;have r0:=aB HR0.out (aA yh);have r1:=aB HR1.out (aA yh);have HS:∀{wl:World},Below w3.heap.size w3 wl->wl.cell? ⟨bf,off+i*2,none⟩=some s0/\wl.cell? ⟨bf,off+i*2+1,none⟩=some (.slice aq nq cq)/\wl.cell? ⟨w.heap.size+1,3,none⟩=some (.slice an name.length cn):=fun hb=>⟨aB r0 hb,aB r1 hb,aB q3 hb⟩;have Ao:=HS (wl:=w3.drew) (zD2 _ _).drew;have yd:=(aA yh).drew;have H3:=lM f _ w3.drew (aL.below HY.out yd) an name.length cn name (aV.below Mu.out yd);simp only[agg,List.toArray]at H3;refine zK0 (S:=fun wl=>wl.cell? ⟨bf,off+i*2,none⟩=some s0/\wl.cell? ⟨bf,off+i*2+1,none⟩=some (.slice aq nq cq)/\wl.cell? ⟨w.heap.size+1,3,none⟩=some (.slice an name.length cn)) A1 Ao (fun Aa=>?_);refine ta 0 ?_;refine ta 1 ?_;refine ta 2 ?_;try simp only[nrm]
    refine ta 3 ?_;refine ta 4 ?_;refine ta 5 ?_;try simp only[nrm]
    refine ra 6 fun K hK=>?_;go_simp
    (with_reducible refine H3.mono ?_)
    rintro e w4 ⟨rfl,Ah⟩;have b4:Below w3.heap.size w3 w4:=(zD2 w3.heap.size w3).drew.trans (aA Ah);have yi:=aC yh (aN b4 none);have Cq:=HS b4;go_wp2_with fail;refine hK.out _ _ (Cq) (fun Aa=>?_);clear hK K;try simp only[nrm]
    refine ta 7 ?_;try simp only[nrm]
    refine zK1 A1 ?_ _;have rr1:=Cq.2.1;clear HS Ao Cq Aa H3 r0 r1 q3 yd z0 z1 yh Ah b4;cases hj:ix (f.procs.map Fp.name) name with
    | none=>
     have HF:Hid (fQ m fs mod name=none):=by show _=_;rw[Qk.out];unfold wN;rw[hj];rfl
     rw[dH hj];clear hj rr1;go_wp2_with fail;refine zI1 (v:=.tuple #[.slice none 0 0,.bool false]) A22 rfl ⟨.slice none 0 0,by rw[HF.out];rfl,(fun k hk=>by rw[HF.out]at hk;cases hk),yi⟩
    | some j=>
     obtain⟨y,hy,_⟩:=mD hj;have HF:Hid (fQ m fs mod name=some y.kinds):=by show _=_;rw[Qk.out];unfold wN;rw[hj,Option.bind_some,hy];rfl
     have Xm:j<nq:=by have:=iM hy;rw[HNQ.out]at this;exact this
     obtain⟨bq,off2,ys,rfl,Lh,Ab⟩:=aX.cellsAt HLQ.out (show(f.procs.map Fp.fl)[j]?=some y.fl by rw[zA2,hy];rfl);obtain⟨t0,_,rfl,_,t1,_,rfl,ht1,rfl⟩:=Lh;have HV:=hid (ht1.below (aA yi));have r2:=aB (Ab 1 _ rfl) (aA yi);obtain⟨at1,ct1,rfl,_⟩:=ht1;rw[cK hj];have hj0:¬((j:Int)<0):=A0;clear hj hy Ab;generalize Ds:y.kinds.length=kl at *;go_wp2_with fail;refine zI1 (v:=.tuple #[.slice at1 kl ct1,.bool true]) A22 rfl ⟨.slice at1 kl ct1,by rw[HF.out];rfl,(fun k hk=>by rw[HF.out]at hk;cases hk;exact HV.out),yi⟩
   .
    rw[zC2 Hn]at H2;have HF:Hid (fQ m fs mod name=none):=by show _=_;rw[HQ.out,hfq,Option.bind_some,if_neg Hn]
    clear Hn hfq;go_wp2_with fail;refine H2.mono ?_;rintro e w3 ⟨rfl,hg⟩;have yh:=aC yg hg;clear q2 k1 yg hg H2 z0 z1;go_wp2_with fail;refine zI1 (v:=.tuple #[.slice none 0 0,.bool false]) A22 rfl ⟨.slice none 0 0,by rw[HF.out];rfl,(fun k hk=>by rw[HF.out]at hk;cases hk),yh⟩
def yM (v:Va):Bool:=aO v.name false && inB v.size 0 20
def aSy (a:Pa):Bool:=aO a.name false
def wI (x:List Int):Bool:=aO x false
def sK (x:List Int):Bool:=aO x true
def qH (q:Pr):Bool:=aO q.name false && decide (q.params.length<=4) && q.params.all aSy && decide (q.locals.length<=8) && q.locals.all wI
def p0:Pr:=⟨[],false,[],[],[]⟩
def gL:List Pr->Nat
 | []=>0| q :: l=>aK q.body+gL l
def pT (l:List Pr)(left:Int):Bool:=(List.range l.length).all fun j=>cJ (l[j]?.getD p0).body 1 (left-(gL (l.take j):Int))
def cI (m:Mo):Bool:=aO m.name true && decide (m.uses.length<=6) && m.uses.all sK && decide (m.vars.length<=8) && m.vars.all yM && decide (m.procs.length<=8) && m.procs.all qH && pT m.procs 250
theorem aD3 (l m:List Pr):gL (l++m)=gL l+gL m:=by
 induction l with
 | nil=>simp[gL]| cons x l ih=>simp[gL,ih];omega
theorem aBs {l:List Pr}{j:Nat}{x:Pr}(h:l[j]?=some x):gL (l.take (j+1))=gL (l.take j)+aK x.body:=by
 obtain⟨hk,rfl⟩:=zC1.1 h;rw[zF1 hk,aD3];simp[gL]
section
variable{l:List Int}{vs:List Value}{base g:Nat}{x:Option Nat}{T:TypeId}{v:Value}{w w':World}
def sI (s:ByteArray):List Int:=s.data.toList.map fun b=>(b.toNat:Int)
theorem aLd (s:ByteArray):∀x ∈ sI s,0<=x/\x<=255:=by
 intro x hx;obtain⟨b,_,rfl⟩:=zE1.1 hx;have:=b.toNat_lt;omega
def aM2 (o:Option Obj):Prop:=∃cs,o=some (.cells cs 5 (0,0))
structure eG (base:Nat) (x:Option Nat) (w w':World):Prop where
 os:w'.os=w.os
 tape:w'.tape=w.tape
 output:w'.output=w.output
 size:w.heap.size<=w'.heap.size
 block:∀k,k<w.heap.size->(k<base\/¬aM2 w.heap[k]?)->some k ≠ x->w'.heap[k]?=w.heap[k]?
theorem eG.refl (base:Nat)(x:Option Nat)(w:World):eG base x w w:=⟨rfl,rfl,rfl,zB0 _,fun _ _ _ _=>rfl⟩
theorem eG.trans {base:Nat}{x:Option Nat}{a b c:World}(h:eG base x a b)(k:eG base x b c):eG base x a c:=
 ⟨k.os.trans h.os,k.tape.trans h.tape,k.output.trans h.output,zF2 h.size k.size,fun i hi ho hx=>by
  have h1:=h.block i hi ho hx;exact(k.block i (Nat.lt_of_lt_of_le hi h.size) (by rw[h1];exact ho) hx).trans h1⟩
theorem eG.of(h:w.grownBy w' none):eG base x w w':=
 ⟨h.os,h.tape,h.output,h.size,fun k hk _ _=>h.block k hk A9⟩
theorem eG.own{n:Nat}(ho:Own w base v n l)(h:w.grownBy w' v.ownBlock):eG base x w w':=by
 refine⟨h.os,h.tape,h.output,h.size,fun k hk hn _=>h.block k hk (fun e=>?_)⟩;rcases ho.1.2 with⟨rfl,_⟩|⟨g,cap,cur,rfl,hg,hh,_⟩
 .
  simp[Value.ownBlock]at e
 .
  simp only[Value.ownBlock,zG2]at e;subst e;rcases hn with hn|hn
  .
   omega
  .
   exact hn ⟨_,hh⟩
theorem eG.below{w0:World}(h:eG base x w w')(hb:Below w0.heap.size w0 w)(h0:w0.heap.size<=base)(hx:∀k,x=some k->w0.heap.size<=k):Below w0.heap.size w0 w':=
 ⟨h.os.trans hb.os,h.tape.trans hb.tape,h.output.trans hb.output,zF2 hb.size h.size,fun k hk=>(h.block k (Nat.lt_of_lt_of_le hk hb.size) (.inl A0) (fun e=>by have:=hx k e.symm;omega)).trans (hb.block k hk)⟩
theorem eG.blk(h:eG base x w w')(hb:Blk w g T vs)(hT:T ≠ 5)(hx:some g ≠ x):Blk w' g T vs:=by
 refine(h.block g hb.lt (.inr ?_) hx).trans hb;rintro⟨cs,e⟩;have:=hb.symm.trans e;simp only[zG2,Obj.cells.injEq]at this;exact hT this.2.1
theorem eG.wide(h:eG base none w w')(x:Option Nat):eG base x w w':=⟨h.os,h.tape,h.output,h.size,fun k hk ho _=>h.block k hk ho A9⟩
theorem eG.mono{Cm:Nat}(h:eG base x w w')(hb:Cm<=base):eG Cm x w w':=
 ⟨h.os,h.tape,h.output,h.size,fun k hk ho hx=>h.block k hk (ho.imp (fun h=>by omega) id) hx⟩
theorem eG.put{i:Nat}:eG base (some g) w (w.setCell ⟨g,i,none⟩ v):=
 ⟨rfl,rfl,rfl,by simp,fun k hk _ Ae=>heap_setCell_other w ⟨g,i,none⟩ k v (fun e=>Ae (by simp at e;rw[e]))⟩
theorem Own.free{n:Nat}(h:Own w base v n l)(hb:Blk w g T vs)(hT:T ≠ 5):v.ownBlock ≠ some g:=by
 intro e;rcases h.1.2 with⟨rfl,_⟩|⟨k,cap,cur,rfl,hg,hh,_⟩
 .
  simp[Value.ownBlock]at e
 .
  simp only[Value.ownBlock,zG2]at e;subst e;have:=hb.symm.trans hh;simp only[zG2,Obj.cells.injEq]at this;exact hT this.2.1
theorem Blk.below_row{row:Option Nat}(h:Blk w g T vs)(hg:w.grownBy w' row)(Ae:row ≠ some g):Blk w' g T vs:=(hg.block g h.lt (fun e=>Ae e.symm)).trans h
def aV5:List (List UInt8):=[[59],[66,69,71,73,78],[84,72,69,78],[69,76,83,69],[68,79]]
def aWy (s:ByteArray):Int:=if s.toList ∈ aV5 then 10 else 32
def aOv (s:ByteArray):List Int:=sI s++[aWy s]
theorem mT (s:ByteArray):(sI s).length=s.size:=by unfold sI;rw[zB2,Array.length_toList];rfl
end
def nU (n:Int):List Int:=(Lib.itoa n).map fun b=>(b.toNat:Int)
def opI (n:Int):List Int:=if n=0 then [43] else if n=1 then [45] else if n=2 then [42] else if n=3 then [47] else if n=4 then [60] else [61]
def xF (s:List Int):List (List Int)->List Int
 | []=>[]| [x]=>x| x :: y :: l=>x++s++xF s (y :: l)
def aFa (k n:Int)(mod name:List Int)(ts:List (List Int)):List Int:=
 if k=0 then nU n++[32]
 else if k=1 then name++[32]
 else if k=2 then name++[32]++[91,32]++ts[0]?.getD []++[93,32]
 else if k=3 then [40,32]++ts[0]?.getD []++(opI n++[32])++ts[1]?.getD []++[41,32]
 else if k=4 then [73,78,32]
 else if k=5 then [76,69,78,32]++(name++[32])
 else if k=6 then (if mod.length=0 then [] else mod++[32]++[46,32])++(name++[32])++([40,32]++xF [44,32] ts++[41,32])
 else [64,32]++(name++[32])
mutual
def prE:Ex->List Int
 | .mk k n m a ks=>aFa k n m a (aDm ks)
def aDm:List Ex->List (List Int)
 | []=>[]| e :: l=>prE e :: aDm l
end
theorem aG7 (l:List Ex):aDm l=l.map prE:=by
 induction l with
 | nil=>rfl| cons x l ih=>simp[aDm,ih]
def aC7 (k n:Int)(name:List Int)(ts:List (List Int))(body els:List Int):List Int:=
 if k=0 then name++[32]++[58,61,32]++ts[0]?.getD []++[59,10]
 else if k=1 then name++[32]++[91,32]++ts[0]?.getD []++[93,32]++[58,61,32]++ts[1]?.getD []++[59,10]
 else if k=2 then [73,70,32]++ts[0]?.getD []++[84,72,69,78,10]++body++[69,76,83,69,10]++els++[69,78,68,32]++[59,10]
 else if k=3 then [87,72,73,76,69,32]++ts[0]?.getD []++[68,79,10]++body++[69,78,68,32]++[59,10]
 else if k=4 then [82,69,84,85,82,78,32]++ts[0]?.getD []++[59,10]
 else if k=5 then [79,85,84,32]++ts[0]?.getD []++[59,10]
 else if k=6 then [84,82,65,80,32]++(nU n++[32])++[59,10]
 else [67,65,76,76,32]++ts[0]?.getD []++[59,10]
mutual
def prS:St->List Int
 | .mk k n a ks bs es=>aC7 k n a (aDm ks) (prB bs) (prB es)
def prB:List St->List Int
 | []=>[]| s :: l=>prS s++prB l
end
def aSw (v:Va):List Int:=[86,65,82,32]++(v.name++[32])++(if 0<v.size then [91,32]++(nU v.size++[32])++[93,32] else [])++[59,10]
def aV0 (a:Pa):List Int:=(if a.arr then [64,32] else [])++(a.name++[32])
def aLl (x:List Int):List Int:=[86,65,82,32]++(x++[32])++[59,10]
def aSx (x:List Int):List Int:=[73,77,80,79,82,84,32]++(x++[32])++[59,10]
def aO0 (q:Pr):List Int:=[80,82,79,67,32]++(q.name++[32])++(if q.opn then [42,32] else [])++([40,32]++xF [44,32] (q.params.map aV0)++[41,32])++[59,10]++q.locals.flatMap aLl++[66,69,71,73,78,10]++prB q.body++([69,78,68,32]++[59,10])
def prM (m:Mo):List Int:=[77,79,68,85,76,69,32]++(m.name++[32])++[59,10]++m.uses.flatMap aSx++m.vars.flatMap aSw++m.procs.flatMap aO0++[69,78,68,32]++[46,10]
theorem aFh:∀(k u:Nat),u<10 ^ (k+1)->(Lib.decDigits u).length<=k+1:=by
 intro k;induction k with
 | zero=>intro u h;rw[Lib.decDigits,dif_pos A0];simp| succ k ih=>
  intro u h;rw[Lib.decDigits];split
  .
   simp
  .
   have:=ih (u / 10) (by rw[Nat.pow_succ]at h;omega);simp only[zA1,List.length_singleton];omega
theorem lL {n:Int}(h0:-9223372036854775808<=n)(h1:n<=9223372036854775807):(nU n).length<=21:=by
 unfold nU Lib.itoa;rw[zB2];split
 .
  have:=aFh 19 n.natAbs A0;simp only[zB1];omega
 .
  have:=aFh 19 n.toNat A0;omega
def Six (n:Int):Prop:=n=0\/n=1\/n=2\/n=3\/n=4\/n=5
theorem zN {k n:Int}{mod name:List Int}{ks:List Ex}(h:uI (.mk k n mod name ks)=true):iF k n mod name ks.length=true/\jW ks=true:=by
 unfold uI at h;simp only[zC0]at h;exact⟨h.1.1,h.2⟩
theorem aHk {k n:Int}{mod name:List Int}{nk:Nat}(h:iF k n mod name nk=true)(hk:eF k=true):aO name false=true:=by
 unfold iF at h;simp only[zC0]at h;rw[hk]at h;exact h.1.2.2
theorem aS1 {n:Int}{mod name:List Int}{nk:Nat}(h:iF 3 n mod name nk=true):n=0\/n=1\/n=2\/n=3\/n=4\/n=5:=by
 unfold iF at h;simp only[zC0]at h;have:=h.1.2.1.1;simp[inB,gD,dM]at this;omega
section
variable{ks:List Ex}{nb:Nat}
theorem qS{k n:Int}{name:List Int}{bs es:List St}(h:aF9 (.mk k n name ks bs es)=true):oU k n name ks bs.length es.length=true/\jW ks=true/\iY bs=true/\iY es=true:=by
 unfold aF9 at h;simp only[zC0]at h;exact⟨h.1.1.1,h.1.1.2,h.1.2,h.2⟩
theorem tO{k n:Int}{name:List Int}{ne:Nat}(h:oU k n name ks nb ne=true)(hk:eK k=true):aO name false=true:=by
 unfold oU at h;simp only[zC0]at h;rw[hk]at h;exact h.1.1.1.1.2.2
theorem yV{k n:Int}{name:List Int}{ne:Nat}(h:oU k n name ks nb ne=true):(ks.length:Int)=cD k/\0<=k/\k<=7/\0<=n/\n<=cX k:=by
 unfold oU at h;simp only[zC0]at h;have h1:=h.1.1.1.1.2.1.2;have h2:=h.1.1.1.1.1;have h3:=h.1.1.1.1.2.1.1;simp[inB]at h1 h2 h3;omega
end
end Go.Proofs.YtcbhdhmhidpdgaaGreat

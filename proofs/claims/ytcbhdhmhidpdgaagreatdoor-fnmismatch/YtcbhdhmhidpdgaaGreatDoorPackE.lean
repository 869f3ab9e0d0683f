import Derived.ArgAppend
import Derived.Deep.Upon
import Derived.Laws.BytesArg
import Derived.Test.YtcbhdhmhidpdgaaGreatDoorPackC
import Derived.Deep.RegionHeld3
namespace Go.Proofs.YtcbhdhmhidpdgaaGreatDoor
open Go.RowKit
set_option linter.unusedVariables false
set_option linter.unusedSimpArgs false
set_option maxRecDepth 100000
set_option maxHeartbeats 4000000
section
theorem A33{p:Prop}(h:p:=by intro k hk;cases hk):p:=h
theorem QA135{p:Prop}(h:p:=by
 go_ret
 exact⟨_,rfl,zB0 _,HC.out _,(zD2 _ _).alloc (zB0 _) _⟩):p:=h
variable{g:Nat}{w w':World}
theorem Cur.kept{row:Option Nat}(h:Cur w g)(hg:w.grownBy w' row)(hr:∀k,row=some k->g<k):Cur w' g:=by
 obtain⟨a,n,c,l,i,h,hb,Td,hi1,hn,hl,Bv,hc⟩:=h;have Ad:g<w.heap.size:=(zI3.1 hb).1;refine⟨a,n,c,l,i,h,by rw[hg.block g Ad (fun e=>by have:=hr g e.symm;omega)];exact hb,Td,hi1,hn,hl,Bv,fun hp=>?_⟩;obtain⟨b,off,e,Lf,Hk⟩:=hc hp;exact⟨b,off,e,Lf,fun j hj=>hg.cell (Hk j hj) (fun e=>by have:=hr b e.symm;omega)⟩
theorem Cur.lt(h:Cur w g):g<w.heap.size:=by
 obtain⟨a,n,c,l,i,h,hb,_⟩:=h;exact(zI3.1 hb).1
theorem Cur.alloc {w:World}{g:Nat}(h:Cur w g)(o:Obj):Cur (w.alloc o) g:=h.kept (World.grownBy_alloc w o none) A33
theorem cK{w1 w2:World}{row:Option Nat}(h1:w.grownBy w1 (some g))(h2:w1.grownBy w2 row)(hr:∀k,row=some k->w.heap.size<=k):w.grownBy w2 (some g):=
 ⟨h2.os.trans h1.os,h2.tape.trans h1.tape,h2.output.trans h1.output,zF2 h1.size h2.size,fun b hb Ae=>(h2.block b (Nat.lt_of_lt_of_le hb h1.size) (fun e=>by have:=hr b e.symm;omega)).trans (h1.block b hb Ae)⟩
theorem Below.drawn{B:Nat}{w0:World}(h:Below B w0 w)(hd:w.grownBy w' (some g))(hB:B<=w.heap.size)(hg:B<=g):Below B w0 w':=
 h.grown hd hB (by intro k hk;cases hk;exact hg)
set_option maxRecDepth 100000 in
set_option maxHeartbeats 2000000 in
theorem aUx (a:Option Addr)(n c:Nat)(l:List Int)(w:World)(h:aV w a n l)(hn:n<=9223372036854775807):
  Calls Tryz.prog 8 #[.slice a n c] w fun e w'=>∃g,e=.returned (.pointer (some ⟨g,0,none⟩))/\w.heap.size<=g/\Cur w' g/\Below w.heap.size w w':=by
 have Fx:∀hh:Int,Cur (w.alloc (.cells #[.slice a n c,.int .i64 0,.int .i64 hh] 76)) w.heap.size:=by
  intro hh;refine⟨a,n,c,l,0,hh,heap_alloc_new w _,by omega,by omega,hn,h.1,h.2.1,fun hp=>?_⟩;obtain⟨b,off,e,hc⟩:=h.2.2 hp;have Ck:b<w.heap.size:=zI2 w _ (hc 0 hp);exact⟨b,off,e,Ck,fun j hj=>by rw[((zD2 w.heap.size w).alloc (zB0 _) _).cell (p:=⟨b,off+j,none⟩) Ck];exact hc j hj⟩
 have HC:=hid Fx;clear Fx;obtain⟨_,Bv,hc⟩:=h;have ha30:=aTt;rcases zG0 n with h0|Dq
 .
  subst h0;clear hc Bv;go_enter Tryz.func8,Tryz.ntmps8;go_wp2;refine zH1 1 ?_;rw[zE2];go_wp2;exact QA135
 .
  obtain⟨b,off,rfl,hd⟩:=hc Dq;clear hc;go_enter Tryz.func8,Tryz.ntmps8;go_wp2;go_loop [3,4] (fun hh i=>∃(j:Nat) (q:Int),j<=n/\i=.int .i64 j/\hh=.int .i64 q) (fun _ i=>n-(intOf i).toNat)
  case atStart=>exact⟨0,_,zD1 _,rfl,rfl⟩
  case round=>
   obtain⟨j,q,hj,rfl,rfl⟩:=hrel;by_cases Ad:j<n/\j<4000
   .
    obtain⟨Ad,hlt2⟩:=Ad;have hx:=hd j Ad;have hb:=kD Bv j;clear hd;go_wp2;go_round
    case rel=>exact⟨j+1,_,by omega,by go_num,rfl⟩
    case measure=>simp[intOf];omega
   .
    clear hd;by_cases Ad:j<n;all_goals
     go_wp2;exact QA135
structure aQk (w w':World) (g:Nat) (a:Option Addr) (n c:Nat) (l:List Int):Prop where
 own:Own w' w.heap.size (.slice a n c) n l
 row:aV w' a n l
 cap:n<=c
 most:c<=maxLen
 nil:a=none->c=0
 block:∀k,(Value.slice a n c).ownBlock=some k->w.heap.size<=k/\k<w'.heap.size
 drawn:qD w w' g
theorem Own.madeD{v:Value}{n:Nat}{l:List Int}(h:Own w' w.heap.size v n l)(hd:qD w w' g):∃a c,v=.slice a n c/\aQk w w' g a n c l:=by
 have Ek:∀c,v=.slice none n c->c=0:=by
  exact QA70
 obtain⟨a,c,rfl,h1,h2,h3,h4⟩:=h.shape;exact⟨a,c,rfl,h,h3,h1,h2,fun e=>Ek c A82,h4,hd⟩
end
section
namespace Eg
variable{vs:List Value}{g m:Nat}{v:Value}{w w':World}
inductive Fd where
 | n|t|b (m:Nat)|i (m:Nat)|l (t lo m:Nat)
 deriving DecidableEq
def Dt:Nat->TypeId × List Fd
 | 0=>(22,[.b 4])| 1=>(147,[.b 4,.n])| 2=>(172,[.b 4,.t])| 3=>(138,[.b 4,.i 3])| 4=>(80,[.b 4,.l 3 0 3])| 5=>(176,[.n,.n,.b 4,.b 4,.l 0 0 0])| 6=>(176,[.n,.n,.b 4,.b 4,.l 5 0 3])| 7=>(176,[.n,.n,.b 4,.b 4,.l 6 0 3])| 8=>(176,[.n,.n,.b 4,.b 4,.l 7 0 3])| 9=>(179,[.n,.n,.b 4,.l 8 0 2,.l 0 0 0,.l 0 0 0])| 10=>(179,[.n,.n,.b 4,.l 8 0 2,.l 9 0 3,.l 9 0 1])| 11=>(179,[.n,.n,.b 4,.l 8 0 2,.l 10 0 4,.l 10 0 2])| 12=>(135,[.b 4,.t,.l 2 0 3,.l 0 0 2,.l 11 0 11])| 13=>(86,[.b 4,.l 0 0 2,.l 1 0 3,.l 12 1 3])| 14=>(179,[.n,.n,.b 4,.l 8 0 2,.l 10 0 4,.l 10 0 2])| 15=>(135,[.b 4,.t,.l 2 0 3,.l 0 0 2,.l 14 0 11])| 16=>(86,[.b 4,.l 0 0 3,.l 1 0 4,.l 15 1 3])| 17=>(86,[.b 4,.l 0 0 2,.l 1 0 3,.l 15 1 3])| 18=>(69,[.b 4,.n,.n])| 19=>(42,[.b 4,.b 4,.n])| 20=>(39,[.b 4,.l 18 0 8,.l 19 0 8,.n,.b 9001])| 21=>(150,[.n,.n,.n,.n,.n,.n])| 22=>(32,[.i 3])| 23=>(4,[.t])| 24=>(86,[.b 4,.l 0 0 2,.l 1 0 3,.l 12 0 3])| _=>(22,[.b 4])
def Lt:Nat->List Fd
 | 14=>[.n,.n,.b 4,.l 8 0 3,.l 10 0 4,.l 10 0 2]| 15=>[.b 4,.t,.l 2 0 4,.l 0 0 3,.l 14 0 11]| 20=>[.b 4,.l 18 0 8,.l 19 0 9,.n,.b 9001]| t=>(Dt t).2
inductive Rs where
 | bt|ii|st|rc (t:Nat)
 deriving DecidableEq
def Rs.k:Rs->Nat
 | .rc t=>(Dt t).2.length| _=>1
def Rs.ty:Rs->TypeId
 | .bt=>5| .ii=>3| .st=>9| .rc t=>(Dt t).1
theorem Rs.k0 (k:Rs):0<k.k:=by
 cases k with
 | rc t=>
  show 0<(Dt t).2.length
  unfold Dt;split <;> decide
 | _=>decide
structure So where
 k:Rs
 q:Bool
 u:Nat
 c:Nat
abbrev Sm:=Nat->Option So
def SV (τ:Sm)(k:Rs)(n:Nat)(v:Value):Prop:=
 (v=.slice none 0 0/\n=0)\/∃b j c s,v=.slice (some ⟨b,j*k.k,none⟩) n c/\τ b=some s/\s.k=k/\j+n<=s.u/\n<=c/\j+c<=s.c
def I64 (x:Int):Prop:=-9223372036854775808<=x/\x<=9223372036854775807
def FV (τ:Sm):Fd->Value->Prop
 | .n,v=>∃x,v=.int .i64 x/\I64 x| .t,v=>∃x,v=.bool x| .b m,v=>∃n,n<=m/\SV τ .bt n v| .i m,v=>∃n,n<=m/\SV τ .ii n v| .l t lo m,v=>∃n,(lo<=n/\n<=m)/\SV τ (.rc t) n v
def RV (τ:Sm):List Fd->List Value->Prop
 | [],vs=>vs=[]| f :: r,vs=>∃v us,vs=v :: us/\FV τ f v/\RV τ r us
def EV (τ:Sm)(q:Bool):Rs->List Value->Prop
 | .bt,vs=>∃x,vs=[.int .u8 x]/\0<=x/\x<=255| .ii,vs=>∃x,vs=[.int .i64 x]/\I64 x| .st,vs=>∃s,vs=[.string s]/\s.size<=4| .rc t,vs=>RV τ (if q then Lt t else (Dt t).2) vs
structure aJy (τ:Sm) (w:World) (b:Nat) (s:So):Prop where
 blk:∃cs fl,w.heap[b]?=some (.cells cs s.k.ty fl)/\(s.k ≠ .bt->fl=(0,0))/\cs.size=s.c*s.k.k
 u:s.u<=s.c
 c:s.c<=maxLen
 el:∀i,i<s.u->∃vs,vs.length=s.k.k/\EV τ s.q s.k vs/\∀j v,vs[j]?=some v->w.cell? ⟨b,i*s.k.k+j,none⟩=some v
def TH (τ:Sm)(w:World):Prop:=∀b s,τ b=some s->aJy τ w b s
def Sub (τ τ':Sm):Prop:=∀b s,τ b=some s->∃s',τ' b=some s'/\s'.k=s.k/\s'.c=s.c/\s.u<=s'.u
theorem Sub.refl (τ:Sm):Sub τ τ:=fun b s h=>⟨s,h,rfl,rfl,zB0 _⟩
theorem Sub.trans {A B C:Sm}(h:Sub A B)(h':Sub B C):Sub A C:=fun b s hb=>by
 obtain⟨s1,e1,a1,b1,d1⟩:=h b s hb;obtain⟨s2,e2,a2,b2,d2⟩:=h' b s1 e1;exact⟨s2,e2,a2.trans a1,b2.trans b1,by omega⟩
theorem SV.sub{τ τ':Sm}{k:Rs}{n:Nat}(h:SV τ k n v)(hs:Sub τ τ'):SV τ' k n v:=by
 rcases h with h|⟨b,j,c,s,e,hb,h1,h3,h4,h5⟩
 .
  exact .inl h
 .
  obtain⟨s',e',a1,a3,a4⟩:=hs b s hb;exact .inr ⟨b,j,c,s',e,e',a1.trans h1,by omega,h4,by omega⟩
theorem FV.sub {τ τ':Sm}(hs:Sub τ τ'):∀{f:Fd} {v:Value},FV τ f v->FV τ' f v
 | .n,_,h=>h| .t,_,h=>h| .b _,_,⟨n,h,h'⟩=>⟨n,h,h'.sub hs⟩| .i _,_,⟨n,h,h'⟩=>⟨n,h,h'.sub hs⟩| .l _ _ _,_,⟨n,h,h'⟩=>⟨n,h,h'.sub hs⟩
theorem RV.sub {τ τ':Sm}(hs:Sub τ τ'):∀{r:List Fd} {vs:List Value},RV τ r vs->RV τ' r vs
 | [],_,h=>h| _ :: _,_,⟨v,us,e,h2,h3⟩=>⟨v,us,e,FV.sub hs h2,RV.sub hs h3⟩
theorem EV.sub {τ τ':Sm}(hs:Sub τ τ'){q:Bool}{k:Rs}{vs:List Value}(h:EV τ q k vs):EV τ' q k vs:=by
 cases k with
 | rc t=>exact RV.sub hs h| _=>exact h
theorem SV.one{τ:Sm}{k:Rs}{n:Nat}(h:SV τ k n v):v.oneCell'=true:=by
 rcases h with⟨e,_⟩|⟨b,j,c,s,e,_⟩
 .
  rw[e];rfl
 .
  rw[e];rfl
theorem FV.one {τ:Sm}:∀{f:Fd} {v:Value},FV τ f v->v.oneCell'=true
 | .n,_,⟨x,e,_⟩=>by rw[e];rfl
 | .t,_,⟨x,e⟩=>by rw[e];rfl
 | .b _,_,⟨n,_,h⟩=>h.one| .i _,_,⟨n,_,h⟩=>h.one| .l _ _ _,_,⟨n,_,h⟩=>h.one
theorem RV.one {τ:Sm}:∀{r:List Fd} {vs:List Value},RV τ r vs->∀u ∈ vs,u.oneCell'=true
 | [],_,h,u,hu=>by rw[show _=[] from h]at hu;cases hu
 | _ :: _,_,⟨v,us,e,h2,h3⟩,u,hu=>by
  rw[e]at hu;rcases zG3.1 hu with rfl|hu
  .
   exact FV.one h2
  .
   exact RV.one h3 u hu
theorem RV.length {τ:Sm}:∀{r:List Fd} {vs:List Value},RV τ r vs->vs.length=r.length
 | [],_,h=>by rw[show _=[] from h];rfl
 | _ :: _,_,⟨v,us,e,h2,h3⟩=>by rw[e,zB1,zB1,RV.length h3]
theorem RV.get {τ:Sm}:∀{r:List Fd} {vs:List Value},RV τ r vs->∀{i:Nat} {f:Fd},r[i]?=some f->∃v,vs[i]?=some v/\FV τ f v
 | [],_,_,i,f,h=>by simp at h
 | _ :: _,_,⟨v,us,e,h2,h3⟩,i,f,h=>by
  subst e;cases i with
  | zero=>simp only[List.getElem?_cons_zero,zG2]at h;subst h;exact⟨v,rfl,h2⟩| succ i=>rw[List.getElem?_cons_succ]at h ⊢;exact RV.get h3 h
theorem RV.set {τ:Sm}:∀{r:List Fd} {vs:List Value},RV τ r vs->∀{i:Nat} {f:Fd} {u:Value},r[i]?=some f->FV τ f u->RV τ r (vs.set i u)
 | [],_,_,i,f,u,h,_=>by simp at h
 | _ :: _,_,⟨v,us,e,h2,h3⟩,i,f,u,h,hu=>by
  subst e;cases i with
  | zero=>simp only[List.getElem?_cons_zero,zG2]at h;subst h;exact⟨u,us,rfl,hu,h3⟩| succ i=>rw[List.getElem?_cons_succ]at h;exact⟨v,_,rfl,h2,RV.set h3 h hu⟩
theorem EV.one {τ:Sm}{q:Bool}{k:Rs}{vs:List Value}(h:EV τ q k vs):∀u ∈ vs,u.oneCell'=true:=by
 cases k with
 | rc t=>exact RV.one h| bt=>obtain⟨x,rfl,_⟩:=h;intro u hu;simp at hu;rw[hu];rfl| ii=>obtain⟨x,rfl,_⟩:=h;intro u hu;simp at hu;rw[hu];rfl| st=>obtain⟨x,rfl,_⟩:=h;intro u hu;simp at hu;rw[hu];rfl
theorem vJ (t:Nat):(Lt t).length=(Dt t).2.length:=by
 unfold Lt;split <;> rfl
theorem EV.length {τ:Sm}{q:Bool}{k:Rs}{vs:List Value}(h:EV τ q k vs):vs.length=k.k:=by
 cases k with
 | rc t=>
  have:=RV.length h;cases q with
  | true=>exact this.trans (vJ t)| false=>exact this
 | bt=>obtain⟨x,rfl,_⟩:=h;rfl| ii=>obtain⟨x,rfl,_⟩:=h;rfl| st=>obtain⟨x,rfl,_⟩:=h;rfl
def upd (τ:Sm)(g:Nat)(s:So):Sm:=fun b=>if b=g then some s else τ b
theorem lM (τ:Sm)(g:Nat)(s:So):upd τ g s g=some s:=if_pos rfl
theorem eF{τ:Sm}{b:Nat}{s:So}(h:b ≠ g):upd τ g s b=τ b:=if_neg h
theorem rE{τ:Sm}{s:So}(h:τ g=none):Sub τ (upd τ g s):=fun b s0 hb=>by
 have hn:b ≠ g:=by rintro rfl;rw[h]at hb;cases hb
 exact⟨s0,(eF hn).trans hb,rfl,rfl,zB0 _⟩
theorem FV.loose{τ:Sm}{t lo lo' m':Nat}(h:FV τ (.l t lo m) v)(h1:lo'<=lo)(h2:m<=m'):FV τ (.l t lo' m') v:=by
 obtain⟨n,⟨a,b⟩,h'⟩:=h;exact⟨n,⟨by omega,by omega⟩,h'⟩
theorem RV.loose {τ:Sm}{t:Nat}{vs:List Value}(h:RV τ (Dt t).2 vs):RV τ (Lt t) vs:=by
 unfold Lt;split
 .
  obtain⟨v0,_,rfl,h0,v1,_,rfl,h1,v2,_,rfl,h2,v3,_,rfl,h3,v4,_,rfl,h4,v5,_,rfl,h5,rfl⟩:=h;exact⟨v0,_,rfl,h0,v1,_,rfl,h1,v2,_,rfl,h2,v3,_,rfl,FV.loose h3 A0 A0,v4,_,rfl,h4,v5,_,rfl,h5,rfl⟩
 .
  obtain⟨v0,_,rfl,h0,v1,_,rfl,h1,v2,_,rfl,h2,v3,_,rfl,h3,v4,_,rfl,h4,rfl⟩:=h;exact⟨v0,_,rfl,h0,v1,_,rfl,h1,v2,_,rfl,FV.loose h2 A0 A0,v3,_,rfl,FV.loose h3 A0 A0,v4,_,rfl,h4,rfl⟩
 .
  obtain⟨v0,_,rfl,h0,v1,_,rfl,h1,v2,_,rfl,h2,v3,_,rfl,h3,v4,_,rfl,h4,rfl⟩:=h;exact⟨v0,_,rfl,h0,v1,_,rfl,h1,v2,_,rfl,FV.loose h2 A0 A0,v3,_,rfl,h3,v4,_,rfl,h4,rfl⟩
 .
  exact h
theorem EV.loose {τ:Sm}{q:Bool}{k:Rs}{vs:List Value}(h:EV τ false k vs):EV τ q k vs:=by
 cases q with
 | false=>exact h| true=>
  cases k with
  | rc t=>exact RV.loose h| _=>exact h
def Rs.same:Rs->Prop
 | .rc t=>Lt t=(Dt t).2| _=>True
theorem EV.tight{τ:Sm}{q:Bool}{k:Rs}(hk:k.same)(h:EV τ q k vs):EV τ false k vs:=by
 cases q with
 | false=>exact h| true=>
  cases k with
  | rc t=>
   have h':RV τ (Lt t) vs:=h;rw[show Lt t=(Dt t).2 from hk]at h';exact h'
  | _=>exact h
def Tg (τ:Sm):Prop:=∀b s,τ b=some s->s.q=false
theorem aF5{τ:Sm}{u:Nat}{s:So}(h:τ g=some s)(hu:s.u<=u):Sub τ (upd τ g { s with u:=u }):=fun b s0 hb=>by
 by_cases hn:b=g
 .
  subst hn;rw[h]at hb;cases hb;exact⟨_,lM _ _ _,rfl,rfl,hu⟩
 .
  exact⟨s0,(eF hn).trans hb,rfl,rfl,zB0 _⟩
theorem TH.lt{τ:Sm}(h:TH τ w){b:Nat}{s:So}(hb:τ b=some s):b<w.heap.size:=by
 obtain⟨cs,fl,e,_⟩:=(h b s hb).blk;exact(zI3.1 e).1
theorem TH.fresh{τ:Sm}(h:TH τ w){b:Nat}(hb:w.heap.size<=b):τ b=none:=by
 cases e:τ b with
 | none=>rfl| some s=>have:=h.lt e;omega
theorem aJy.on{τ τ':Sm}{b:Nat}{s:So}(h:aJy τ w b s)(hs:Sub τ τ')(he:w'.heap[b]?=w.heap[b]?):aJy τ' w' b s:=by
 obtain⟨cs,fl,e,r⟩:=h.blk;refine⟨⟨cs,fl,he.trans e,r⟩,h.u,h.c,fun i hi=>?_⟩;obtain⟨vs,h1,h2,h3⟩:=h.el i hi;exact⟨vs,h1,h2.sub hs,fun j v hv=>(World.cell?_of_block he).trans (h3 j v hv)⟩
theorem TH.on {τ:Sm}{w w':World}(h:TH τ w)(he:∀b s,τ b=some s->w'.heap[b]?=w.heap[b]?):TH τ w':=fun b s hb=>(h b s hb).on (Sub.refl _) (he b s hb)
theorem TH.upd{τ:Sm}{s:So}(h:TH τ w)(hs:Sub τ (upd τ g s))(he:∀b,b ≠ g->b<w.heap.size->w'.heap[b]?=w.heap[b]?)(hr:aJy (upd τ g s) w' g s):TH (upd τ g s) w':=fun b s0 hb=>by
 by_cases hn:b=g
 .
  subst hn;rw[lM]at hb;cases hb;exact hr
 .
  rw[eF hn]at hb;exact(h b s0 hb).on hs (he b hn (h.lt hb))
theorem SV.get{τ:Sm}{k:Rs}{n:Nat}(hT:TH τ w)(h:SV τ k n v)(hn:0<n):
  ∃b j c s,v=.slice (some ⟨b,j*k.k,none⟩) n c/\n<=c/\c<=maxLen/\τ b=some s/\s.k=k/\j+n<=s.u/\b<w.heap.size/\∀i,i<n->∃vs,EV τ s.q k vs/\∀z u,vs[z]?=some u->w.cell? ⟨b,(j+i)*k.k+z,none⟩=some u:=by
 rcases h with⟨_,h0⟩|⟨b,j,c,s,e,hb,h1,h3,h4,h5⟩
 .
  omega
 .
  subst h1;have hr:=hT b s hb;refine⟨b,j,c,s,e,h4,by have:=hr.c;omega,hb,rfl,h3,hT.lt hb,fun i hi=>?_⟩;obtain⟨vs,a1,a2,a3⟩:=hr.el (j+i) A0;exact⟨vs,a2,a3⟩
theorem SV.sh{τ:Sm}{k:Rs}{n:Nat}(hT:TH τ w)(h:SV τ k n v):∃a c,v=.slice a n c/\n<=c/\c<=maxLen/\(a=none->c=0):=by
 rcases h with⟨e,h0⟩|⟨b,j,c,s,e,hb,h1,h3,h4,h5⟩
 .
  subst h0;exact⟨_,_,e,zB0 _,zD1 _,fun _=>rfl⟩
 .
  have:=(hT b s hb).c;exact⟨_,_,e,h4,by omega,fun h=>by cases h⟩
theorem SV.nil{τ:Sm}(k:Rs):SV τ k 0 (.slice none 0 0):=.inl ⟨rfl,rfl⟩
theorem flat_len{k:Nat}:∀(l:List (List Value)),(∀us ∈ l,us.length=k)->l.flatten.length=l.length*k:=by
 intro l;induction l with
 | nil=>intro _;simp| cons x l ih=>intro h;rw[List.flatten_cons,zA1,h x A8,ih fun us hu=>h us (by simp[hu]),zB1,Nat.add_mul];omega
theorem flat_get{k:Nat}:∀(l:List (List Value)) (i:Nat) (us:List Value) (j:Nat) (v:Value),(∀us ∈ l,us.length=k)->l[i]?=some us->us[j]?=some v->l.flatten[i*k+j]?=some v:=by
 intro l;induction l with
 | nil=>intro i us j v _ h;simp at h| cons x l ih=>
  intro i us j v h hi hj;have hx:=h x A8;cases i with
  | zero=>
   simp only[List.getElem?_cons_zero,zG2]at hi;subst hi;rw[List.flatten_cons,Nat.zero_mul,zJ0,List.getElem?_append_left (zC1.1 hj).1];exact hj
  | succ i=>
   rw[List.getElem?_cons_succ]at hi;have:=ih i us j v (fun us hu=>h us (by simp[hu])) hi hj;rw[List.flatten_cons,Nat.add_mul,Nat.one_mul,List.getElem?_append_right A0,<-this];congr 1;omega
theorem aKq{τ:Sm}{k:Rs}{xss:List (List Value)}(hb:Blk w g k.ty vs)(hv:vs=xss.flatten)(hm:xss.length=m)(hx:∀us ∈ xss,EV τ false k us)(hc:m<=maxLen):aJy τ w g ⟨k,false,m,m⟩:=by
 have Eb:∀us ∈ xss,us.length=k.k:=fun us hu=>(hx us hu).length;refine⟨⟨_,_,hb,fun _=>rfl, ?_⟩,zB0 _,hc,fun i hi=>?_⟩
 .
  show vs.toArray.size=m*k.k
  rw[List.size_toArray,hv,flat_len _ Eb,hm]
 .
  have hi':i<xss.length:=by rw[hm];exact hi
  have Em:=List.getElem_mem hi';refine⟨xss[i],Eb _ Em,hx _ Em,fun j v Wg=>hb.cell ?_⟩;rw[hv];exact flat_get _ i _ j v Eb (zA0 hi') Wg
end Eg
end
section
theorem A64{p:Prop}(h:p:=by rw[Aw.2.2.2];exact zB0 _):p:=h
theorem A76{p:Prop}(h:p:=by rw[e];rfl):p:=h
theorem QA100{p:Prop}(h:p:=by
 rcases List.mem_append.1 hu with hu|hu
 .
  exact h2 us hu
 .
  rw[List.mem_singleton.1 hu];exact a2):p:=h
namespace Eg
variable{τ τ':Sm}{w w':World}
theorem heap_setCells_other (b:Nat):∀(vs:List Value) (o:Nat) (w:World) (k:Nat),k ≠ b->(w.setCells b o vs).heap[k]?=w.heap[k]?
 | [],_,_,_,_=>rfl| v :: r,o,w,k,h=>by rw[World.setCells,heap_setCells_other b r (o+1) _ k h,heap_setCell_other w ⟨b,o,none⟩ k v h]
theorem setCells_same (b:Nat):∀(vs:List Value) (o:Nat) (w:World),(w.setCells b o vs).os=w.os/\(w.setCells b o vs).tape=w.tape/\(w.setCells b o vs).output=w.output/\(w.setCells b o vs).heap.size=w.heap.size
 | [],_,_=>⟨rfl,rfl,rfl,rfl⟩| v :: r,o,w=>by
  have h:=setCells_same b r (o+1) (w.setCell ⟨b,o,none⟩ v);have h0:=(zD2 0 w).setCell (p:=⟨b,o,none⟩) (zD1 _) v;rw[World.setCells];exact⟨h.1.trans h0.os,h.2.1.trans h0.tape,h.2.2.1.trans h0.output,h.2.2.2.trans A8⟩
theorem iN (b:Nat)(T:TypeId):∀(vs:List Value) (o:Nat) (w:World) (cs:Array Value),w.heap[b]?=some (.cells cs T (0,0))->∃Qt,(w.setCells b o vs).heap[b]?=some (.cells Qt T (0,0))/\Qt.size=cs.size
 | [],_,w,cs,h=>⟨cs,h,rfl⟩| v :: r,o,w,cs,h=>by
  have h1:=heap_setCell_same w b o cs T v h;obtain⟨Qt,a,c⟩:=iN b T r (o+1) _ _ h1;exact⟨Qt,a,c.trans A8⟩
theorem mZ{b i:Nat}{cs:Array Value}{T:TypeId}{fl:Nat × Nat}(h:w.heap[b]?=some (.cells cs T fl))(hi:i<cs.size):(w.cell? ⟨b,i,none⟩).isSome=true:=by
 rw[cell_of_row w b i _ _ fl h];simp[hi]
structure Cx where
 st:Bool
 K:List Nat
 τ0:Sm
 w0:World
structure Fr (C:Cx) (τ:Sm) (w:World):Prop where
 th:TH τ w
 sub:Sub C.τ0 τ
 os:w.os=C.w0.os
 tape:w.tape=C.w0.tape
 output:w.output=C.w0.output
 size:C.w0.heap.size<=w.heap.size
 non:∀b,b<C.w0.heap.size->C.τ0 b=none->τ b=none
 blk:∀b,b<C.w0.heap.size->C.τ0 b=none->b ∉ C.K->w.heap[b]?=C.w0.heap[b]?
 str:C.st=true->∀b,b<C.w0.heap.size->C.τ0 b ≠ none->τ b=C.τ0 b/\w.heap[b]?=C.w0.heap[b]?
structure Mv (C:Cx) (K:List Nat) (τ:Sm) (w:World) (τ':Sm) (w':World):Prop where
 fr:Fr C τ' w'
 sub:Sub τ τ'
 size:w.heap.size<=w'.heap.size
 non:∀b,b<w.heap.size->τ b=none->τ' b=none
 blk:∀b,b<w.heap.size->τ b=none->b ∉ K->w'.heap[b]?=w.heap[b]?
 tg:Tg τ->Tg τ'
theorem Fr.step{C:Cx}(h:Fr C τ w)(K:List Nat)(th:TH τ' w')(sub:Sub τ τ')(os:w'.os=w.os)(tape:w'.tape=w.tape)(out:w'.output=w.output)(size:w.heap.size<=w'.heap.size)
  (non:∀b,b<w.heap.size->τ b=none->τ' b=none) (blk:∀b,b<w.heap.size->τ b=none->b ∉ K->w'.heap[b]?=w.heap[b]?)
  (typed:C.st=true->∀b,b<C.w0.heap.size->τ b ≠ none->τ' b=τ b/\w'.heap[b]?=w.heap[b]?) (hK:∀b ∈ K,b<C.w0.heap.size->b ∈ C.K) (tg:Tg τ->Tg τ'):Mv C K τ w τ' w':=
 ⟨⟨th,h.sub.trans sub,os.trans h.os,tape.trans h.tape,out.trans h.output,zF2 h.size size,fun b hb hn=>non b (Nat.lt_of_lt_of_le hb h.size) (h.non b hb hn),
  fun b hb hn hk=>(blk b (Nat.lt_of_lt_of_le hb h.size) (h.non b hb hn) (fun hm=>hk (hK b hm hb))).trans (h.blk b hb hn hk),
  fun hst b hb hn=>by
   obtain⟨e1,e2⟩:=h.str hst b hb hn;obtain⟨e3,e4⟩:=typed hst b hb (by rw[e1];exact hn);exact⟨e3.trans e1,e4.trans e2⟩⟩,sub,size,non,blk,tg⟩
theorem Fr.refl {st:Bool}{K:List Nat}{τ:Sm}{w:World}(h:TH τ w):Fr ⟨st,K,τ,w⟩ τ w:=⟨h,Sub.refl _,rfl,rfl,rfl,zB0 _,fun _ _ h=>h,fun _ _ _ _=>rfl,fun _ _ _ _=>⟨rfl,rfl⟩⟩
theorem Fr.below{C:Cx}(h:Fr C τ w)(hb:Below w.heap.size w w'):Mv C [] τ w τ w':=
 h.step [] (h.th.on fun b s e=>hb.block b (h.th.lt e)) (Sub.refl _) hb.os hb.tape hb.output hb.size (fun _ _ h=>h) (fun b Ad _ _=>hb.block b Ad) (fun _ b Ad _=>⟨rfl,hb.block b (Nat.lt_of_lt_of_le Ad h.size)⟩) (fun _ h=>by cases h) (fun h=>h)
theorem Fr.alloc {C:Cx}{τ:Sm}{w:World}(h:Fr C τ w)(o:Obj):Mv C [] τ w τ (w.alloc o):=h.below ((zD2 _ _).alloc (zB0 _) o)
theorem Fr.same{C:Cx}(h:Fr C τ w):Mv C [] τ w τ w:=h.below (zD2 _ _)
theorem Mv.trans {C:Cx}{K:List Nat}{τ τ' τ2:Sm}{w w' w2:World}(h:Mv C K τ w τ' w')(h':Mv C K τ' w' τ2 w2):Mv C K τ w τ2 w2:=
 ⟨h'.fr,h.sub.trans h'.sub,zF2 h.size h'.size,fun b hb hn=>h'.non b (Nat.lt_of_lt_of_le hb h.size) (h.non b hb hn),
  fun b hb hn hk=>(h'.blk b (Nat.lt_of_lt_of_le hb h.size) (h.non b hb hn) hk).trans (h.blk b hb hn hk),fun ht=>h'.tg (h.tg ht)⟩
theorem Mv.wide{C:Cx}{K:List Nat}(h:Mv C [] τ w τ' w'):Mv C K τ w τ' w':=⟨h.fr,h.sub,h.size,h.non,fun b hb hn _=>h.blk b hb hn A8,h.tg⟩
theorem Tg.upd{g:Nat}{s:So}(h:Tg τ)(hs:s.q=false):Tg (upd τ g s):=fun b s0 hb=>by
 by_cases e:b=g
 .
  subst e;rw[lM]at hb;cases hb;exact hs
 .
  rw[eF e]at hb;exact h b s0 hb
theorem Fr.row{C:Cx}(h:Fr C τ w){k:Rs}{xss:List (List Value)}{m:Nat}(hm:xss.length=m)(hx:∀us ∈ xss,EV τ false k us)(hc:m<=1000000):
  ∃τ',Mv C [] τ w τ' (w.alloc (.cells xss.flatten.toArray k.ty (0,0)))/\SV τ' k m (.slice (some ⟨w.heap.size,0,none⟩) m m)/\Sub τ τ':=by
 have h1:=h.alloc (.cells xss.flatten.toArray k.ty (0,0));have hn:τ w.heap.size=none:=h.th.fresh (zB0 _);have hs:=rE (s:=⟨k,false,m,m⟩) hn;have hb:=Blk.new w k.ty xss.flatten;refine⟨upd τ w.heap.size ⟨k,false,m,m⟩,h.step [] (h.th.upd hs (fun b Ae Ad=>?_) (aKq hb rfl hm (fun us hu=>(hx us hu).sub hs) A11)) hs rfl rfl rfl h1.size (fun b Ad Be=>(eF A0).trans Be) (fun b Ad Be _=>h1.blk b Ad Be A8) (fun _ b Ad Be=>?_) (fun _ h=>by cases h) (fun ht=>ht.upd rfl), ?_,hs⟩
 .
  exact(((zD2 w.heap.size w).alloc (zB0 _) _).block b Ad)
 .
  have:=h.size;exact⟨eF A0,((zD2 w.heap.size w).alloc (zB0 _) _).block b A0⟩
 .
  exact .inr ⟨_,0,m,_,by rw[Nat.zero_mul],lM _ _ _,rfl,by simp,zB0 _,by simp⟩
theorem Fr.app{C:Cx}(hF:Fr C τ w){k:Rs}{n m:Nat}{v x:Value}(h:SV τ k n v)(hx:SV τ k m x)(Dm:Tg τ\/k.same)(hk:k ≠ .bt\/∀a n' c',v=.slice a n' c'->c'=0)(Aj:C.st=true->∀g,v.ownBlock=some g->C.w0.heap.size<=g)
  {t ty bytes:Nat} {z:Value} (info:(Tryz.prog.info? k.ty).map (fun i=>(i.zero,i.size,i.bytes))=some (some z,k.k,bytes)) (ht:Tryz.prog.underlying t=some (.slice k.ty)) (hzs:z.cells.size=k.k) (Bv:bytes<=1000) (hmk:n+m<=1000000):
  ∃v' τ' w',(Builtin.append_ #[t,t] ty #[v,x]).run Tryz.prog w=.ok v' w'/\Mv C [] τ w τ' w'/\SV τ' k (n+m) v'/\(∀g,v'.ownBlock=some g->v.ownBlock=some g\/w.heap.size<=g)/\∀b,b<w.heap.size->some b ≠ v.ownBlock->w'.heap[b]?=w.heap[b]?:=by
 obtain⟨i0,hi,Dd,Db,Cz⟩:=info_parts info;have hT:=hF.th;have Jg:=k.k0;rcases zG0 m with rfl|Cq
 .
  obtain⟨av,cv,rfl,Ce,_⟩:=h.sh hT;have hs:Src Tryz.prog i0.size t x 0 [] w:=by
   obtain⟨ax,cx,rfl,_⟩:=hx.sh hT;cases ax with
   | none=>exact Src.ofNil w ht cx| some ax=>exact Src.ofSlice w ht ax 0 cx [] A8 A8 A8
  exact⟨_,τ,w,run_append_nothing w t t ty k.ty i0 ht hi av n cv Ce x hs,hF.same,h,fun g hg=>.inl hg,fun _ _ _=>rfl⟩
 obtain⟨bx,jx,cx,sx,rfl,_,_,Cd,_,_,_,hel0⟩:=hx.get hT Cq;have Na:∀i,i<m->∃vs,EV τ false k vs/\∀z u,vs[z]?=some u->w.cell? ⟨bx,(jx+i)*k.k+z,none⟩=some u:=fun i hi=>by
  obtain⟨vs,h1,h2⟩:=hel0 i hi;refine⟨vs, ?_,h2⟩;rcases Dm with hq|hq
  .
   rw[hq bx sx Cd]at h1;exact h1
  .
   exact h1.tight hq
 obtain⟨xss,hm,Gx,hxc⟩:∃xss:List (List Value),xss.length=m/\(∀us ∈ xss,EV τ false k us)/\∀i u,xss.flatten[i]?=some u->w.cell? ⟨bx,jx*k.k+i,none⟩=some u:=by
  have Cc:∀q,q<=m->∃xss:List (List Value),xss.length=q/\(∀us ∈ xss,EV τ false k us)/\∀i u,xss.flatten[i]?=some u->w.cell? ⟨bx,jx*k.k+i,none⟩=some u:=by
   intro q;induction q with
   | zero=>intro _;exact⟨[],rfl,(fun _ h=>by cases h),(fun i v h=>by simp at h)⟩
   | succ q ih=>
    intro hq;obtain⟨xss,h1,h2,h3⟩:=ih A0;obtain⟨vs,a2,a3⟩:=Na q A0;refine⟨xss++[vs],by simp[h1],fun us hu=>?_,fun i u hv=>?_⟩
    .
     exact QA100
    .
     have hl:=flat_len xss fun us hu=>(h2 us hu).length;rw[List.flatten_append]at hv;by_cases hi:i<xss.flatten.length
     .
      rw[List.getElem?_append_left hi]at hv;exact h3 i u hv
     .
      rw[List.getElem?_append_right A0]at hv;have:=a3 (i-xss.flatten.length) u (by simpa using hv);rw[h1]at hl;have e:jx*k.k+i=(jx+q)*k.k+(i-xss.flatten.length):=by rw[Nat.add_mul];omega
      rw[e];exact this
  exact Cc m (zB0 _)
 have Ah:=flat_len xss fun us hu=>(Gx us hu).length;rw[hm]at Ah;have Ge:∀u ∈ xss.flatten,u.oneCell'=true:=fun u hu=>by
  obtain⟨us,h1,h2⟩:=List.mem_flatten.1 hu;exact(Gx us h1).one u h2
 have Oe:∀j u,xss.flatten[j]?=some u->w.cell? ((⟨bx,jx*k.k,none⟩:Addr).add j)=some u:=fun j u hu=>by rw[Addr.add_lit];exact hxc j u hu
 have Uu:(n+m)*bytes<=140737488355328:=by
  have:(n+m)*bytes<=1000000*1000:=Nat.mul_le_mul hmk Bv;omega
 have h63:n+m<=maxLen:=by unfold maxLen;omega
 have grown:∀(v':Value) (w':World) (Fe:List (List Value)),Fe.length=n->(∀us ∈ Fe,EV τ false k us)->w'.ownsRow w.heap.size k.ty k.k v' (n+m) (Fe.flatten++xss.flatten)->w.grownBy w' none →
   ∃τ',Mv C [] τ w τ' w'/\SV τ' k (n+m) v'/\(∀g,v'.ownBlock=some g->v.ownBlock=some g\/w.heap.size<=g)/\∀b,b<w.heap.size->some b ≠ v.ownBlock->w'.heap[b]?=w.heap[b]?:=by
  intro v' w' Fe We hy2 ho hg;rcases ho.2 with⟨_,h0⟩|⟨g,cap,cur,rfl,hb,hgh,Gk,Dl,Gj,Ti⟩
  .
   omega
  .
   have hn:=hT.fresh hb;have hs:=rE (s:=⟨k,false,n+m,cap⟩) hn;have Bg:=hF.size;refine⟨upd τ g ⟨k,false,n+m,cap⟩,hF.step [] (hT.upd hs (fun b Dy Ad=>hg.block b Ad A8) ⟨⟨cur,(0,0),hgh,fun _=>rfl,Gj⟩,Gk,Dl,fun i hi'=>?_⟩) hs hg.os hg.tape hg.output hg.size (fun b Ad Be=>(eF A0).trans Be) (fun b Ad _ _=>hg.block b Ad A8) (fun _ b Ad _=>⟨eF A0,hg.block b A0 A8⟩) (fun _ h=>by cases h) (fun ht=>ht.upd rfl),.inr ⟨g,0,cap,_,by rw[Nat.zero_mul],lM _ _ _,rfl,by simp,Gk,by simp⟩,(fun g' hg'=>by cases hg';exact .inr hb),fun b Ad _=>hg.block b Ad A8⟩;have Wm:i<(Fe++xss).length:=by rw[zA1,We,hm];exact hi'
   have Bj:∀us ∈ Fe++xss,EV τ false k us:=fun us hu=>by
    rcases List.mem_append.1 hu with hu|hu
    .
     exact hy2 us hu
    .
     exact Gx us hu
   refine⟨(Fe++xss)[i],(Bj _ (List.getElem_mem Wm)).length,(Bj _ (List.getElem_mem Wm)).sub hs,fun j u hu=>?_⟩;have e:=flat_get (Fe++xss) i _ j u (fun us hu=>(Bj us hu).length) (zA0 Wm) hu;rw[List.flatten_append,<-Ti,List.getElem?_take]at e;rw[cell_of_row w' g _ _ _ (0,0) hgh];split at e
   .
    simpa using e
   .
    cases e
 rcases h with⟨rfl,rfl⟩|⟨b,j,cv,s,rfl,hb,h1,h3,h4,h5⟩
 .
  obtain⟨v',w',hr,a1,a2,a3⟩:=run_append_own (P:=Tryz.prog) w w.heap.size t ty k.ty i0 z k.k bytes ht hi Dd Db Cz hzs Jg (.slice none 0 0) 0 [] (World.ownsRow_nil w _ k.ty k.k) ⟨bx,jx*k.k,none⟩ m cx xss.flatten Ah Oe Ge A0 A0 (zB0 _);obtain⟨τ',b1,b2,b3⟩:=grown v' w' [] rfl (fun _ h=>by cases h) (by simpa using a1) (by simpa [Value.ownBlock] using a2);exact⟨v',τ',w',hr,b1,b2,b3⟩
 .
  subst h1;have hR:=hT b s hb;obtain⟨cs,fl,Ck,Hi,Bg⟩:=hR.blk;have hsize:=hF.size;by_cases Ft:n+m<=cv
  .
   obtain rfl:=Hi (hk.resolve_right (fun hc=>by have:=hc _ _ _ rfl;omega));have Ad:∀i,i<xss.flatten.length->j*s.k.k+n*s.k.k+i<cs.size:=fun i hi'=>by
    rw[Bg];have:(j+(n+m))*s.k.k<=s.c*s.k.k:=Nat.mul_le_mul_right _ A0;rw[Ah]at hi';rw[Nat.add_mul,Nat.add_mul]at this;omega
   have hr:=run_append_room_cells (P:=Tryz.prog) w t ty s.k.ty i0 ht hi b (j*s.k.k) n cv ⟨bx,jx*s.k.k,none⟩ m cx xss.flatten (by rw[Db];exact Ah) Oe Ge Ft (fun i hi'=>by rw[Db];exact mZ Ck (Ad i hi')) (fun i hi'=>frozen_of_row w b _ _ _ Ck);rw[Db]at hr;have Ha:=World.cell?_setCells_in b xss.flatten (j*s.k.k+n*s.k.k) w (fun i hi'=>mZ Ck (Ad i hi'));have hs:=aF5 (u:=max s.u (j+(n+m))) hb (Nat.le_max_left _ _);have Aw:=setCells_same b xss.flatten (j*s.k.k+n*s.k.k) w;obtain⟨Qt,Dy,hsz'⟩:=iN b s.k.ty xss.flatten (j*s.k.k+n*s.k.k) w cs Ck;have Ae:∀g,τ g=none->g ≠ b:=by rintro g hg rfl;rw[hb]at hg;cases hg
   refine⟨_,upd τ b { s with u:=max s.u (j+(n+m)) },_,hr,hF.step [] (hT.upd hs (fun k' Ld hlt'=>heap_setCells_other b _ _ w k' Ld) ⟨⟨Qt,(0,0),Dy,fun _=>rfl,hsz'.trans Bg⟩, ?_,hR.c,fun i hi'=>?_⟩) hs Aw.1 Aw.2.1 Aw.2.2.1 A64 (fun g Ad hgn=>(eF (Ae g hgn)).trans hgn) (fun g Ad hgn _=>heap_setCells_other b _ _ w g (Ae g hgn)) (fun hst g Ad _=>?_) (fun _ h=>by cases h) (fun ht=>ht.upd (ht b s hb)),.inr ⟨b,j,cv,_,rfl,lM _ _ _,rfl,Nat.le_max_right _ _,Ft,h5⟩,(fun g hg=>.inl hg),fun g Ad hne9=>heap_setCells_other b _ _ w g (fun e=>hne9 A76)⟩
   .
    exact Nat.max_le.2 ⟨hR.u,zF2 (Nat.add_le_add_left Ft j) h5⟩
   .
    change i<max s.u (j+(n+m)) at hi';by_cases Iw:j+n<=i/\i<j+(n+m)
    .
     have Wm:i-(j+n)<xss.length:=A0;have Em:=List.getElem_mem Wm;refine⟨xss[i-(j+n)],(Gx _ Em).length,((Gx _ Em).sub hs).loose,fun q u hu=>?_⟩;have e:=flat_get xss (i-(j+n)) _ q u (fun us hu=>(Gx us hu).length) (zA0 Wm) hu;obtain⟨hq,e2⟩:=zC1.1 e;have:=Ha _ hq;rw[e2]at this;have hh:i*s.k.k=(j+n)*s.k.k+(i-(j+n))*s.k.k:=by rw[<-Nat.add_mul,Nat.add_sub_cancel' Iw.1]
     have h9:j*s.k.k+n*s.k.k+((i-(j+n))*s.k.k+q)=i*s.k.k+q:=by rw[hh,Nat.add_mul];omega
     rw[h9]at this;exact this
    .
     have Mt:i<s.u:=by
      rcases zJ1 i s.u with h|h
      .
       exact h
      .
       exfalso;rcases zJ1 i (j+(n+m)) with h'|h'
       .
        exact Iw ⟨by omega,h'⟩
       .
        have:=Nat.max_le.2 ⟨h,h'⟩;omega
     obtain⟨vs,v1,v2,v3⟩:=hR.el i Mt;refine⟨vs,v1,v2.sub hs,fun q u hu=>?_⟩;have hq:=(zC1.1 hu).1;show(w.setCells b (j*s.k.k+n*s.k.k) xss.flatten).cell? ⟨b,i*s.k.k+q,none⟩=some u
     rw[World.cell?_setCells_out b _ _ w _ (fun _ _=>?_)]
     .
      exact v3 q u hu
     .
      show i*s.k.k+q<j*s.k.k+n*s.k.k\/j*s.k.k+n*s.k.k+xss.flatten.length<=i*s.k.k+q
      rw[Ah,<-Nat.add_mul,<-Nat.add_mul];rcases zJ1 i (j+n) with h'|h'
      .
       left;have:(i+1)*s.k.k<=(j+n)*s.k.k:=Nat.mul_le_mul_right _ A0;rw[Nat.add_mul]at this;omega
      .
       right;have:(j+n+m)*s.k.k<=i*s.k.k:=Nat.mul_le_mul_right _ A0;omega
   .
    have Ew:g ≠ b:=by rintro rfl;have:=Aj hst g rfl;omega
    exact⟨eF Ew,heap_setCells_other b _ _ w g Ew⟩
  .
   rcases zG0 n with rfl|hn0
   .
    obtain⟨v',w',hr,a1,a2⟩:=run_append_arg_grows (P:=Tryz.prog) w t ty s.k.ty i0 z s.k.k bytes ht hi Dd Db Cz hzs Jg ⟨b,j*s.k.k,none⟩ 0 cv [] A8 (fun i u hu=>by simp at hu) ⟨bx,jx*s.k.k,none⟩ m cx xss.flatten Ah Oe A0 h63 Uu;obtain⟨τ',b1,b2,b3⟩:=grown v' w' [] rfl (fun _ h=>by cases h) (by simpa using a1) a2;exact⟨v',τ',w',hr,b1,b2,b3⟩
   .
    obtain⟨_,_,_,_,e9,_,_,_,_,_,_,hel2⟩:=SV.get (n:=n) hT (.inr ⟨b,j,cv,s,rfl,hb,rfl,h3,h4,h5⟩) hn0;have hj9:j*s.k.k=j*s.k.k:=rfl;obtain⟨Fe,y1,y2,y3⟩:∃Fe:List (List Value),Fe.length=n/\(∀us ∈ Fe,EV τ false s.k us)/\∀i u,Fe.flatten[i]?=some u->w.cell? ⟨b,j*s.k.k+i,none⟩=some u:=by
     have Cc:∀q,q<=n->∃Fe:List (List Value),Fe.length=q/\(∀us ∈ Fe,EV τ false s.k us)/\∀i u,Fe.flatten[i]?=some u->w.cell? ⟨b,j*s.k.k+i,none⟩=some u:=by
      intro q;induction q with
      | zero=>intro _;exact⟨[],rfl,(fun _ h=>by cases h),(fun i v h=>by simp at h)⟩
      | succ q ih=>
       intro hq;obtain⟨Fe,h1,h2,h3'⟩:=ih A0;obtain⟨vs,a1,a20,a3⟩:=hR.el (j+q) A0;have a2:EV τ false s.k vs:=by
        rcases Dm with hq|hq
        .
         rw[hq b s hb]at a20;exact a20
        .
         exact a20.tight hq
       refine⟨Fe++[vs],by simp[h1],fun us hu=>?_,fun i u hv=>?_⟩
       .
        exact QA100
       .
        have hl:=flat_len Fe fun us hu=>(h2 us hu).length;rw[List.flatten_append]at hv;by_cases hi:i<Fe.flatten.length
        .
         rw[List.getElem?_append_left hi]at hv;exact h3' i u hv
        .
         rw[List.getElem?_append_right A0]at hv;have:=a3 (i-Fe.flatten.length) u (by simpa using hv);rw[h1]at hl;have e:j*s.k.k+i=(j+q)*s.k.k+(i-Fe.flatten.length):=by rw[Nat.add_mul];omega
         rw[e];exact this
     exact Cc n (zB0 _)
    have hyl:=flat_len Fe fun us hu=>(y2 us hu).length;rw[y1]at hyl;obtain⟨v',w',hr,a1,a2⟩:=run_append_arg_grows (P:=Tryz.prog) w t ty s.k.ty i0 z s.k.k bytes ht hi Dd Db Cz hzs Jg ⟨b,j*s.k.k,none⟩ n cv Fe.flatten hyl (fun i u hu=>by rw[Addr.add_lit];exact y3 i u hu) ⟨bx,jx*s.k.k,none⟩ m cx xss.flatten Ah Oe A0 h63 Uu;obtain⟨τ',b1,b2,b3⟩:=grown v' w' Fe y1 y2 a1 a2;exact⟨v',τ',w',hr,b1,b2,b3⟩
end Eg
end
theorem A20{p:Prop}(h:p:=by rw[List.flatMap_cons];exact List.mem_append_right _ hm):p:=h
theorem A23{p:Prop}(h:p:=by rw[List.flatMap_cons];exact List.mem_append_left _ hm):p:=h
theorem A38{p:Prop}(h:p:=by simp[CV.sy]):p:=h
namespace Eg
structure Ct where
 s:Nat
 k:Nat
 gt:Bool
 deriving DecidableEq
inductive Ix where
 | u|k (n:Nat)|v (c:Nat)
 deriving DecidableEq
inductive CV where
 | top| und| int (lo hi:Int)| len (s k:Nat)| idx (s k:Nat)| num (c s k:Nat)| byte| tv (b:Bool)| bl (t f:List Ct)| str| sl (s:Nat)| nil| ptr (b o:Nat)| elp (s:Nat) (k:Rs) (ix:Ix) (o:Nat)
 deriving DecidableEq
inductive AV where
 | c (x:CV)| rc (t:Nat)| agg (l:List CV)| tup (t:Nat) (x:CV)
 deriving DecidableEq
structure SF where
 k:Rs
 lo:Nat
 hi:Nat
 own:Bool
 un:Bool:=false
 c0:Bool:=false
 abv:Option Nat:=none
 deriving DecidableEq
inductive Bk where
 | cur| cells (T:TypeId) (l:List CV)
 deriving DecidableEq
def ln:Value->Nat
 | .slice _ n _=>n| _=>0
structure Vl where
 ρ:Nat->Value
 β:Nat->Nat
 ι:Nat->Nat
def Ct.ok (V:Vl)(c:Ct):Prop:=if c.gt then c.k<ln (V.ρ c.s) else ln (V.ρ c.s)<=c.k
def Ix.ok (V:Vl)(i:Nat):Ix->Prop
 | .u=>True| .k n=>i=n| .v c=>i=V.ι c
def CV.ok (V:Vl):CV->Value->Prop
 | .top,_=>True| .und,v=>v=undef| .int lo hi,v=>∃x,v=.int .i64 x/\lo<=x/\x<=hi| .len s k,v=>v=.int .i64 ((ln (V.ρ s):Int)-k)| .idx s k,v=>∃x:Nat,v=.int .i64 x/\x+k<ln (V.ρ s)| .num c s k,v=>v=.int .i64 (V.ι c)/\V.ι c+k<ln (V.ρ s)| .byte,v=>∃x,v=.int .u8 x/\0<=x/\x<=255| .tv b,v=>v=.bool b| .bl t f,v=>∃b,v=.bool b/\(b=true->∀c ∈ t,c.ok V)/\(b=false->∀c ∈ f,c.ok V)| .str,v=>∃s,v=.string s/\s.size<=4| .sl s,v=>v=V.ρ s| .nil,v=>v=.slice none 0 0| .ptr b o,v=>v=.pointer (some ⟨V.β b,o,none⟩)| .elp s k ix o,v=>∃b j n c i,V.ρ s=.slice (some ⟨b,j*k.k,none⟩) n c/\i<n/\v=.pointer (some ⟨b,(j+i)*k.k+o,none⟩)/\ix.ok V i
def fQ (V:Vl):List CV->List Value->Prop
 | [],vs=>vs=[]| x :: l,vs=>∃v us,vs=v :: us/\x.ok V v/\fQ V l us
def AV.ok (τ:Sm)(V:Vl):AV->Value->Prop
 | .c x,v=>x.ok V v| .rc t,v=>∃vs,v=.agg vs.toArray/\RV τ (Dt t).2 vs| .agg l,v=>∃vs,v=.agg vs.toArray/\fQ V l vs| .tup t x,v=>∃vs u,v=.tuple #[.agg vs.toArray,u]/\RV τ (Dt t).2 vs/\x.ok V u
def SF.ok (C:Cx)(U:Value->Prop)(τ:Sm)(V:Vl)(f:SF)(v:Value):Prop:=
 SV τ f.k (ln v) v/\f.lo<=ln v/\ln v<=f.hi/\(f.own=true->C.st=true->∀g,v.ownBlock=some g->C.w0.heap.size<=g)/\(f.un=true->U v)/\(f.c0=true->∀a n c,v=.slice a n c->c=0)/\(∀s,f.abv=some s->ln (V.ρ s)<ln v)
def Bk.ok (V:Vl)(w:World)(g:Nat):Bk->Prop
 | .cur=>Cur w g| .cells T l=>∃vs,Blk w g T vs/\fQ V l vs
structure Cf where
 s:Nat
 k:Rs
 ix:Ix
 p:Nat
 r:Nat
def Cf.ok (V:Vl)(w:World)(c:Cf):Prop:=∀b j n q i,V.ρ c.s=.slice (some ⟨b,j*c.k.k,none⟩) n q->i<n->c.ix.ok V i->c.ix ≠ .u->w.cell? ⟨b,(j+i)*c.k.k+c.p,none⟩=some (V.ρ c.r)
def Ct.sy (c:Ct):Nat:=c.s
def CV.sy:CV->List Nat
 | .len s _=>[s]| .idx s _=>[s]| .num _ s _=>[s]| .bl t f=>t.map Ct.s++f.map Ct.s| .sl s=>[s]| .elp s _ _ _=>[s]| _=>[]
def Ix.is:Ix->List Nat
 | .v c=>[c]| _=>[]
def CV.is:CV->List Nat
 | .num c _ _=>[c]| .elp _ _ ix _=>ix.is| _=>[]
def CV.bs:CV->List Nat
 | .ptr b _=>[b]| _=>[]
def AV.sy:AV->List Nat
 | .c x=>x.sy| .rc _=>[]| .agg l=>l.flatMap CV.sy| .tup _ x=>x.sy
def AV.bs:AV->List Nat
 | .c x=>x.bs| .rc _=>[]| .agg l=>l.flatMap CV.bs| .tup _ x=>x.bs
def AV.is:AV->List Nat
 | .c x=>x.is| .rc _=>[]| .agg l=>l.flatMap CV.is| .tup _ x=>x.is
def Bk.sy:Bk->List Nat
 | .cur=>[]| .cells _ l=>l.flatMap CV.sy
def Bk.bs:Bk->List Nat
 | .cur=>[]| .cells _ l=>l.flatMap CV.bs
def Bk.is:Bk->List Nat
 | .cur=>[]| .cells _ l=>l.flatMap CV.is
def SF.sy (f:SF):List Nat:=f.abv.toList
def Cf.sy (c:Cf):List Nat:=[c.s,c.r]
theorem Ct.on {V V':Vl}{c:Ct}(h:c.ok V)(hs:V'.ρ c.s=V.ρ c.s):c.ok V':=by
 unfold Ct.ok at *;rw[hs];exact h
theorem Ix.on {V V':Vl}{i:Nat}{x:Ix}(h:x.ok V i)(hs:∀c ∈ x.is,V'.ι c=V.ι c):x.ok V' i:=by
 cases x with
 | v c=>simp only[Ix.ok]at h ⊢;rw[hs c (by simp[Ix.is])];exact h
 | _=>exact h
theorem CV.on {V V':Vl}{x:CV}{v:Value}(h:x.ok V v)(hs:∀s ∈ x.sy,V'.ρ s=V.ρ s)(hb:∀b ∈ x.bs,V'.β b=V.β b)(hi:∀c ∈ x.is,V'.ι c=V.ι c):x.ok V' v:=by
 cases x with
 | len s k=>simp only[CV.ok]at h ⊢;rw[hs s A38];exact h| idx s k=>simp only[CV.ok]at h ⊢;rw[hs s A38];exact h| num c s k=>simp only[CV.ok]at h ⊢;rw[hs s A38,hi c (by simp[CV.is])];exact h
 | bl t f=>
  obtain⟨b,e,h1,h2⟩:=h;exact⟨b,e,fun hb c hc=>Ct.on (h1 hb c hc) (hs _ (List.mem_append_left _ (List.mem_map_of_mem hc))),fun hb c hc=>Ct.on (h2 hb c hc) (hs _ (List.mem_append_right _ (List.mem_map_of_mem hc)))⟩
 | sl s=>simp only[CV.ok]at h ⊢;rw[hs s A38];exact h| ptr b o=>simp only[CV.ok]at h ⊢;rw[hb b (by simp[CV.bs])];exact h
 | elp s k ix o=>
  obtain⟨b,j,n,c,i,h1,h2,h3,h4⟩:=h;exact⟨b,j,n,c,i,(hs s A38).trans h1,h2,h3,Ix.on h4 hi⟩
 | _=>exact h
theorem fQ.on {V V':Vl}:∀{l:List CV} {vs:List Value},fQ V l vs->(∀s ∈ l.flatMap CV.sy,V'.ρ s=V.ρ s)->(∀b ∈ l.flatMap CV.bs,V'.β b=V.β b)->(∀c ∈ l.flatMap CV.is,V'.ι c=V.ι c)->fQ V' l vs
 | [],_,h,_,_,_=>h| x :: l,_,⟨v,us,e,h1,h2⟩,hs,hb,hi=>⟨v,us,e,CV.on h1 (fun s hm=>hs s A23) (fun b hm=>hb b A23) (fun c hm=>hi c A23),
  fQ.on h2 (fun s hm=>hs s A20) (fun b hm=>hb b A20) (fun c hm=>hi c A20)⟩
theorem AV.on {τ τ':Sm}{V V':Vl}{x:AV}{v:Value}(h:x.ok τ V v)(ht:Sub τ τ')(hs:∀s ∈ x.sy,V'.ρ s=V.ρ s)(hb:∀b ∈ x.bs,V'.β b=V.β b)(hi:∀c ∈ x.is,V'.ι c=V.ι c):x.ok τ' V' v:=by
 cases x with
 | c x=>exact CV.on h hs hb hi| rc t=>obtain⟨vs,e,h1⟩:=h;exact⟨vs,e,h1.sub ht⟩| agg l=>obtain⟨vs,e,h1⟩:=h;exact⟨vs,e,fQ.on h1 hs hb hi⟩| tup t x=>obtain⟨vs,u,e,h1,h2⟩:=h;exact⟨vs,u,e,h1.sub ht,CV.on h2 hs hb hi⟩
theorem SF.on {C:Cx}{U:Value->Prop}{τ τ':Sm}{V V':Vl}{f:SF}{v:Value}(h:f.ok C U τ V v)(ht:Sub τ τ')(hs:∀s ∈ f.sy,V'.ρ s=V.ρ s):f.ok C U τ' V' v:=by
 obtain⟨h1,h2,h3,h4,h5,h6,h9⟩:=h;refine⟨h1.sub ht,h2,h3,h4,h5,h6,fun s e=>?_⟩;rw[hs s (by unfold SF.sy;rw[e];simp)];exact h9 s e
theorem Bk.on {V V':Vl}{w:World}{g:Nat}{x:Bk}(h:x.ok V w g)(hs:∀s ∈ x.sy,V'.ρ s=V.ρ s)(hb:∀b ∈ x.bs,V'.β b=V.β b)(hi:∀c ∈ x.is,V'.ι c=V.ι c):x.ok V' w g:=by
 cases x with
 | cur=>exact h| cells T l=>obtain⟨vs,e,h1⟩:=h;exact⟨vs,e,fQ.on h1 hs hb hi⟩
theorem fQ.get {V:Vl}:∀{l:List CV} {vs:List Value},fQ V l vs->∀{i:Nat} {x:CV},l[i]?=some x->∃v,vs[i]?=some v/\x.ok V v
 | [],_,_,i,x,h=>by simp at h
 | _ :: _,_,⟨v,us,e,h1,h2⟩,i,x,h=>by
  subst e;cases i with
  | zero=>simp only[List.getElem?_cons_zero,zG2]at h;subst h;exact⟨v,rfl,h1⟩| succ i=>rw[List.getElem?_cons_succ]at h ⊢;exact fQ.get h2 h
theorem fQ.length {V:Vl}:∀{l:List CV} {vs:List Value},fQ V l vs->vs.length=l.length
 | [],_,h=>by rw[show _=[] from h];rfl
 | _ :: _,_,⟨v,us,e,h1,h2⟩=>by rw[e,zB1,zB1,fQ.length h2]
theorem fQ.set {V:Vl}:∀{l:List CV} {vs:List Value},fQ V l vs->∀(i:Nat) {x:CV} {v:Value},x.ok V v->fQ V (l.set i x) (vs.set i v)
 | [],_,h,i,x,v,_=>by rw[show _=[] from h];exact rfl
 | _ :: _,_,⟨v,us,e,h1,h2⟩,i,x,u,hu=>by
  subst e;cases i with
  | zero=>exact⟨u,us,rfl,hu,h2⟩| succ i=>exact⟨v,_,rfl,h1,fQ.set h2 i hu⟩
theorem Cur.on {w w':World}{g:Nat}(h:Cur w g)(he:∀b,b<=g->w'.heap[b]?=w.heap[b]?):Cur w' g:=by
 obtain⟨a,n,c,l,i,h,hb,Td,hi1,hn,hl,Bv,hc⟩:=h;refine⟨a,n,c,l,i,h,(he g (zB0 _)).trans hb,Td,hi1,hn,hl,Bv,fun hp=>?_⟩;obtain⟨b,off,e,Lf,Hk⟩:=hc hp;exact⟨b,off,e,Lf,fun j hj=>(World.cell?_of_block (he b A0)).trans (Hk j hj)⟩
end Eg
section
theorem QA18{p:Prop}(h:p:=by
 intro n
 induction n with
 | zero=>intro _;exact⟨[],rfl,(fun _ h=>by cases h),(fun h=>by omega)⟩
 | succ n ih=>
  intro h
  obtain⟨l,h1,h2,h3⟩:=ih fun i hi=>h i A0
  obtain⟨x,hx,Fj,Fi⟩:=h n A0
  refine⟨l++[x],by simp[h1],fun y hy=>?_,fun _=>⟨b,o,rfl,fun i hi=>?_⟩⟩
  .
   rcases List.mem_append.1 hy with hy|hy
   .
    exact h2 y hy
   .
    rw[List.mem_singleton.1 hy];exact⟨Fj,Fi⟩
  .
   by_cases Ha:i<n
   .
    obtain⟨b',o',e,hc⟩:=h3 A0
    cases e
    rw[hc i Ha,List.getElem?_append_left A0]
   .
    have:i=n:=A0
    subst this
    rw[hx,List.getElem?_append_right A0,h1]
    simp):p:=h
theorem QA60{p:Prop}(h:p:=by
 rcases hk with hk|rfl
 .
  rw[hk]at r4;exact r4
 .
  have:l4=[]:=by simpa using n4
  subst this
  obtain⟨a,c,q1,q2,q3,q4,_⟩:=r4
  exact⟨a,c,q1,q2,q3,q4,(fun h=>by cases h)⟩):p:=h
theorem QA62{p:Prop}(h:p:=by
 exact⟨r,h1,h2,by omega⟩):p:=h
theorem QA102{p:Prop}(h:p:=by
 exact⟨[],⟨a,c,rfl,⟨rfl,(fun _ h=>by cases h),(fun h=>by cases h)⟩,h1,h2,h3⟩,by simp⟩):p:=h
namespace Eg
theorem gJ {α:Type}(f:α->List Fl):∀(rs:List (List Fl)),(∀r ∈ rs,∃x:α,r=f x)->∃l:List α,rs=l.map f
 | [],_=>⟨[],rfl⟩| r :: rs,h=>by
  obtain⟨x,hx⟩:=h r A8;obtain⟨l,hl⟩:=gJ f rs fun r hr=>h r (by simp[hr]);exact⟨x :: l,by rw[hx,hl];rfl⟩
theorem aIk {w:World}{b o:Nat}:∀(n:Nat),(∀i,i<n->∃x,w.cell? ⟨b,o+i,none⟩=some (.int .u8 x)/\0<=x/\x<=255)->∃l:List Int,aV w (some ⟨b,o,none⟩) n l:=by
 exact QA18
theorem aMb {w:World}{b o:Nat}:∀(n:Nat),(∀i,i<n->∃x,w.cell? ⟨b,o+i,none⟩=some (.int .i64 x)/\-9223372036854775808<=x/\x<=9223372036854775807)->∃l:List Int,aFq w (some ⟨b,o,none⟩) n l:=by
 exact QA18
theorem aI1 {w:World}{b:Nat}:∀{r:List Fl} {vs:List Value} {off:Nat},aL w r vs->(∀i v,vs[i]?=some v->w.cell? ⟨b,off+i,none⟩=some v)->jK w b off r
 | [],_,_,_,_=>trivial| f :: r,vs,off,h,hc=>by
  obtain⟨v,us,rfl,h1,h2⟩:=h;refine⟨⟨v,hc 0 v rfl,h1⟩,aI1 h2 (fun i u hu=>?_)⟩;have:=hc (i+1) u (by simpa using hu);rwa [show off+(i+1)=off+1+i by omega]at this
theorem oN {w:World}{b k:Nat}:∀{rs:List (List Fl)} {off:Nat} {r:List Fl},dD w b k off rs->jK w b (off+rs.length*k) r->dD w b k off (rs++[r])
 | [],off,r,_,h=>⟨by simpa using h,trivial⟩
 | x :: rs,off,r,h,h'=>⟨h.1,oN h.2 (by rw[zB1,Nat.add_mul]at h';rwa [show off+k+rs.length*k=off+(rs.length*k+1*k) by omega])⟩
theorem aKn {w:World}{b o k W:Nat}{F:List Fl->Prop}:∀(n:Nat),(∀i,i<n->∃r,F r/\aO r<=W/\jK w b (o+i*k) r)->∃rs,rs.length=n/\(∀r ∈ rs,F r)/\aG rs<=n*W/\dD w b k o rs:=by
 intro n;induction n with
 | zero=>intro _;exact⟨[],rfl,(fun _ h=>by cases h),by simp[aG],trivial⟩
 | succ n ih=>
  intro h;obtain⟨rs,h1,h2,h3,h4⟩:=ih fun i hi=>h i A0;obtain⟨r,r1,r2,r3⟩:=h n A0;refine⟨rs++[r],by simp[h1],fun y hy=>?_, ?_,oN h4 (by rw[h1];exact r3)⟩
  .
   rcases List.mem_append.1 hy with hy|hy
   .
    exact h2 y hy
   .
    rw[List.mem_singleton.1 hy];exact r1
  .
   rw[iO];simp only[aG];rw[Nat.add_mul];omega
theorem aE9 {w:World}{a:Option Addr}{n:Nat}{l m:List Int}(h:aV w a n l)(h':aV w a n m):l=m:=by
 refine List.ext_getElem? fun i=>?_;by_cases hi:i<n
 .
  obtain⟨b,o,e,hc⟩:=h.2.2 A0;obtain⟨b',o',e',Dc⟩:=h'.2.2 A0;rw[e]at e';cases e';have:=(hc i hi).symm.trans (Dc i hi);simp only[zG2,Value.int.injEq,true_and]at this;have l1:=h.1;have l2:=h'.1;rw[zA0 A0,zA0 A0]at this ⊢;simpa using this
 .
  rw[List.getElem?_eq_none (by have:=h.1;omega),List.getElem?_eq_none (by have:=h'.1;omega)]
section
variable {τ:Sm} {w:World}
def RdT (τ:Sm)(w:World)(t W:Nat)(F:List Fl->Prop):Prop:=∀us,RV τ (Lt t) us->∃r,F r/\aL w r us/\aO r<=W
theorem rd_b {m:Nat}{v:Value}(hT:TH τ w)(h:FV τ (.b m) v):∃l:List Int,(Fl.b l).Rd w v/\l.length<=m:=by
 obtain⟨n,hn,h⟩:=h;obtain⟨a,c,rfl,h1,h2,h3⟩:=h.sh hT;rcases zG0 n with rfl|h0
 .
  exact QA102
 .
  obtain⟨b,j,c',s,e,_,_,_,_,_,_,hg⟩:=h.get hT h0;simp only[Value.slice.injEq,true_and]at e;obtain⟨rfl,rfl⟩:=e;obtain⟨l,hl⟩:=aIk (w:=w) (b:=b) (o:=j*Rs.bt.k) n fun i hi=>by
   obtain⟨vs,⟨x,rfl,hx⟩,l3⟩:=hg i hi;refine⟨x, ?_,hx⟩;have h9:=l3 0 _ rfl;rw[show(j+i)*Rs.bt.k+0=j*Rs.bt.k+i by simp only[Rs.k];omega]at h9;exact h9
  have e:=hl.1;subst e;exact⟨l,⟨_,_,rfl,hl,h1,h2,h3⟩,hn⟩
theorem aT0 {m:Nat}{v:Value}(hT:TH τ w)(h:FV τ (.i m) v):∃l:List Int,(Fl.i l).Rd w v/\l.length<=m:=by
 obtain⟨n,hn,h⟩:=h;obtain⟨a,c,rfl,h1,h2,h3⟩:=h.sh hT;rcases zG0 n with rfl|h0
 .
  exact QA102
 .
  obtain⟨b,j,c',s,e,_,_,_,_,_,_,hg⟩:=h.get hT h0;simp only[Value.slice.injEq,true_and]at e;obtain⟨rfl,rfl⟩:=e;obtain⟨l,hl⟩:=aMb (w:=w) (b:=b) (o:=j*Rs.ii.k) n fun i hi=>by
   obtain⟨vs,⟨x,rfl,hx⟩,l3⟩:=hg i hi;refine⟨x, ?_,hx⟩;have h9:=l3 0 _ rfl;rw[show(j+i)*Rs.ii.k+0=j*Rs.ii.k+i by simp only[Rs.k];omega]at h9;exact h9
  have e:=hl.1;subst e;exact⟨l,⟨_,_,rfl,hl,h1,h2,h3⟩,hn⟩
theorem aRu {t n W:Nat}{v:Value}{F:List Fl->Prop}(hT:TH τ w)(h:SV τ (.rc t) n v)(ih:0<n->RdT τ w t W F):∃rs,(∀r ∈ rs,F r)/\(Fl.l (Dt t).2.length rs).Rd w v/\rs.length=n/\aG rs<=n*W:=by
 obtain⟨a,c,rfl,h1,h2,h3⟩:=h.sh hT;rcases zG0 n with rfl|h0
 .
  exact⟨[],(fun _ h=>by cases h),⟨a,c,rfl,h1,h2,h3,(fun h=>by cases h)⟩,rfl,by simp[aG]⟩
 .
  obtain⟨b,j,c',s,e,_,_,_,_,_,_,hg⟩:=h.get hT h0;simp only[Value.slice.injEq,true_and]at e;obtain⟨rfl,rfl⟩:=e;have ih:=ih h0;obtain⟨rs,r1,r2,r3,r4⟩:=aKn (w:=w) (b:=b) (o:=j*(Dt t).2.length) (k:=(Dt t).2.length) (W:=W) (F:=F) n fun i hi=>by
   obtain⟨vs,l2,l3⟩:=hg i hi;have hR:RV τ (Lt t) vs:=by
    have l2:RV τ (if s.q then Lt t else (Dt t).2) vs:=l2;split at l2
    .
     exact l2
    .
     exact RV.loose l2
   obtain⟨r,q1,q2,q3⟩:=ih vs hR;refine⟨r,q1,q3,aI1 q2 fun z u hu=>?_⟩;have h9:=l3 z u hu;rw[show(j+i)*(Rs.rc t).k+z=j*(Dt t).2.length+i*(Dt t).2.length+z by rw[Nat.add_mul];rfl]at h9;exact h9
  exact⟨rs,r2,⟨_,_,by rw[r1],by omega,h2,h3,fun _=>⟨b,_,rfl,r4⟩⟩,r1,r3⟩
theorem aCk {t lo m W:Nat}{v:Value}{F:List Fl->Prop}(hT:TH τ w)(h:FV τ (.l t lo m) v)(ih:0<m->RdT τ w t W F):∃rs,(∀r ∈ rs,F r)/\(Fl.l (Dt t).2.length rs).Rd w v/\rs.length<=m/\aG rs<=rs.length*W:=by
 obtain⟨n,⟨_,hn⟩,h⟩:=h;obtain⟨rs,h1,h2,rfl,h4⟩:=aRu hT h (fun h0=>ih A0);exact⟨rs,h1,h2,hn,h4⟩
def nmF (r:List Fl):Prop:=∃x,r=[.b x]
def vaF (r:List Fl):Prop:=∃x:Va,r=x.fl
def paF (r:List Fl):Prop:=∃x:Pa,r=x.fl
def fpF (r:List Fl):Prop:=∃x:Fp,r=x.fl
def faF (r:List Fl):Prop:=∃x:Fa,r=x.fl
def exF (r:List Fl):Prop:=∃x:Ex,r=x.fl
def stF (r:List Fl):Prop:=∃x:St,r=x.fl
def prF (r:List Fl):Prop:=∃x:Pr,r=x.fl
theorem rd0 (hT:TH τ w):RdT τ w 0 4 nmF:=by
 rintro us ⟨v0,_,rfl,h0,rfl⟩;obtain⟨l,r0,n0⟩:=rd_b hT h0;exact⟨_,⟨l,rfl⟩,⟨_,_,rfl,r0,rfl⟩,by simp[aO,Fl.len];omega⟩
theorem rd1 (hT:TH τ w):RdT τ w 1 4 vaF:=by
 rintro us ⟨v0,_,rfl,h0,v1,_,rfl,⟨y,rfl,_⟩,rfl⟩;obtain⟨l,r0,n0⟩:=rd_b hT h0;exact⟨_,⟨⟨l,y⟩,rfl⟩,⟨_,_,rfl,r0,_,_,rfl,rfl,rfl⟩,by simp[Va.fl,aO,Fl.len];omega⟩
theorem rd2 (hT:TH τ w):RdT τ w 2 4 paF:=by
 rintro us ⟨v0,_,rfl,h0,v1,_,rfl,⟨y,rfl⟩,rfl⟩;obtain⟨l,r0,n0⟩:=rd_b hT h0;exact⟨_,⟨⟨l,y⟩,rfl⟩,⟨_,_,rfl,r0,_,_,rfl,rfl,rfl⟩,by simp[Pa.fl,aO,Fl.len];omega⟩
theorem rd3 (hT:TH τ w):RdT τ w 3 7 fpF:=by
 rintro us ⟨v0,_,rfl,h0,v1,_,rfl,h1,rfl⟩;obtain⟨l,r0,n0⟩:=rd_b hT h0;obtain⟨m,r1,n1⟩:=aT0 hT h1;exact⟨_,⟨⟨l,m⟩,rfl⟩,⟨_,_,rfl,r0,_,_,rfl,r1,rfl⟩,by simp[Fp.fl,aO,Fl.len];omega⟩
theorem rd4 (hT:TH τ w):RdT τ w 4 28 faF:=by
 rintro us ⟨v0,_,rfl,h0,v1,_,rfl,h1,rfl⟩;obtain⟨l,r0,n0⟩:=rd_b hT h0;obtain⟨rs,f1,r1,n1,m1⟩:=aCk hT h1 fun _=>rd3 hT;obtain⟨ps,rfl⟩:=gJ Fp.fl rs f1;refine⟨_,⟨⟨l,ps⟩,rfl⟩,⟨_,_,rfl,r0,_,_,rfl,r1,rfl⟩, ?_⟩;simp only[Fa.fl,aO,Fl.len];omega
theorem rdE {t m W:Nat}(hT:TH τ w)(hk:(Dt t).2.length=5\/m=0)(ih:0<m->RdT τ w t W exF){us:List Value}(h:RV τ [.n,.n,.b 4,.b 4,.l t 0 m] us):∃r,exF r/\aL w r us/\aO r<=8+m*(1+W):=by
 obtain⟨v0,_,rfl,⟨k,rfl,_⟩,v1,_,rfl,⟨x,rfl,_⟩,v2,_,rfl,h2,v3,_,rfl,h3,v4,_,rfl,h4,rfl⟩:=h;obtain⟨l2,r2,n2⟩:=rd_b hT h2;obtain⟨l3,r3,n3⟩:=rd_b hT h3;obtain⟨rs,f4,r4,n4,m4⟩:=aCk hT h4 ih;obtain⟨l4,rfl⟩:=gJ Ex.fl rs f4;have e4:(Fl.l 5 (l4.map Ex.fl)).Rd w v4:=by
  exact QA60
 refine⟨_,⟨.mk k x l2 l3 l4,rfl⟩,⟨_,_,rfl,rfl,_,_,rfl,rfl,_,_,rfl,r2,_,_,rfl,r3,_,_,rfl,by rw[aX];exact e4,rfl⟩, ?_⟩;simp only[Ex.fl,aO,Fl.len,aX];have h9:(l4.map Ex.fl).length*W<=m*W:=Nat.mul_le_mul_right _ n4;rw[Nat.mul_add];omega
theorem rd5 (hT:TH τ w):RdT τ w 5 8 exF:=fun us h=>by
 obtain⟨r,h1,h2,h3⟩:=rdE (t:=0) (m:=0) (W:=0) hT (.inr rfl) (fun h=>by omega) h;exact QA62
theorem rd6 (hT:TH τ w):RdT τ w 6 35 exF:=fun us h=>by
 obtain⟨r,h1,h2,h3⟩:=rdE (t:=5) (m:=3) hT (.inl rfl) (fun _=>rd5 hT) h;exact QA62
theorem rd7 (hT:TH τ w):RdT τ w 7 116 exF:=fun us h=>by
 obtain⟨r,h1,h2,h3⟩:=rdE (t:=6) (m:=3) hT (.inl rfl) (fun _=>rd6 hT) h;exact QA62
theorem rd8 (hT:TH τ w):RdT τ w 8 359 exF:=fun us h=>by
 obtain⟨r,h1,h2,h3⟩:=rdE (t:=7) (m:=3) hT (.inl rfl) (fun _=>rd7 hT) h;exact QA62
theorem rdS {q t t' m m' W W':Nat}(hT:TH τ w)(hk:(Dt t).2.length=6\/m=0)(Ld:(Dt t').2.length=6\/m'=0)(ih:0<m->RdT τ w t W stF)(ih':0<m'->RdT τ w t' W' stF){us:List Value}(h:RV τ [.n,.n,.b 4,.l 8 0 q,.l t 0 m,.l t' 0 m'] us):∃r,stF r/\aL w r us/\aO r<=4+q*360+m*(1+W)+m'*(1+W'):=by
 obtain⟨v0,_,rfl,⟨k,rfl,_⟩,v1,_,rfl,⟨x,rfl,_⟩,v2,_,rfl,h2,v3,_,rfl,h3,v4,_,rfl,h4,v5,_,rfl,h5,rfl⟩:=h;obtain⟨l2,r2,n2⟩:=rd_b hT h2;obtain⟨s3,f3,r3,n3,m3⟩:=aCk hT h3 fun _=>rd8 hT;obtain⟨l3,rfl⟩:=gJ Ex.fl s3 f3;have fix:∀{t m W:Nat} {v:Value},(Dt t).2.length=6\/m=0->FV τ (.l t 0 m) v->(0<m->RdT τ w t W stF)->∃l:List St,(Fl.l 6 (l.map St.fl)).Rd w v/\(l.map St.fl).length+aG (l.map St.fl)<=m*(1+W):=fun {t m W v} hk h ih=>by
  obtain⟨rs,f4,r4,n4,m4⟩:=aCk hT h ih;obtain⟨l4,rfl⟩:=gJ St.fl rs f4;refine⟨l4, ?_, ?_⟩
  .
   exact QA60
  .
   have h9:(l4.map St.fl).length*W<=m*W:=Nat.mul_le_mul_right _ n4;rw[Nat.mul_add];omega
 obtain⟨l4,r4,n4⟩:=fix hk h4 ih;obtain⟨l5,r5,n5⟩:=fix Ld h5 ih';refine⟨_,⟨.mk k x l2 l3 l4 l5,rfl⟩,⟨_,_,rfl,rfl,_,_,rfl,rfl,_,_,rfl,r2,_,_,rfl,by rw[aX];exact r3,_,_,rfl,by rw[bA];exact r4,_,_,rfl,by rw[bA];exact r5,rfl⟩, ?_⟩;simp only[St.fl,aO,Fl.len,aX,bA];have h8:(l3.map Ex.fl).length*360<=q*360:=Nat.mul_le_mul_right _ n3;omega
theorem rd9 (hT:TH τ w):RdT τ w 9 724 stF:=fun us h=>by
 obtain⟨r,h1,h2,h3⟩:=rdS (q:=2) (t:=0) (t':=0) (m:=0) (m':=0) (W:=0) (W':=0) hT (.inr rfl) (.inr rfl) (fun h=>by omega) (fun h=>by omega) h;exact QA62
theorem aT1 (hT:TH τ w):RdT τ w 10 3624 stF:=fun us h=>by
 obtain⟨r,h1,h2,h3⟩:=rdS (q:=2) (t:=9) (t':=9) (m:=3) (m':=1) hT (.inl rfl) (.inl rfl) (fun _=>rd9 hT) (fun _=>rd9 hT) h;exact QA62
theorem aNz (hT:TH τ w){lo hi:Nat}{v:Value}(h:SV τ (.rc 4) (ln v) v)(hh:lo<=ln v/\ln v<=hi):∃fs:List Fa,fs.length=ln v/\(Fl.l 2 (fs.map Fa.fl)).Rd w v/\aG (fs.map Fa.fl)<=fs.length*28:=by
 obtain⟨rs,h1,h2,h3,h4⟩:=aRu hT h fun _=>rd4 hT;obtain⟨fs,rfl⟩:=gJ Fa.fl rs h1;rw[zB2]at h3;exact⟨fs,h3,h2,by rw[h3];exact h4⟩
end
end Eg
end
section
theorem QA121{p:Prop}(h:p:=by
 rcases zG0 n with h0|hp
 .
  exact h0
 .
  obtain⟨b,off,e,_⟩:=h.2.2 hp;cases e):p:=h
variable{l m:List Int}
theorem aR{w:World}{a:Option Addr}{n:Nat}(c:Nat)(h:aV w a n l):(convert 22 9 (.slice a n c)).run Tryz.prog w=.ok (.string (strOfNums l)) w:=by
 cases a with
 | none=>
  have hn:n=0:=by
   exact QA121
  have hl:=zE0 (h.1.trans hn);rw[run_convert_bytes_nil (P:=Tryz.prog) w 22 5 Tryz.underlying22 Tryz.underlying5 n c 9 Tryz.underlying9,hl];rfl
 | some ad=>
  rcases zG0 n with h0|hp
  .
   have hl:=zE0 (h.1.trans h0);subst h0;rw[run_convert_bytes_string w 22 9 5 _ 0 c Tryz.underlying22 Tryz.underlying5 Tryz.underlying9,run_bytesToString w ad 0 c [] (by simpa using run_loadCells_list (P:=Tryz.prog) w ad [] A8),hl];rfl
  .
   obtain⟨b,off,e,hc⟩:=h.2.2 hp;cases e;exact run_convert_bytes_arg (P:=Tryz.prog) w 22 5 Tryz.underlying22 Tryz.underlying5 b off n c l h.1 (fun i hi=>by rw[hc i hi];simp[List.getD]) 9 Tryz.underlying9
theorem aKe(hl:∀x ∈ l,0<=x/\x<=255)(hm:∀x ∈ m,0<=x/\x<=255):strOfNums l=strOfNums m ↔ l=m:=by
 refine⟨fun h=>?_,fun h=>by rw[h]⟩;have e:l.map (fun n=>UInt8.ofNat n.toNat)=m.map (fun n=>UInt8.ofNat n.toNat):=by
  have:=congrArg (fun s:ByteArray=>s.data.toList) h;simpa [strOfNums_data] using this
 have Ah:l.length=m.length:=by simpa using congrArg List.length e
 apply List.ext_getElem Ah;intro i h1 h2;have:=congrArg (fun s:List UInt8=>s[i]?) e;simp only[zA2,zA0 h1,zA0 h2,Option.map_some,zG2]at this;have b1:=hl _ (List.getElem_mem h1);have b2:=hm _ (List.getElem_mem h2);have t:=congrArg UInt8.toNat this;simp only[UInt8.toNat_ofNat']at t;omega
theorem jD(hl:∀x ∈ l,0<=x/\x<=255)(hm:∀x ∈ m,0<=x/\x<=255):((strOfNums l).toList == (strOfNums m).toList)=decide (l=m):=by
 rw[ByteArray.toList_eq,ByteArray.toList_eq];have h:=aKe hl hm;by_cases e:l=m
 .
  subst e;simp
 .
  rw[zC2 e];have:(strOfNums l).data.toList ≠ (strOfNums m).data.toList:=fun k=>e (h.1 (by
   cases hx:strOfNums l;cases hy:strOfNums m;rw[hx,hy]at k;simpa using k))
  simpa using this
theorem jJ (a1:Option Addr)(n1 c1:Nat)(l1:List Int)(a2:Option Addr)(n2 c2:Nat)(l2:List Int)(w:World)(h1:aV w a1 n1 l1)(h2:aV w a2 n2 l2):
  Calls Tryz.prog 37 #[.slice a1 n1 c1,.slice a2 n2 c2] w fun e w'=>e=.returned (.bool (decide (l1=l2)))/\w'=w:=by
 have k1:=aR c1 h1;have k2:=aR c2 h2;have hi:=hid (jD h1.2.1 h2.2.1);clear h1 h2;go_enter Tryz.func37,Tryz.ntmps37;go_wp2;go_ret;exact⟨aF hi.out,rfl⟩
end
section
variable{T base g hi i lo off:Nat}{a:Option Addr}{t:TypeId}{v x y z:Value}{w w':World}
inductive Fd where
 | b (l:List Int)| n (x:Int)
structure R3 where
 x:Value
 y:Value
 z:Value
structure D3 where
 x:Fd
 y:Fd
 z:Fd
def R3.vals (r:R3):List Value:=[r.x,r.y,r.z]
def iY:List R3->List Value
 | []=>[]| r :: l=>r.vals++iY l
theorem uV (l m:List R3):iY (l++m)=iY l++iY m:=by
 induction l with
 | nil=>rfl| cons x l ih=>simp[iY,ih]
theorem aEj (l:List R3):(iY l).length=l.length*3:=by
 induction l with
 | nil=>rfl| cons x l ih=>simp[iY,R3.vals,ih];omega
theorem aH0 (l:List R3)(k i:Nat)(hi:i<3)(r:R3)(hk:l[k]?=some r):(iY l)[k*3+i]?=r.vals[i]?:=by
 induction l generalizing k with
 | nil=>simp at hk| cons y l ih=>
  cases k with
  | zero=>
   simp only[List.getElem?_cons_zero,zG2]at hk;subst hk;rw[iY,Nat.zero_mul,zJ0,List.getElem?_append_left (by simpa [R3.vals] using hi)]
  | succ k=>
   rw[List.getElem?_cons_succ]at hk;have e:(k+1)*3+i=y.vals.length+(k*3+i):=by simp[R3.vals];omega
   rw[iY,e,List.getElem?_append_right A0,Nat.add_sub_cancel_left];exact ih k hk
def aQz (w:World)(a:Option Addr)(n:Nat)(l:List R3):Prop:=
 l.length=n/\(0<n->∃b off,a=some ⟨b,off,none⟩/\∀k v,(iY l)[k]?=some v->w.cell? ⟨b,off+k,none⟩=some v)
theorem aQz.below{n:Nat}{l:List R3}(h:aQz w a n l)(hb:Below w.heap.size w w'):aQz w' a n l:=by
 refine⟨h.1,fun hn=>?_⟩;obtain⟨b,off,ha,hc⟩:=h.2 hn;refine⟨b,off,ha,fun k v hv=>?_⟩;have:=hc k v hv;exact QA55
theorem aKo{b k:Nat}{l:List R3}(hc:∀k v,(iY l)[k]?=some v->w.cell? ⟨b,off+k,none⟩=some v){r:R3}(hk:l[k]?=some r):
  w.cell? ⟨b,off+k*3,none⟩=some r.x/\w.cell? ⟨b,off+k*3+1,none⟩=some r.y/\w.cell? ⟨b,off+k*3+2,none⟩=some r.z:=by
 have h:∀i,i<3->∀v,r.vals[i]?=some v->w.cell? ⟨b,off+k*3+i,none⟩=some v:=by
  intro i hi v hv;rw[Nat.add_assoc];exact hc _ _ ((aH0 l k i hi r hk).trans hv)
 exact⟨h 0 A0 _ rfl,h 1 A0 _ rfl,h 2 A0 _ rfl⟩
def Fd.Read (w:World)(v:Value):Fd->Prop
 | .b l=>∃a c,v=.slice a l.length c/\aV w a l.length l/\l.length<=c/\c<=maxLen/\(a=none->c=0)| .n x=>v=.int .i64 x
theorem Fd.Read.below {w w':World}{v:Value}{f:Fd}(h:f.Read w v)(hb:Below w.heap.size w w'):f.Read w' v:=by
 cases f with
 | b l=>obtain⟨a,c,e,hr,r⟩:=h;exact⟨a,c,e,hr.below hb,r⟩| n x=>exact h
def Rd (w:World)(r:R3)(d:D3):Prop:=d.x.Read w r.x/\d.y.Read w r.y/\d.z.Read w r.z
theorem Rd.below {w w':World}{r:R3}{d:D3}(h:Rd w r d)(hb:Below w.heap.size w w'):Rd w' r d:=⟨h.1.below hb,h.2.1.below hb,h.2.2.below hb⟩
def iZ (w:World)(a:Option Addr)(n:Nat)(ds:List D3):Prop:=
 ds.length=n/\∃l:List R3,aQz w a n l/\∀(i:Nat) (r:R3) (d:D3),l[i]?=some r->ds[i]?=some d->Rd w r d
theorem iZ.below {w w':World}{a:Option Addr}{n:Nat}{ds:List D3}(h:iZ w a n ds)(hb:Below w.heap.size w w'):iZ w' a n ds:=by
 obtain⟨hl,l,hr,hd⟩:=h;exact⟨hl,l,hr.below hb,fun i r d h1 h2=>(hd i r d h1 h2).below hb⟩
theorem iZ.addr{n:Nat}{ds:List D3}(h:iZ w a n ds)(hn:0<n):∃b off,a=some ⟨b,off,none⟩:=by
 obtain⟨_,l,hr,_⟩:=h;obtain⟨b,off,e,_⟩:=hr.2 hn;exact⟨b,off,e⟩
theorem iZ.el{b n:Nat}{ds:List D3}(h:iZ w (some ⟨b,off,none⟩) n ds){k:Nat}(hk:k<n):
  ∃r d,ds[k]?=some d/\Rd w r d/\w.cell? ⟨b,off+k*3,none⟩=some r.x/\w.cell? ⟨b,off+k*3+1,none⟩=some r.y/\w.cell? ⟨b,off+k*3+2,none⟩=some r.z:=by
 obtain⟨hl,l,hr,hd⟩:=h;obtain⟨b',Kw,e,hc⟩:=hr.2 A0;simp only[zG2,Addr.mk.injEq,and_true]at e;obtain⟨rfl,rfl⟩:=e;have Dp:k<l.length:=by rw[hr.1];exact hk
 have h1:l[k]?=some l[k]:=zA0 Dp;have h2:ds[k]?=some ds[k]:=zA0 (by rw[hl];exact hk);exact⟨_,_,h2,hd k _ _ h1 h2,aKo hc h1⟩
def Fd.Has (w:World)(base:Nat)(v:Value):Fd->Prop
 | .b l=>∃a c,v=.slice a l.length c/\Own w base v l.length l| .n x=>v=.int .i64 x
theorem Fd.Has.read{f:Fd}(h:f.Has w base v):f.Read w v:=by
 cases f with
 | b l=>
  obtain⟨a,c,e,ho⟩:=h;obtain⟨a',c',e',h1,h2,h3,_⟩:=ho.shape;rw[e]at e';simp only[Value.slice.injEq,true_and]at e';obtain⟨rfl,rfl⟩:=e';refine⟨a,c,e,h3,h1,h2,fun hn=>?_⟩;rcases ho.1.2 with⟨e2,_⟩|⟨g,cap,cur,e2,_⟩
  .
   rw[e]at e2;simp only[Value.slice.injEq]at e2;exact e2.2.2
  .
   rw[e,hn]at e2;simp at e2
 | n x=>exact h
theorem Fd.Has.below {w w':World}{base:Nat}{v:Value}{f:Fd}(h:f.Has w base v)(hb:Below w.heap.size w w'):f.Has w' base v:=by
 cases f with
 | b l=>obtain⟨a,c,e,ho⟩:=h;exact⟨a,c,e,ho.below hb⟩| n x=>exact h
theorem Fd.Has.mono {w:World}{base Ci:Nat}{v:Value}{f:Fd}(h:f.Has w base v)(hb:Ci<=base):f.Has w Ci v:=by
 cases f with
 | b l=>obtain⟨a,c,e,ho⟩:=h;exact⟨a,c,e,ho.mono hb⟩| n x=>exact h
theorem Fd.Has.kept {w w':World}{base:Nat}{v:Value}{f:Fd}{row:Option Nat}(h:f.Has w base v)(hg:w.grownBy w' row)(Ae:v.ownBlock=none\/v.ownBlock ≠ row):f.Has w' base v:=by
 cases f with
 | b l=>obtain⟨a,c,e,ho⟩:=h;exact⟨a,c,e,ho.kept hg Ae⟩| n x=>exact h
theorem Fd.Has.lt {w:World}{base:Nat}{v:Value}{f:Fd}(h:f.Has w base v):∀g,v.ownBlock=some g->base<=g/\g<w.heap.size:=by
 cases f with
 | b l=>obtain⟨a,c,e,ho⟩:=h;exact ho.1.lt| n x=>intro g hg;rw[show v=.int .i64 x from h]at hg;cases hg
def Hs (w:World)(base:Nat)(r:R3)(d:D3):Prop:=d.x.Has w base r.x/\d.y.Has w base r.y/\d.z.Has w base r.z
theorem Hs.rd{r:R3}{d:D3}(h:Hs w base r d):Rd w r d:=⟨h.1.read,h.2.1.read,h.2.2.read⟩
theorem Hs.below {w w':World}{base:Nat}{r:R3}{d:D3}(h:Hs w base r d)(hb:Below w.heap.size w w'):Hs w' base r d:=⟨h.1.below hb,h.2.1.below hb,h.2.2.below hb⟩
theorem Hs.mono {w:World}{base Ci:Nat}{r:R3}{d:D3}(h:Hs w base r d)(hb:Ci<=base):Hs w Ci r d:=⟨h.1.mono hb,h.2.1.mono hb,h.2.2.mono hb⟩
def Bk (lo hi:Nat)(os:List (Option Nat)):Prop:=(∀g,some g ∈ os->lo<=g/\g<hi)/\os.Pairwise (fun a b=>a=none\/a ≠ b)
theorem Bk.append{mid:Nat}{xs ys:List (Option Nat)}(h1:Bk lo mid xs)(h2:Bk mid hi ys)(hl:lo<=mid)(hh:mid<=hi):Bk lo hi (xs++ys):=by
 refine⟨fun g hg=>?_,List.pairwise_append.2 ⟨h1.2,h2.2,fun a ha b hb=>?_⟩⟩
 .
  rcases List.mem_append.1 hg with h|h
  .
   have:=h1.1 g h;omega
  .
   have:=h2.1 g h;omega
 .
  cases a with
  | none=>exact .inl rfl| some g=>
   cases b with
   | none=>exact .inr A8| some k=>
    refine .inr fun e=>?_;have e':=Option.some.inj e;have x1:=h1.1 g ha;have x2:=h2.1 k hb;omega
theorem Bk.mono{hi':Nat}{os:List (Option Nat)}(h:Bk lo hi os)(hh:hi<=hi'):Bk lo hi' os:=⟨fun g hg=>by have:=h.1 g hg;omega,h.2⟩
theorem Bk.low{lo':Nat}{os:List (Option Nat)}(h:Bk lo hi os)(hh:lo'<=lo):Bk lo' hi os:=⟨fun g hg=>by have:=h.1 g hg;omega,h.2⟩
theorem Bk.nil {lo hi:Nat}:Bk lo hi []:=⟨by simp,List.Pairwise.nil⟩
theorem Bk.one(h1:lo<=g)(h2:g<hi):Bk lo hi [some g]:=⟨by intro k hk;simp at hk;omega,List.pairwise_singleton _ _⟩
structure aJ0 (w:World) (T:TypeId) (base:Nat) (v:Value) (n:Nat) (l:List R3) (ds:List D3):Prop where
 row:w.ownsRow base T 3 v n (iY l)
 len:l.length=n
 lend:ds.length=n
 has:∀(i:Nat) (r:R3) (d:D3),l[i]?=some r->ds[i]?=some d->Hs w base r d
theorem rK{n:Nat}{xs:List Value}(h:w.ownsRow base T 3 v n xs)(hb:Below w.heap.size w w'):w'.ownsRow base T 3 v n xs:=by
 refine⟨h.1, ?_⟩;rcases h.2 with hn|⟨g,cap,cur,hv,hg,hh,r⟩
 .
  exact .inl hn
 .
  exact .inr ⟨g,cap,cur,hv,hg,by rw[hb.block g (zI3.1 hh).1];exact hh,r⟩
theorem aJ0.below {w w':World}{T base n:Nat}{v:Value}{l:List R3}{ds:List D3}(h:aJ0 w T base v n l ds)(hb:Below w.heap.size w w'):aJ0 w' T base v n l ds:=
 ⟨rK h.row hb,h.len,h.lend,fun i r d h1 h2=>(h.has i r d h1 h2).below hb⟩
theorem aJ0.mono {w:World}{T base Ci n:Nat}{v:Value}{l:List R3}{ds:List D3}(h:aJ0 w T base v n l ds)(hb:Ci<=base):aJ0 w T Ci v n l ds:=by
 refine⟨⟨h.row.1, ?_⟩,h.len,h.lend,fun i r d h1 h2=>(h.has i r d h1 h2).mono hb⟩;rcases h.row.2 with hn|⟨g,cap,cur,hv,hg,hh,r⟩
 .
  exact .inl hn
 .
  exact .inr ⟨g,cap,cur,hv,by omega,hh,r⟩
theorem aJ0.shape{n:Nat}{l:List R3}{ds:List D3}(h:aJ0 w T base v n l ds):
  ∃a c,v=.slice a n c/\n<=c/\c<=maxLen/\(a=none->c=0)/\iZ w a n ds:=by
 have hd:=fun (i:Nat) (r:R3) (d:D3) h1 h2=>(h.has i r d h1 h2).rd;obtain⟨⟨Ah,hr⟩,hl,hld,_⟩:=h;rcases hr with⟨rfl,rfl⟩|⟨g,cap,cur,rfl,hg,hh,Fu,Oi,hs,ht⟩
 .
  exact⟨none,0,rfl,by omega,by simp,fun _=>rfl,hld,l,⟨hl,by omega⟩,hd⟩
 .
  refine⟨some ⟨g,0,none⟩,cap,rfl,Fu,Oi,by simp,hld,l,⟨hl,fun hn=>⟨g,0,rfl,fun i v hv=>?_⟩⟩,hd⟩;rw[zJ0,cell_of_row w g i cur _ (0,0) hh];have hi:i<(iY l).length:=(zC1.1 hv).1;rw[aEj,hl]at hi;have e:(cur.toList.take (n*3))[i]?=cur[i]?:=by rw[List.getElem?_take,if_pos hi];simp
  rw[<-e,ht];exact hv
def B3 (w:World)(g:Nat)(t:TypeId)(x y z:Value):Prop:=w.heap[g]?=some (.cells #[x,y,z] t (0,0))
theorem B3.facts(h:B3 w g t x y z):
  w.cell? ⟨g,0,none⟩=some x/\w.cell? ⟨g,1,none⟩=some y/\w.cell? ⟨g,2,none⟩=some z/\w.frozen? ⟨g,0,none⟩=false/\w.frozen? ⟨g,1,none⟩=false/\w.frozen? ⟨g,2,none⟩=false:=
 ⟨by rw[cell_of_row w g 0 _ _ (0,0) h];rfl,by rw[cell_of_row w g 1 _ _ (0,0) h];rfl,by rw[cell_of_row w g 2 _ _ (0,0) h];rfl,frozen_of_row w g 0 _ _ h,frozen_of_row w g 1 _ _ h,frozen_of_row w g 2 _ _ h⟩
theorem B3.below{B:Nat}(h:B3 w g t x y z)(hb:Below B w w')(hg:g<B):B3 w' g t x y z:=(hb.block g hg).trans h
theorem B3.new (w:World)(t:TypeId)(x y z:Value):B3 (w.alloc (.cells #[x,y,z] t (0,0))) w.heap.size t x y z:=heap_alloc_new w _
theorem B3.old{o:Obj}(h:B3 w g t x y z):B3 (w.alloc o) g t x y z:=
 ((((zD2 w.heap.size w).alloc (zB0 _) o).block g (zI3.1 h).1)).trans h
theorem B3.lt(h:B3 w g t x y z):g<w.heap.size:=(zI3.1 h).1
theorem B3.other{k:Nat}(h:B3 w g t x y z)(Ae:g ≠ k):B3 (w.setCell ⟨k,i,none⟩ v) g t x y z:=(heap_setCell_other w ⟨k,i,none⟩ g v Ae).trans h
theorem aEf (w:World)(k i:Nat)(v:Value):w.grownBy (w.setCell ⟨k,i,none⟩ v) (some k):=
 ⟨rfl,rfl,rfl,by simp,fun j hj Ae=>heap_setCell_other w ⟨k,i,none⟩ j v (fun e=>Ae A82)⟩
theorem Own.other{k:Nat}{u:Value}{n:Nat}{l:List Int}(h:Own w base v n l)(Ae:v.ownBlock ≠ some k):Own (w.setCell ⟨k,i,none⟩ u) base v n l:=
 h.kept (aEf w k i u) (.inr Ae)
end
section
variable{g:Nat}{t:TypeId}{w:World}
def Fd.len:Fd->Nat
 | .b l=>l.length| .n _=>0
def D3.len (d:D3):Nat:=d.x.len+d.y.len+d.z.len
def aFs:List D3->Nat
 | []=>0| d :: l=>d.len+aFs l
theorem pA{ds:List D3}{d:D3}(h:d ∈ ds):d.len<=aFs ds:=by
 induction ds with
 | nil=>simp at h| cons x l ih=>
  rcases zG3.1 h with rfl|h
  .
   simp[aFs]
  .
   have:=ih h;simp[aFs];omega
structure ObL where
 name:List Int
 ex:List D3
 im:List D3
 data:Int
 code:List Int
structure O5 where
 x:Value
 e:Value
 i:Value
 d:Value
 c:Value
def isE (d:D3):Prop:=∃l p q,d=(⟨.b l,.n p,.n q⟩:D3)
def isM (d:D3):Prop:=∃l l2 p,d=(⟨.b l,.b l2,.n p⟩:D3)
def DV (w:World)(v:Value)(ds:List D3):Prop:=∃a c,v=.slice a ds.length c/\iZ w a ds.length ds/\ds.length<=c/\c<=maxLen/\(a=none->c=0)
theorem DV.below {w w':World}{v:Value}{ds:List D3}(h:DV w v ds)(hb:Below w.heap.size w w'):DV w' v ds:=by
 obtain⟨a,c,e,hr,r⟩:=h;exact⟨a,c,e,hr.below hb,r⟩
structure vI (w:World) (o:O5) (b:ObL):Prop where
 nm:(Fd.b b.name).Read w o.x
 ex:DV w o.e b.ex
 im:DV w o.i b.im
 dt:o.d=.int .i64 b.data
 cd:(Fd.b b.code).Read w o.c
 exs:∀d ∈ b.ex,isE d
 ims:∀d ∈ b.im,isM d
theorem vI.below {w w':World}{o:O5}{b:ObL}(h:vI w o b)(hb:Below w.heap.size w w'):vI w' o b:=
 ⟨h.nm.below hb,h.ex.below hb,h.im.below hb,h.dt,h.cd.below hb,h.exs,h.ims⟩
theorem vI.shape{o:O5}{b:ObL}(h:vI w o b):∃a1 c1 a2 c2 a3 c3 a4 c4,o=⟨.slice a1 b.name.length c1,.slice a2 b.ex.length c2,.slice a3 b.im.length c3,.int .i64 b.data,.slice a4 b.code.length c4⟩:=by
 obtain⟨x,e,i,d,c⟩:=o;obtain⟨⟨a1,c1,h1,_⟩,⟨a2,c2,h2,_⟩,⟨a3,c3,h3,_⟩,h4,⟨a4,c4,h5,_⟩,_,_⟩:=h;simp only at h1 h2 h3 h4 h5;exact⟨a1,c1,a2,c2,a3,c3,a4,c4,by rw[h1,h2,h3,h4,h5]⟩
def osz (b:ObL):Nat:=b.name.length+(b.ex.length+aFs b.ex)+(b.im.length+aFs b.im)+b.code.length
theorem aJa{b:ObL}(h:osz b<=1048576)(hs:∀d ∈ b.ex,isE d):∀d ∈ b.ex,∃l p q,d=(⟨.b l,.n p,.n q⟩:D3)/\l.length<=1048576:=by
 intro d hd;obtain⟨l,p,q,rfl⟩:=hs d hd;have:=pA hd;simp only[D3.len,Fd.len]at this;unfold osz at h;exact⟨l,p,q,rfl,by omega⟩
theorem aI9{b:ObL}(h:osz b<=1048576)(hs:∀d ∈ b.im,isM d):∀d ∈ b.im,∃l l2 p,d=(⟨.b l,.b l2,.n p⟩:D3)/\l.length<=1048576/\l2.length<=1048576:=by
 intro d hd;obtain⟨l,l2,p,rfl⟩:=hs d hd;have:=pA hd;simp only[D3.len,Fd.len]at this;unfold osz at h;exact⟨l,l2,p,rfl,by omega,by omega⟩
def B5 (w:World)(g:Nat)(t:TypeId)(o:O5):Prop:=w.heap[g]?=some (.cells #[o.x,o.e,o.i,o.d,o.c] t (0,0))
theorem B5.facts{o:O5}(h:B5 w g t o):
  w.cell? ⟨g,0,none⟩=some o.x/\w.cell? ⟨g,1,none⟩=some o.e/\w.cell? ⟨g,2,none⟩=some o.i/\w.cell? ⟨g,3,none⟩=some o.d/\w.cell? ⟨g,4,none⟩=some o.c:=
 ⟨by rw[cell_of_row w g 0 _ _ (0,0) h];rfl,by rw[cell_of_row w g 1 _ _ (0,0) h];rfl,by rw[cell_of_row w g 2 _ _ (0,0) h];rfl,by rw[cell_of_row w g 3 _ _ (0,0) h];rfl,by rw[cell_of_row w g 4 _ _ (0,0) h];rfl⟩
theorem B5.below{w':World}{B:Nat}{o:O5}(h:B5 w g t o)(hb:Below B w w')(hg:g<B):B5 w' g t o:=(hb.block g hg).trans h
theorem B5.lt{o:O5}(h:B5 w g t o):g<w.heap.size:=(zI3.1 h).1
theorem B5.new (w:World)(t:TypeId)(o:O5):B5 (w.alloc (.cells #[o.x,o.e,o.i,o.d,o.c] t (0,0))) w.heap.size t o:=heap_alloc_new w _
theorem B5.old{o:O5}{ob:Obj}(h:B5 w g t o):B5 (w.alloc ob) g t o:=
 ((((zD2 w.heap.size w).alloc (zB0 _) ob).block g (zI3.1 h).1)).trans h
theorem B5.other{k i:Nat}{o:O5}{v:Value}(h:B5 w g t o)(Ae:g ≠ k):B5 (w.setCell ⟨k,i,none⟩ v) g t o:=(heap_setCell_other w ⟨k,i,none⟩ g v Ae).trans h
end
section
variable{p:Int}{ds:List D3}{l:List Int}{j:Nat}{f:Nat->Bool}
def D3.nm (d:D3):List Int:=match d.x with
 | .b l=>l| .n _=>[]
def dup (ds:List D3)(l:List Int):Bool:=ds.any (fun d=>decide (d.nm=l))
def jL (n lo hi:Int):Bool:=decide (lo<=n) && decide (n<=hi)
def aS4 (d:D3):Bool:=match d with
 | ⟨.b l,.n p,.n q⟩=>aN l false && jL p 0 2147483647 && jL q 0 4000| _=>false
def aSk (d:D3):Bool:=match d with
 | ⟨.b l,.b l2,.n p⟩=>aN l true && aN l2 false && jL p 0 2147483647| _=>false
def aCa (ds:List D3)(i:Nat):Bool:=match ds[i]? with
 | some d=>aS4 d && !dup (ds.take i) d.nm| none=>true
def aHs (ds:List D3)(i:Nat):Bool:=match ds[i]? with
 | some d=>aSk d| none=>true
def iQ (ds:List D3):Bool:=decide (ds.length<=8) && (List.range ds.length).all (aCa ds)
def eU (ds:List D3):Bool:=decide (ds.length<=8) && (List.range ds.length).all (aHs ds)
def cU (b:ObL):Bool:=aN b.name true && iQ b.ex && eU b.im && jL b.data 0 200 && decide (b.code.length<=9000)
theorem yP{n:Nat}(h:j<n)(hb:f j=false):(List.range n).all f=false:=by
 exact QA133
theorem tS{n:Nat}(h:∀j<n,f j=true):(List.range n).all f=true:=zF3.2 fun j hj=>h j (List.mem_range.1 hj)
theorem qU(h:8<ds.length):iQ ds=false:=by unfold iQ;rw[zC2 (by omega:¬ds.length<=8)];rfl
theorem qP(h:8<ds.length):eU ds=false:=by unfold eU;rw[zC2 (by omega:¬ds.length<=8)];rfl
theorem gE(h:j<ds.length)(hb:aCa ds j=false):iQ ds=false:=by unfold iQ;rw[yP h hb];simp
theorem kP(h:j<ds.length)(hb:aHs ds j=false):eU ds=false:=by unfold eU;rw[yP h hb];simp
theorem pP(h8:ds.length<=8)(h:∀j<ds.length,aCa ds j=true):iQ ds=true:=by unfold iQ;rw[tS h,zB3 h8];rfl
theorem pF(h8:ds.length<=8)(h:∀j<ds.length,aHs ds j=true):eU ds=true:=by unfold eU;rw[tS h,zB3 h8];rfl
theorem sL{q:Int}(h:ds[j]?=some ⟨.b l,.n p,.n q⟩):aCa ds j=(aN l false && jL p 0 2147483647 && jL q 0 4000 && !dup (ds.take j) l):=by
 unfold aCa;rw[h];rfl
theorem pH{l2:List Int}(h:ds[j]?=some ⟨.b l,.b l2,.n p⟩):aHs ds j=(aN l true && aN l2 false && jL p 0 2147483647):=by
 unfold aHs;rw[h];rfl
theorem aAj{k:Nat}{d:D3}(h:ds[k]?=some d):dup (ds.take (k+1)) l=(dup (ds.take k) l || decide (d.nm=l)):=by
 obtain⟨hk,rfl⟩:=zC1.1 h;unfold dup;rw[zF1 hk,List.any_append];simp
theorem sN{k:Nat}{d:D3}(h:ds[k]?=some d)(e:d.nm=l):dup ds l=true:=by
 unfold dup;rw[List.any_eq_true];exact⟨d,zA3 h,by simp[e]⟩
theorem iZ.take {w:World}{a:Option Addr}{n i:Nat}{ds:List D3}(h:iZ w a n ds)(hi:i<=n):iZ w a i (ds.take i):=by
 obtain⟨hl,l,hr,hd⟩:=h;refine⟨by rw[List.length_take,hl,Nat.min_eq_left hi],l.take i,⟨by rw[List.length_take,hr.1,Nat.min_eq_left hi],fun hp=>?_⟩,fun j r d h1 h2=>?_⟩
 .
  obtain⟨b,off,e,hc⟩:=hr.2 A0;refine⟨b,off,e,fun k v hv=>hc k v ?_⟩;have:=uV (l.take i) (l.drop i);rw[List.take_append_drop]at this;rw[this,List.getElem?_append_left (zC1.1 hv).1];exact hv
 .
  have g1:j<i:=by have:=(zC1.1 h1).1;simp at this;omega
  rw[List.getElem?_take,if_pos g1]at h1 h2;exact hd j r d h1 h2
end
section
variable{T j:Nat}{w w1 w2:World}
theorem Blk.setAll {g:Nat}{T:TypeId}:∀(us:List Value) {W:World} {pre old post:List Value},Blk W g T (pre++old++post)->old.length=us.length->Blk (setAll W g pre.length us) g T (pre++us++post):=by
 intro us;induction us with
 | nil=>intro W pre old post h hl;have:old=[]:=zE0 hl;subst this;exact h| cons u us ih=>
  intro W pre old post h hl;cases old with
  | nil=>simp at hl| cons x old=>
   have h1:=h.set (i:=pre.length) u;have e:(pre++x :: old++post).set pre.length u=(pre++[u])++old++post:=by simp
   rw[e]at h1;have h2:=ih h1 (by simpa using hl);have e2:(pre++[u]).length=pre.length+1:=by simp
   rw[e2]at h2;simpa [Go.Proofs.YtcbhdhmhidpdgaaGreatDoor.setAll] using h2
structure TL (w wr:World) (T K n j:Nat) (rs:List (List Fl)) (vs rest:List Value):Prop where
 len:rest.length=(n-j)*K
 blk:Blk wr w.heap.size T (vs++rest)
 has:bE wr K (w.heap.size+1) wr.heap.size (rs.take j) vs
 lenr:rs.length=n
 leqj:j<=n
 below:Below w.heap.size w wr
theorem TL.start{wr:World}{K n:Nat}{rs:List (List Fl)}{xs:List Value}(hn:rs.length=n)(h:wr.ownsRow w.heap.size T K (.slice (some ⟨w.heap.size,0,none⟩) n n) n xs)(hg:w.grownBy wr none):∃vs rest,TL w wr T K n 0 rs vs rest:=by
 have hl:=h.1;rcases h.2 with⟨h',_⟩|⟨g',cap,cur,h',_,Ew,_,_,hs,ht⟩
 .
  simp at h'
 .
  simp only[Value.slice.injEq,zG2,Addr.mk.injEq,and_true,true_and]at h';obtain⟨rfl,rfl⟩:=h';rw[zD3 A10]at ht;refine⟨[],xs,by simpa using hl, ?_, ?_,hn,zD1 _,(zD2 _ _).grown hg (zB0 _) (by intro k hk;cases hk)⟩
  .
   show wr.heap[w.heap.size]?=_
   rw[Ew,<-ht];simp
  .
   rw[List.take_zero];unfold bE;rfl
theorem TL.vlen{wr:World}{K n:Nat}{rs:List (List Fl)}{vs rest:List Value}(h:TL w wr T K n j rs vs rest):vs.length=j*K:=by
 rw[h.has.len,List.length_take,h.lenr,Nat.min_eq_left h.leqj]
theorem TL.call{K n:Nat}{rs:List (List Fl)}{vs rest:List Value}(h:TL w w1 T K n j rs vs rest)(hb:Below w1.heap.size w1 w2):TL w w2 T K n j rs vs rest:=
 ⟨h.len,h.blk.below hb h.blk.lt,(h.has.stays (eY.of hb (zB0 _))).wide (zB0 _) hb.size,h.lenr,h.leqj,h.below.trans (hb.mono h.below.size)⟩
theorem TL.cells{wr:World}{K n:Nat}{rs:List (List Fl)}{vs rest:List Value}(h:TL w wr T K n j rs vs rest)(hj:j<n):∀i,i<K->∃v,wr.cell? ⟨w.heap.size,j*K+i,none⟩=some v:=by
 intro i hi;have hv:=h.vlen;have hr:=h.len;have hp:K<=(n-j)*K:=Nat.le_mul_of_pos_left K A0;have Ad:i<rest.length:=A0;refine⟨rest[i],h.blk.cell ?_⟩;rw[List.getElem?_append_right A0,hv,Nat.add_sub_cancel_left];exact zA0 Ad
theorem TL.step{K n:Nat}{rs:List (List Fl)}{vs rest us:List Value}{r:List Fl}(h:TL w w1 T K n j rs vs rest)(hj:j<n)(hb:Below w1.heap.size w1 w2)(hr:rs[j]?=some r)(hl:us.length=K)(hh:bQ w2 w1.heap.size w2.heap.size r us):
  TL w (setAll w2 w.heap.size (j*K) us) T K n (j+1) rs (vs++us) (rest.drop K):=by
 have h2:=h.call hb;have hv:=h.vlen;have hp:K<=(n-j)*K:=Nat.le_mul_of_pos_left K A0;have Qg:=h.len;have hb1:Blk (setAll w2 w.heap.size (j*K) us) w.heap.size T ((vs++us)++rest.drop K):=by
  have e:vs++rest=vs++rest.take K++rest.drop K:=by rw[zD0,List.take_append_drop]
  have:=h2.blk;rw[e]at this;have h3:=this.setAll us (by rw[List.length_take,hl];omega);rw[hv]at h3;exact h3
 have hlt1:=h.blk.lt;have Au:bE w2 K (w.heap.size+1) w2.heap.size (rs.take (j+1)) (vs++us):=by
  obtain⟨hk,e⟩:=zC1.1 hr;rw[zF1 hk,e];exact(h.has.stays (eY.of hb (zB0 _))).snoc hh hl A0 hb.size
 have Cc:∀(l:List Value) (W:World) (i:Nat),Below w.heap.size w W->bE W K (w.heap.size+1) w2.heap.size (rs.take (j+1)) (vs++us)->Below w.heap.size w (setAll W w.heap.size i l)/\bE (setAll W w.heap.size i l) K (w.heap.size+1) w2.heap.size (rs.take (j+1)) (vs++us):=by
  intro l;induction l with
  | nil=>intro W i a b;exact⟨a,b⟩| cons v l ih=>intro W i a b;exact ih _ _ (a.setCell A8 v) (b.stays (eY.put (.inl A0)))
 obtain⟨k1,k2⟩:=Cc us w2 (j*K) h2.below Au;refine⟨?_,hb1, ?_,h.lenr,by omega,k1⟩
 .
  rw[List.length_drop,Qg];have:n-j=(n-(j+1))+1:=A0;rw[this,Nat.add_mul];omega
 .
  rw[vS];exact k2
theorem bQ.st:∀{r:List Fl} {lo hi:Nat} {us:List Value},bQ w lo hi r us->∀(i:Nat) (u:Value),us[i]?=some u->∀(W:World) (a:Addr) (m:Mode),(store a u m).run Tryz.prog W=stored Tryz.prog W a u m:=by
 intro r;induction r with
 | nil=>intro lo hi us h i u hu;unfold bQ at h;subst h;simp at hu| cons f r ih=>
  intro lo hi us h i u hu;unfold bQ at h;obtain⟨x,us',mid,rfl,_,_,hf,hr⟩:=h;cases i with
  | succ i=>exact ih hr i u (by simpa using hu)
  | zero=>
   simp only[List.getElem?_cons_zero,zG2]at hu;subst hu;intro W a m;cases f <;> unfold Fl.Has at hf
   .
    obtain⟨g,rfl,_⟩:=hf;exact run_store_slice ..
   .
    obtain⟨g,rfl,_⟩:=hf;exact run_store_slice ..
   .
    subst hf;exact run_store_int ..
   .
    subst hf;exact run_store_bool ..
   .
    obtain⟨g,vs,T,rfl,_⟩:=hf;exact run_store_slice ..
theorem ToV.on{F:Nat}{f:Fl}{v:Value}(h:ToV w F f v)(hb:Below w.heap.size w w1):ToV w1 F f v:=
 fun w2 hb2=>h w2 (hb.trans (hb2.mono hb.size))
end
section
variable{l:List Oj}{j:Nat}{x:Oj}{v:Value}{w:World}
def Xp.d (x:Xp):D3:=⟨.b x.name,.n x.print,.n x.pos⟩
def Ip.d (x:Ip):D3:=⟨.b x.mod,.b x.name,.n x.print⟩
def Oj.ob (x:Oj):ObL:=⟨x.name,x.ex.map Xp.d,x.im.map Ip.d,x.data,x.code⟩
def Fd.fl:Fd->Fl
 | .b l=>.b l| .n x=>.n x
def D3.fl (d:D3):List Fl:=[d.x.fl,d.y.fl,d.z.fl]
theorem Fd.of{f:Fd}(h:f.fl.Rd w v):f.Read w v:=by
 cases f with
 | b l=>exact h| n x=>exact h
theorem aRr{b:Nat}:∀{ds:List D3} {off:Nat},dD w b 3 off (ds.map D3.fl)->∃l:List R3,l.length=ds.length/\(∀k v,(iY l)[k]?=some v->w.cell? ⟨b,off+k,none⟩=some v)/\∀(i:Nat) (r:R3) (d:D3),l[i]?=some r->ds[i]?=some d->Rd w r d:=by
 intro ds;induction ds with
 | nil=>intro off _;exact⟨[],rfl,by simp[iY],by simp⟩
 | cons d ds ih=>
  intro off h;obtain⟨⟨⟨vx,cx,hx⟩,⟨vy,cy,hy⟩,⟨vz,cz,hz⟩,_⟩,h2⟩:=h;obtain⟨l,hl,hc,hr⟩:=ih h2;refine⟨⟨vx,vy,vz⟩ :: l,by simp[hl],fun k v hv=>?_,fun i r d' h1 h2=>?_⟩
  .
   match k,hv with
   | 0,hv=>simp[iY,R3.vals]at hv;subst hv;exact cx| 1,hv=>simp[iY,R3.vals]at hv;subst hv;exact cy| 2,hv=>simp[iY,R3.vals]at hv;subst hv;exact cz| k+3,hv=>
    have:=hc k v (by simpa [iY,R3.vals] using hv);rw[show off+(k+3)=off+3+k by omega];exact this
  .
   cases i with
   | zero=>simp at h1 h2;subst h1;subst h2;exact⟨Fd.of hx,Fd.of hy,Fd.of hz⟩| succ i=>exact hr i r d' (by simpa using h1) (by simpa using h2)
theorem aP0{ds:List D3}(h:(Fl.l 3 (ds.map D3.fl)).Rd w v):DV w v ds:=by
 obtain⟨a,c,rfl,h1,h2,h3,h4⟩:=h;simp only[zB2]at h1 h4 ⊢;refine⟨a,c,rfl,⟨rfl, ?_⟩,h1,h2,h3⟩;rcases zG0 ds.length with h0|hp
 .
  exact⟨[],⟨by simp[h0],fun h=>by omega⟩,by simp⟩
 .
  obtain⟨b,off,e,hr⟩:=h4 hp;obtain⟨l,hl,hc,hd⟩:=aRr hr;exact⟨l,⟨hl,fun _=>⟨b,off,e,hc⟩⟩,hd⟩
theorem aUj (l:List Xp):(l.map Xp.d).map D3.fl=l.map Xp.fl:=by rw[List.map_map];rfl
theorem aVj (l:List Ip):(l.map Ip.d).map D3.fl=l.map Ip.fl:=by rw[List.map_map];rfl
theorem yT{v0 v1 v2 v3 v4:Value}(h:aL w x.fl [v0,v1,v2,v3,v4]):vI w ⟨v0,v1,v2,v3,v4⟩ x.ob:=by
 obtain⟨y0,_,e0,h0,y1,_,e1,h1,y2,_,e2,h2,y3,_,e3,h3,y4,_,e4,h4,e5⟩:=h;simp only[zJ2]at e0;obtain⟨rfl,rfl⟩:=e0;simp only[zJ2]at e1;obtain⟨rfl,rfl⟩:=e1;simp only[zJ2]at e2;obtain⟨rfl,rfl⟩:=e2;simp only[zJ2]at e3;obtain⟨rfl,rfl⟩:=e3;simp only[zJ2]at e4;obtain⟨rfl,rfl⟩:=e4;refine⟨h0,aP0 (by rw[show x.ob.ex=x.ex.map Xp.d from rfl,aUj];exact h1),aP0 (by rw[show x.ob.im=x.im.map Ip.d from rfl,aVj];exact h2),h3,h4, ?_, ?_⟩
 .
  intro d hd;obtain⟨q,_,rfl⟩:=zE1.1 hd;exact⟨_,_,_,rfl⟩
 .
  intro d hd;obtain⟨q,_,rfl⟩:=zE1.1 hd;exact⟨_,_,_,rfl⟩
theorem aMm (l:List Xp):aFs (l.map Xp.d)=aG (l.map Xp.fl):=by
 induction l with
 | nil=>rfl| cons x l ih=>simp[aFs,aG,ih,Xp.d,Xp.fl,D3.len,Fd.len,aO,Fl.len]
theorem aMn (l:List Ip):aFs (l.map Ip.d)=aG (l.map Ip.fl):=by
 induction l with
 | nil=>rfl| cons x l ih=>simp[aFs,aG,ih,Ip.d,Ip.fl,D3.len,Fd.len,aO,Fl.len]
theorem aI8 (x:Oj):osz x.ob=aO x.fl:=by
 simp[osz,Oj.ob,aMm,aMn,Oj.fl,aO,Fl.len];omega
theorem dE(h:cU x.ob=true):x.ex.length<=8/\x.im.length<=8/\0<=x.data/\x.data<=200/\x.code.length<=9000/\(∀(i:Nat) (y:Xp),x.ex[i]?=some y->∀(j:Nat) (z:Xp),j<i->x.ex[j]?=some z->z.name ≠ y.name)/\(∀y ∈ x.ex,0<=y.pos/\y.pos<=4000):=by
 simp only[cU,Oj.ob,iQ,eU,jL,zC0,zE3,zB2]at h;obtain⟨⟨⟨⟨_,h1,h2⟩,h3,_⟩,h4,h5⟩,h6⟩:=h;have Ws:∀(i:Nat) (y:Xp),x.ex[i]?=some y->aCa (x.ex.map Xp.d) i=true:=fun i y hy=>
  zF3.1 h2 i (List.mem_range.2 (by have:=(zC1.1 hy).1;simpa using this))
 refine⟨h1,h3,of_decide_eq_true h4,of_decide_eq_true h5,of_decide_eq_true h6,fun i y hy j z hj hz e=>?_,fun y hy=>?_⟩
 .
  have:=Ws i y hy;rw[sL (l:=y.name) (p:=y.print) (q:=y.pos) (by rw[zA2,hy];rfl)]at this;simp only[zC0,Bool.not_eq_true']at this;have hd:=this.2;have Cj:dup ((x.ex.map Xp.d).take i) y.name=true:=by
   refine sN (k:=j) (d:=z.d) ?_ e;rw[List.getElem?_take,if_pos hj,zA2,hz];rfl
  rw[Cj]at hd;cases hd
 .
  obtain⟨i,hi,rfl⟩:=List.mem_iff_getElem.1 hy;have:=Ws i x.ex[i] (zA0 hi);rw[sL (l:=x.ex[i].name) (p:=x.ex[i].print) (q:=x.ex[i].pos) (by rw[zA2,zA0 hi];rfl)]at this;simp only[zC0,jL,zE3]at this;exact this.1.2
def qO:Option Nat->Int
 | some j=>(j:Int)| none=>-1
def sH (l:List Oj)(m:List Int):Option Nat:=l.findIdx? fun o=>decide (o.name=m)
def gQ (o:Oj)(n:List Int)(p:Int):Option Nat:=o.ex.findIdx? fun x=>decide (x.name=n) && decide (x.print=p)
def aH5 (o:Oj)(n:List Int):Option Nat:=o.ex.findIdx? fun x=>decide (x.name=n)
theorem kR{α:Type}{p:α->Bool}{l:List α}{x:α}(hx:l[j]?=some x)(hp:p x=true)(Ai:∀(i:Nat) (y:α),i<j->l[i]?=some y->p y=false):l.findIdx? p=some j:=by
 rw[List.findIdx?_eq_some_iff_getElem];obtain⟨hj,e⟩:=zC1.1 hx;refine⟨hj,by rw[e];exact hp,fun i hi=>?_⟩;have:=Ai i l[i] hi (zA0 A0);simpa using this
theorem pM{α:Type}{p:α->Bool}{l:List α}(Ai:∀(i:Nat) (y:α),l[i]?=some y->p y=false):l.findIdx? p=none:=by
 rw[List.findIdx?_eq_none_iff];intro x hx;obtain⟨i,hi,rfl⟩:=List.mem_iff_getElem.1 hx;simpa using Ai i l[i] (zA0 hi)
theorem dZ{α:Type}{p:α->Bool}{l:List α}(h:l.findIdx? p=some j):∃x,l[j]?=some x/\p x=true/\∀(i:Nat) (y:α),i<j->l[i]?=some y->p y=false:=by
 rw[List.findIdx?_eq_some_iff_getElem]at h;obtain⟨hj,h1,h2⟩:=h;refine⟨l[j],zA0 hj,h1,fun i y hi hy=>?_⟩;obtain⟨hi',rfl⟩:=zC1.1 hy;simpa using h2 i hi
theorem pL{α:Type}{p:α->Bool}{l:List α}(h:l.findIdx? p=none):∀(i:Nat) (y:α),l[i]?=some y->p y=false:=by
 intro i y hy;rw[List.findIdx?_eq_none_iff]at h;simpa using h y (zA3 hy)
theorem sG{o:Oj}(hu:∀(i:Nat) (y:Xp),o.ex[i]?=some y->∀(j:Nat) (z:Xp),j<i->o.ex[j]?=some z->z.name ≠ y.name)(n:List Int)(p:Int):
  gQ o n p=match aH5 o n with
   | none=>none| some j=>if (o.ex[j]?.map Xp.print).getD 0=p then some j else none:=by
 cases h:aH5 o n with
 | none=>
  refine pM fun i y hy=>?_;have:=pL h i y hy;simp only[zH0]at this;simp[this]
 | some j=>
  obtain⟨x,hx,hp,Ai⟩:=dZ h;have hpx:x.name=n:=by simpa using hp
  simp only[hx,Option.map_some,zI0];split
  .
   rename_i he;refine kR hx (by simp[hpx,he]) fun i y hi hy=>?_;have:=Ai i y hi hy;simp only[zH0]at this;simp[this]
  .
   rename_i he;refine pM fun i y hy=>?_;by_cases e:y.name=n
   .
    rcases Nat.lt_trichotomy i j with hl|rfl|hl
    .
     exact absurd (e.trans hpx.symm) (hu j x hx i y hl hy)
    .
     rw[hx]at hy;cases hy;simp[he]
    .
     exact absurd (hpx.trans e.symm) (hu i y hy j x hl hx)
   .
    simp[e]
def dC:Wo:=⟨false,0,0,0,0,0,0⟩
def aEv (f x:Nat):Wo:=⟨true,0,0,0,(x:Int),16,(f:Int)+1⟩
def aD8 (pre:List Oj)(i:Ip):Option Wo:=match sH pre i.mod with
 | none=>none| some f=>match gQ (pre[f]?.getD ⟨[],[],[],0,[]⟩) i.name i.print with
  | none=>none| some x=>some (aEv f x)
def mG (l:List Oj)(j:Nat):Oj:=l[j]?.getD ⟨[],[],[],0,[]⟩
def fM (l:List Oj)(j:Nat):List Wo:=(mG l j).im.map fun i=>(aD8 (l.take j) i).getD dC
def qX (l:List Oj)(j:Nat):List Wo:=List.replicate (mG l j).data.toNat dC
def bU (l:List Oj):Nat->List Wo
 | 0=>List.replicate 600 dC| j+1=>bU l j++(fM l j++qX l j)
def fY (l:List Oj):Nat->List Rg
 | 0=>[]| j+1=>fY l j++[⟨((bU l j).length:Int),((bU l (j+1)).length:Int),((mG l j).im.length:Int),(mG l j).code⟩]
def jM (l:List Oj)(n:Nat):Prop:=∀j,j<n->∀i ∈ (mG l j).im,aD8 (l.take j) i ≠ none
def nM:List Int:=[109,97,105,110]
def qE:Ig:=⟨[],[],0⟩
def kZ (l:List Oj):Prop:=(1<=l.length/\l.length<=8)/\∀o ∈ l,cU o.ob=true
def aCo (l:List Oj):Prop:=∀j,j<l.length->sH l (mG l j).name=some j
inductive Lk (fm:Int) (l:List Oj):Ig->Int->Prop
 | form:¬kZ l->Lk fm l qE 1| name:kZ l->¬aCo l->Lk fm l qE 2| missing:kZ l->aCo l->¬jM l l.length->Lk fm l qE 3| main:kZ l->aCo l->jM l l.length->gQ (mG l (l.length-1)) nM fm=none->Lk fm l qE 4| well (x:Nat):kZ l->aCo l->jM l l.length->gQ (mG l (l.length-1)) nM fm=some x->Lk fm l ⟨fY l l.length,bU l l.length,(((mG l (l.length-1)).ex[x]?.map Xp.pos).getD 0)⟩ 0
theorem Lk.same{fm:Int}{a b:Ig}{c d:Int}(h:Lk fm l a c)(k:Lk fm l b d):a=b/\c=d:=by
 cases h <;> cases k <;> first|exact⟨rfl,rfl⟩|contradiction|skip
 all_goals rename_i h1 h2 h3 h4
 all_goals simp_all
theorem cA{o:Oj}(h:l[j]?=some o):mG l j=o:=by unfold mG;rw[h];rfl
theorem vN (l:List Oj)(h:∀o ∈ l,o.im.length<=8/\o.data<=200):∀j,j<=l.length->(bU l j).length<=600+j*208:=by
 intro j;induction j with
 | zero=>intro _;simp only[bU,List.length_replicate];omega| succ j ih=>
  intro hj;have h1:=ih A0;have h2:=h (l[j]' A0) (List.getElem_mem _);have h3:mG l j=l[j]' A0:=cA (zA0 _);simp only[bU,zA1,fM,qX,zB2,List.length_replicate,h3];omega
end
section
theorem A1{p:Prop}(h:p:=by kernel_rfl):p:=h
theorem QA92{p:Prop}(h:p:=by
 obtain⟨a,c,rfl,h1,h2,h3,_⟩:=aH h.own
 exact⟨a,c,rfl,Own.row (base:=lo) ⟨h.own,hb⟩,h1,h2,h3⟩):p:=h
theorem QA109{p:Prop}(h:p:=by
 intro v' w' ho' hg' _
 exact h v' w' ho' hg'):p:=h
variable{a:Act}{Q:Exit->Act->World->Prop}{xs:List Value}{T U base g h2 hi hi' i lo lo':Nat}{v wv:Value}{w w' w1:World}
theorem eI{n k:Nat}(h:w.ownsRow base T k v n xs)(hg:v.ownBlock=some g):∃cur,w.heap[g]?=some (.cells cur T (0,0)):=by
 rcases h.2 with⟨e,_⟩|⟨g',cap,cur,hv,_,hh,_⟩
 .
  rw[e]at hg;cases hg
 .
  rw[hv]at hg;simp only[Value.ownBlock,zG2]at hg;subst hg;exact⟨cur,hh⟩
theorem bT{n k:Nat}(h:w.ownsRow base T k v n xs)(hs:∀g,v.ownBlock=some g->w'.heap[g]?=w.heap[g]?):w'.ownsRow base T k v n xs:=by
 refine⟨h.1, ?_⟩;rcases h.2 with hn|⟨g,cap,cur,hv,hg,hh,r⟩
 .
  exact .inl hn
 .
  exact .inr ⟨g,cap,cur,hv,hg,by rw[hs g (by rw[hv];rfl)];exact hh,r⟩
theorem jV{Ci n k:Nat}(h:w.ownsRow base T k v n xs)(hb:Ci<=base):w.ownsRow Ci T k v n xs:=by
 refine⟨h.1, ?_⟩;rcases h.2 with hn|⟨g,cap,cur,hv,hg,r⟩
 .
  exact .inl hn
 .
  exact .inr ⟨g,cap,cur,hv,by omega,r⟩
theorem aH{n k:Nat}(h:w.ownsRow base T k v n xs):∃a c,v=.slice a n c/\n<=c/\c<=maxLen/\(a=none->c=0)/\(0<n->∃g,a=some ⟨g,0,none⟩):=by
 rcases h.2 with⟨rfl,rfl⟩|⟨g,cap,cur,rfl,hg,hh,Fu,Oi,hs,ht⟩
 .
  exact⟨none,0,rfl,by omega,by simp,fun _=>rfl,by omega⟩
 .
  exact⟨_,cap,rfl,Fu,Oi,by simp,fun _=>⟨g,rfl⟩⟩
theorem dL{n k c:Nat}(h:w.ownsRow base T k (.slice (some ⟨g,0,none⟩) n c) n xs):∀i v,xs[i]?=some v->w.cell? ⟨g,i,none⟩=some v:=by
 intro i v hv;have hi:=(zC1.1 hv).1;rw[h.cellAt i (by have:=h.1;omega)];exact hv
structure Pc (w:World) (T:TypeId) (k lo hi:Nat) (v:Value) (n:Nat) (xs:List Value):Prop where
 own:w.ownsRow lo T k v n xs
 lt:∀g,v.ownBlock=some g->g<hi
theorem Pc.stays{k n:Nat}(h:Pc w T k lo hi v n xs)(hs:∀g,lo<=g->g<hi->(∃cur,w.heap[g]?=some (.cells cur T (0,0)))->w'.heap[g]?=w.heap[g]?):Pc w' T k lo hi v n xs:=
 ⟨bT h.own fun g hg=>hs g (h.own.lt g hg).1 (h.lt g hg) (eI h.own hg),h.lt⟩
theorem Pc.wide{k n:Nat}(h:Pc w T k lo hi v n xs)(a:lo'<=lo)(b:hi<=hi'):Pc w T k lo' hi' v n xs:=
 ⟨jV h.own a,fun g hg=>Nat.lt_of_lt_of_le (h.lt g hg) b⟩
def bVL (l:List Int):List Value:=l.map (Value.int .u8)
def aM8 (l:List Int):Prop:=∀x ∈ l,0<=x/\x<=255
def Wo.vals (x:Wo):List Value:=[.bool x.t,.int .i64 x.n,.int .i64 x.l,.int .i64 x.h,.int .i64 x.a,.int .i64 x.p,.int .i64 x.s]
def cO:List Wo->List Value
 | []=>[]| x :: l=>x.vals++cO l
def Rg.vals (c:Value)(r:Rg):List Value:=[.int .i64 r.lo,.int .i64 r.hi,.int .i64 r.own,c]
def mV:List (Value × Rg)->List Value
 | []=>[]| x :: l=>x.2.vals x.1++mV l
theorem iK (l m:List Wo):cO (l++m)=cO l++cO m:=by
 induction l with
 | nil=>rfl| cons x l ih=>simp[cO,ih]
theorem uU (l m:List (Value × Rg)):mV (l++m)=mV l++mV m:=by
 induction l with
 | nil=>rfl| cons x l ih=>simp[mV,ih]
theorem gN (l:List Wo):(cO l).length=l.length*7:=by
 induction l with
 | nil=>rfl| cons x l ih=>simp[cO,Wo.vals,ih];omega
theorem aAa{l:List Wo}{j:Nat}{x:Wo}(hi:i<7)(h:l[j]?=some x):(cO l)[j*7+i]?=x.vals[i]?:=by
 induction l generalizing j with
 | nil=>simp at h| cons y l ih=>
  cases j with
  | zero=>
   simp only[List.getElem?_cons_zero,zG2]at h;subst h;rw[cO,Nat.zero_mul,zJ0,List.getElem?_append_left (by simpa [Wo.vals] using hi)]
  | succ j=>
   rw[List.getElem?_cons_succ]at h;have e:(j+1)*7+i=y.vals.length+(j*7+i):=by simp[Wo.vals];omega
   rw[cO,e,List.getElem?_append_right A0,Nat.add_sub_cancel_left];exact ih h
theorem pJ (l:List Wo):∀v ∈ cO l,v.oneCell'=true:=by
 induction l with
 | nil=>simp[cO]| cons x l ih=>
  intro v hv;rw[cO,List.mem_append]at hv;rcases hv with hv|hv
  .
   simp only[Wo.vals,zG3,List.not_mem_nil,or_false]at hv;rcases hv with h|h|h|h|h|h|h <;> (rw[h];rfl)
  .
   exact ih v hv
def Cds (w:World):Nat->Nat->List (Value × Rg)->Prop
 | lo,hi,[]=>True| lo,hi,x :: l=>∃m,lo<=m/\m<=hi/\Pc w 5 1 lo m x.1 x.2.code.length (bVL x.2.code)/\aM8 x.2.code/\Cds w m hi l
def pU (lo hi:Nat)(w w':World):Prop:=∀g,lo<=g->g<hi->(∃cur,w.heap[g]?=some (.cells cur 5 (0,0)))->w'.heap[g]?=w.heap[g]?
theorem pU.mono(h:pU lo hi w w')(a:lo<=lo')(b:hi'<=hi):pU lo' hi' w w':=fun g h1 h2 h3=>h g A0 A0 h3
theorem pU.of(h:eY lo hi w w'):pU lo hi w w':=fun g h1 h2 _=>h g h1 h2
theorem Cds.stays {w w':World}:∀{l:List (Value × Rg)} {lo hi:Nat},Cds w lo hi l->pU lo hi w w'->Cds w' lo hi l:=by
 intro l;induction l with
 | nil=>intro lo hi _ _;exact trivial| cons x l ih=>
  intro lo hi h hs;obtain⟨m,a,b,h1,hb,h2⟩:=h;exact⟨m,a,b,h1.stays (fun g p q r=>hs g p A0 r),hb,ih h2 (hs.mono a (zB0 _))⟩
theorem Cds.wide {w:World}:∀{l:List (Value × Rg)} {lo hi lo' hi':Nat},Cds w lo hi l->lo'<=lo->hi<=hi'->Cds w lo' hi' l:=by
 intro l;induction l with
 | nil=>intro lo hi lo' hi' _ _ _;exact trivial| cons x l ih=>
  intro lo hi lo' hi' h p q;obtain⟨m,a,b,h1,hb,h2⟩:=h;exact⟨m,by omega,by omega,h1.wide p (zB0 _),hb,ih h2 (zB0 _) q⟩
theorem Cds.snoc:∀{l:List (Value × Rg)} {lo mid hi:Nat} {x:Value × Rg},Cds w lo mid l->lo<=mid->mid<=hi->Pc w 5 1 mid hi x.1 x.2.code.length (bVL x.2.code)->aM8 x.2.code->Cds w lo hi (l++[x]):=by
 intro l;induction l with
 | nil=>
  intro lo mid hi x h p q h1 hb;exact⟨hi,by omega,zB0 _,h1.wide p (zB0 _),hb,trivial⟩
 | cons y l ih=>
  intro lo mid hi x h p q h1 hb;obtain⟨m,a,b,e1,eb,e2⟩:=h;exact⟨m,a,by omega,e1,eb,ih e2 b q h1 hb⟩
theorem Pc.brow{l:List Int}(h:Pc w 5 1 lo hi v l.length (bVL l))(hb:aM8 l):(Fl.b l).Rd w v:=by
 exact QA92
theorem Cds.rows:∀{l:List (Value × Rg)} {lo hi off:Nat},Cds w lo hi l->(∀i v,(mV l)[i]?=some v->w.cell? ⟨g,off+i,none⟩=some v)->dD w g 4 off (l.map fun x=>x.2.fl):=by
 intro l;induction l with
 | nil=>intro lo hi off h _;exact trivial| cons x l ih=>
  intro lo hi off h hc;obtain⟨m,a,b,h1,hb,h2⟩:=h;refine⟨⟨⟨_,hc 0 _ rfl,rfl⟩,⟨_,hc 1 _ rfl,rfl⟩,⟨_,hc 2 _ rfl,rfl⟩,⟨_,hc 3 _ rfl,h1.brow hb⟩,trivial⟩,ih h2 fun i v hv=>?_⟩;have:=hc (i+4) v (by simpa [mV,Rg.vals] using hv);rw[show off+(i+4)=off+4+i by omega]at this;exact this
theorem aQ2:∀{l:List Wo} {off:Nat},(∀i v,(cO l)[i]?=some v->w.cell? ⟨g,off+i,none⟩=some v)->dD w g 7 off (l.map Wo.fl):=by
 intro l;induction l with
 | nil=>intro off _;exact trivial| cons x l ih=>
  intro off hc;refine⟨⟨⟨_,hc 0 _ rfl,rfl⟩,⟨_,hc 1 _ rfl,rfl⟩,⟨_,hc 2 _ rfl,rfl⟩,⟨_,hc 3 _ rfl,rfl⟩,⟨_,hc 4 _ rfl,rfl⟩,⟨_,hc 5 _ rfl,rfl⟩,⟨_,hc 6 _ rfl,rfl⟩,trivial⟩,ih fun i v hv=>?_⟩;have:=hc (i+7) v (by simpa [cO,Wo.vals] using hv);rw[show off+(i+7)=off+7+i by omega]at this;exact this
structure Im (w:World) (lo hi h2:Nat) (mv wv:Value) (l:List (Value × Rg)) (ws:List Wo):Prop where
 codes:Cds w lo hi l
 mrow:Pc w 110 4 lo hi mv l.length (mV l)
 wrow:Pc w 100 7 lo h2 wv ws.length (cO ws)
theorem Im.keep{mv:Value}{l:List (Value × Rg)}{ws:List Wo}(h:Im w lo hi h2 mv wv l ws)
  (hs:∀g T,lo<=g->(∃cur,w.heap[g]?=some (.cells cur T (0,0)))->(T=5/\g<hi\/T=110/\g<hi\/T=100/\g<h2)->w'.heap[g]?=w.heap[g]?):Im w' lo hi h2 mv wv l ws:=
 ⟨h.codes.stays (fun g a b r=>hs g _ a r (.inl ⟨rfl,b⟩)),h.mrow.stays (fun g a b r=>hs g _ a r (.inr (.inl ⟨rfl,b⟩))),h.wrow.stays (fun g a b r=>hs g _ a r (.inr (.inr ⟨rfl,b⟩)))⟩
theorem Im.wide {w:World}{lo hi h2 lo' hi' Wv:Nat}{mv wv:Value}{l:List (Value × Rg)}{ws:List Wo}(h:Im w lo hi h2 mv wv l ws)(a:lo'<=lo)(b:hi<=hi')(c:h2<=Wv):Im w lo' hi' Wv mv wv l ws:=
 ⟨h.codes.wide a b,h.mrow.wide a b,h.wrow.wide a c⟩
theorem Im.below{mv:Value}{l:List (Value × Rg)}{ws:List Wo}(h:Im w lo hi h2 mv wv l ws)(hb:Below w.heap.size w w'):Im w' lo hi h2 mv wv l ws:=h.keep fun g T _ ⟨c,hc⟩ _=>hb.block g (zI3.1 hc).1
theorem Im.stays{mv:Value}{l:List (Value × Rg)}{ws:List Wo}(h:Im w lo hi hi mv wv l ws)(hs:eY lo hi w w'):Im w' lo hi hi mv wv l ws:=h.keep fun g T a _ hb=>hs g a (by rcases hb with hb|hb|hb <;> exact hb.2)
theorem lN{c d:Array Value}(h:w.heap[g]?=some (.cells c T (0,0)))(k:w.heap[g]?=some (.cells d U (0,0))):T=U:=by
 rw[h]at k;simp only[zG2,Obj.cells.injEq]at k;exact k.2.1
theorem dS{n k:Nat}(h:w.ownsRow base T k v n xs)(hg:w.grownBy w' v.ownBlock){g U:Nat}(Ae:U ≠ T)(hu:∃cur,w.heap[g]?=some (.cells cur U (0,0))):w'.heap[g]?=w.heap[g]?:=by
 obtain⟨c,hc⟩:=hu;refine hg.block g (zI3.1 hc).1 fun e=>?_;obtain⟨d,hd⟩:=eI h e.symm;exact Ae (lN hc hd)
theorem aFb{vs:List Value}(h:Blk w g T vs)(hu:∃cur,w.heap[g]?=some (.cells cur U (0,0))):U=T:=by
 obtain⟨c,hc⟩:=hu;exact lN hc h
theorem Im.put{T:TypeId}{mv:Value}{l:List (Value × Rg)}{ws:List Wo}{vs:List Value}(h:Im w lo hi h2 mv wv l ws)(hb:Blk w g T vs)(hu:T ≠ 5)(hw:T ≠ 100)(hr:T ≠ 110\/hi<=g):Im (w.setCell ⟨g,i,none⟩ v) lo hi h2 mv wv l ws:=by
 refine h.keep fun g' U _ hc hU=>heap_setCell_other w ⟨g,i,none⟩ g' v fun e=>?_;have e':g'=g:=e;subst e';have hT:=aFb hb hc;subst hT;rcases hU with⟨rfl,_⟩|⟨rfl,k⟩|⟨rfl,_⟩
 .
  exact hu rfl
 .
  rcases hr with hr|hr
  .
   exact hr rfl
  .
   omega
 .
  exact hw rfl
theorem Im.words{n:Nat}{mv Ml:Value}{l:List (Value × Rg)}{ws us:List Wo}(h:Im w lo hi h2 mv wv l ws)
  (hn:us.length=n) (hr:w1.ownsRow lo 100 7 Ml (ws.length+n) (cO ws++cO us)) (hg:w.grownBy w1 wv.ownBlock):Im w1 lo hi w1.heap.size mv Ml l (ws++us):=by
 refine⟨?_, ?_, ?_⟩
 .
  exact h.codes.stays (fun g _ _ r=>dS h.wrow.own hg A6 r)
 .
  exact h.mrow.stays (fun g _ _ r=>dS h.wrow.own hg A6 r)
 .
  refine⟨?_,fun g hg=>(hr.lt g hg).2⟩;rw[zA1,hn,iK];exact hr
theorem Im.wblk{T:TypeId}{mv:Value}{l:List (Value × Rg)}{ws:List Wo}{vs:List Value}(h:Im w lo hi h2 mv wv l ws)(hg:w.grownBy w1 wv.ownBlock)(hb:Blk w g T vs)(hT:T ≠ 100):Blk w1 g T vs:=
 (dS h.wrow.own hg hT ⟨_,hb⟩).trans hb
theorem Im.mblk{T:TypeId}{mv:Value}{l:List (Value × Rg)}{ws:List Wo}{vs:List Value}(h:Im w lo hi h2 mv wv l ws)(hg:w.grownBy w1 mv.ownBlock)(hb:Blk w g T vs)(hT:T ≠ 110):Blk w1 g T vs:=
 (dS h.mrow.own hg hT ⟨_,hb⟩).trans hb
theorem Im.mods{c0:Nat}{mv Wc c:Value}{l:List (Value × Rg)}{ws:List Wo}{r:Rg}(h:Im w lo hi h2 mv wv l ws)(Ki:lo<=hi)(Iq:hi<=c0)(hc:Pc w 5 1 c0 w.heap.size c r.code.length (bVL r.code))(hcb:aM8 r.code)(Kl:c0<=w.heap.size)
  (hr:w1.ownsRow lo 110 4 Wc (l.length+1) (mV l++r.vals c)) (hg:w.grownBy w1 mv.ownBlock):Im w1 lo w1.heap.size h2 Wc wv (l++[(c,r)]) ws:=by
 have s1:=hg.size;have k3:∀A B,pU A B w w1:=fun A B g _ _ r=>dS h.mrow.own hg A6 r;refine⟨?_, ?_, ?_⟩
 .
  exact((h.codes.stays (k3 _ _)).wide (zB0 _) Iq |>.snoc (x:=(c,r)) A0 Kl (hc.stays (fun g p q r=>k3 _ _ g p q r)) hcb).wide (zB0 _) s1
 .
  refine⟨?_,fun g hg=>(hr.lt g hg).2⟩;rw[zA1,uU];simpa [mV] using hr
 .
  exact h.wrow.stays (fun g _ _ r=>dS h.mrow.own hg A6 r)
def aGw (l:List (Value × Rg))(ws:List Wo)(s:Int):Ig:=⟨l.map fun x=>x.2,ws,s⟩
theorem Im.vals{mv:Value}{l:List (Value × Rg)}{ws:List Wo}(h:Im w lo hi h2 mv wv l ws)(s:Int):aL w (aGw l ws s).fl [mv,wv,.int .i64 s]:=by
 refine⟨mv,_,rfl, ?_,wv,_,rfl, ?_,_,_,rfl,rfl,rfl⟩
 .
  have hr:=h.mrow.own;obtain⟨a,c,rfl,h1,h2,h3,h4⟩:=aH hr;refine⟨a,c,by simp[aGw],by simpa [aGw] using h1,h2,h3,fun hp=>?_⟩;obtain⟨g,rfl⟩:=h4 (by simpa [aGw] using hp);refine⟨g,0,rfl, ?_⟩;have:=h.codes.rows (g:=g) (off:=0) fun i v hv=>by rw[zJ0];exact dL hr i v hv
  show dD w g 4 0 ((l.map fun x=>x.2).map Rg.fl)
  rw[List.map_map];exact this
 .
  have hr:=h.wrow.own;obtain⟨a,c,rfl,h1,h2,h3,h4⟩:=aH hr;refine⟨a,c,by simp[aGw],by simpa [aGw] using h1,h2,h3,fun hp=>?_⟩;obtain⟨g,rfl⟩:=h4 (by simpa [aGw] using hp);exact⟨g,0,rfl,aQ2 fun i v hv=>by rw[zJ0];exact dL hr i v hv⟩
theorem Im.zero (w:World)(lo:Nat):Im w lo w.heap.size w.heap.size (.slice none 0 0) (.slice none 0 0) [] []:=
 ⟨trivial,⟨World.ownsRow_nil _ _ _ _,fun g hg=>by cases hg⟩,⟨World.ownsRow_nil _ _ _ _,fun g hg=>by cases hg⟩⟩
theorem nJ{P:Program}(base:Nat)(t ti ty e:TypeId)(i:TypeInfo)(z:Value)(size bytes:Nat)(ht:P.underlying t=some (.slice e))(hti:P.underlying ti=some (.int .i64))(hi:P.info? e=some i)(hz:i.zero=some z)
  (hsize:i.size=size) (Bv:i.bytes=bytes) (hzs:z.cells.size=size) (Bg:0<size) (g n cap:Nat) (xs:List Value) (Aj:w.ownsRow base e size (.slice (some ⟨g,0,none⟩) n cap) n xs) (m:Nat) (Bp:List Value) (Cz:Builtin.zeroCells z.cells m=Bp.toArray) (h1:∀u ∈ Bp,u.oneCell'=true)
  (h63:n+m<=1048576) (hb:bytes<=64) (Bw:base<=w.heap.size):
  ∃v' w',(Builtin.append_ #[t,ti] ty #[.slice (some ⟨g,0,none⟩) n cap,.int .i64 (m:Int)]).run P w=.ok v' w'/\w'.ownsRow base e size v' (n+m) (xs++Bp)/\w.grownBy w' (some g):=by
 subst hsize;subst Bv;have hl:Bp.length=m*i.size:=by
  have:=congrArg Array.size Cz;rw[size_zeroCells,hzs]at this;simpa using this.symm
 have Ah:(xs++Bp).length=(n+m)*i.size:=by rw[zA1,Aj.1,hl,Nat.add_mul]
 have hw:IntKind.i64.wrap (m:Int)=(m:Int):=by rw[IntKind.wrap];simp[IntKind.min,IntKind.max,IntKind.bits,IntKind.signed];omega
 have h48:¬((281474976710656:Int)<(m:Int)*(i.bytes:Int)):=by
  have:m*i.bytes<=1048576*64:=Nat.mul_le_mul A0 hb;have h2:((m*i.bytes:Nat):Int)<=67108864:=A0;rw[Int.natCast_mul]at h2;omega
 rcases Aj.2 with⟨hh,_⟩|⟨g',cap',cur,hv,Lf,hg,Fu,Oi,Kl,htake⟩
 .
  cases hh
 .
  simp only[Value.slice.injEq,zG2,Addr.mk.injEq,and_true,true_and]at hv;obtain⟨rfl,rfl⟩:=hv;by_cases Ft:n+m<=cap
  .
   have Qp:n*i.size+Bp.length<=cur.size:=by rw[hl,Kl,<-Nat.add_mul];exact Nat.mul_le_mul_right _ Ft
   have hst:=run_storeCells_at P g (n*i.size) e Bp 0 cur w hg (by simpa using Qp) h1;simp only[zG1]at hst;refine⟨.slice (some ⟨g,0,none⟩) (n+m) cap,w.setRow g (cur.toList.take (n*i.size)++Bp++cur.toList.drop (n*i.size+Bp.length)).toArray, ?_,⟨Ah,.inr ⟨g,cap,_,rfl,Lf,setRow_heap w g cur _ e _ hg,Ft,Oi, ?_, ?_⟩⟩,⟨rfl,rfl,rfl,by simp,fun k _ hk=>setRow_other w g k _ (fun e=>hk (by simp[e]))⟩⟩
   .
    have Xx:¬((m:Int)<0):=A0;by_cases h0:m*i.size=0
    .
     have hn:Bp=[]:=zE0 A0;subst hn;simp[Builtin.append_,run_underlying ht,run_underlying hti,sizeOf,typeInfo,zeroValue,hi,hz,asInt,asIntOf,hw,Xx,h48,Ft,h0,Addr.add_lit,hst]
    .
     simp[Builtin.append_,run_underlying ht,run_underlying hti,sizeOf,typeInfo,zeroValue,hi,hz,asInt,asIntOf,hw,Xx,h48,Ft,h0,Cz,Addr.add_lit,hst]
   .
    simp only[List.size_toArray,zA1,List.length_take,List.length_drop,Array.length_toList];omega
   .
    rw[htake,<-Ah];exact List.take_left
  .
   have holds:∀j u,xs[j]?=some u->w.cell? ((⟨g,0,none⟩:Addr).add j)=some u:=Aj.cells (g:=g) rfl;have Yb:=grownCap_ge w (n+m) cap e;have hcm2:grownCap w (n+m) cap e<=maxLen:=grownCap_le_maxLen w (n+m) cap e A11;have Xx:¬((m:Int)<0):=A0;have h63':¬(9223372036854775807<((n:Int)+(m:Int))):=A0;have Qp:=growslice_fits (bytes:=i.bytes) (show cap<n+m by omega) (by
    have:(n+m)*i.bytes<=1048576*64:=Nat.mul_le_mul A0 hb;omega)
   have h48':¬(281474976710656<Builtin.nextslicecap (n+m) cap*i.bytes):=A0;have hfo:=run_firstCells_some (P:=P) w.drew i.size n ⟨g,0,none⟩ n cap xs Aj.1 (by simpa using holds);have h0:¬(m*i.size=0):=by
    have:0<m*i.size:=Nat.mul_pos A0 Bg;omega
   refine⟨.slice (some ⟨w.heap.size,0,none⟩) (n+m) (grownCap w (n+m) cap e),w.drew.alloc (.cells (xs.toArray++Bp.toArray++Builtin.zeroCells z.cells (grownCap w (n+m) cap e-(n+m))) e), ?_,⟨Ah,.inr ⟨w.heap.size,_,_,rfl,Bw,heap_alloc_new w.drew _,Yb,hcm2, ?_, ?_⟩⟩,⟨rfl,rfl,rfl,by simp,fun k hk _=>((zD2 w.drew.heap.size w.drew).alloc (zB0 _) _).block k hk⟩⟩
   .
    simp[Builtin.append_,run_underlying ht,run_underlying hti,sizeOf,typeInfo,zeroValue,hi,hz,asInt,asIntOf,hw,Xx,h48,Ft,h63',h48',h0,Cz,Question.forced,hfo,newRow,grownCap];congr 2;apply Array.ext';simp[zD0]
   .
    simp only[Array.size_append,List.size_toArray,size_zeroCells,hzs,Aj.1,hl,<-Nat.add_mul];congr 1;omega
   .
    simp only[Array.toList_append,zD0];rw[<-zD0,<-Ah];exact List.take_left
theorem aA2 (m:Nat):Builtin.zeroCells (Value.cells (.agg #[.bool false,.int .i64 0,.int .i64 0,.int .i64 0,.int .i64 0,.int .i64 0,.int .i64 0])) m=(cO (List.replicate m dC)).toArray:=by
 apply Array.ext
 .
  rw[size_zeroCells];show m*7=(cO (List.replicate m dC)).length
  rw[gN,List.length_replicate]
 .
  intro k h1 h2;rw[size_zeroCells]at h1;have Kp:k<m*7:=h1;have hj:k / 7<m:=A0;have hk:k % 7<7:=Nat.mod_lt _ A0;have e:=aAa (l:=List.replicate m dC) (j:=k / 7) hk (x:=dC) (by rw[List.getElem?_replicate,if_pos hj]);rw[show k / 7*7+k % 7=k by omega]at e;have e2:(cO (List.replicate m dC)).toArray[k]?=dC.vals[k % 7]?:=by rw[List.getElem?_toArray];exact e
  rw[Array.getElem?_eq_getElem h2]at e2;have e3:(Builtin.zeroCells (Value.cells (.agg #[.bool false,.int .i64 0,.int .i64 0,.int .i64 0,.int .i64 0,.int .i64 0,.int .i64 0])) m)[k]'(by rw[size_zeroCells];exact h1)=(#[.bool false,.int .i64 0,.int .i64 0,.int .i64 0,.int .i64 0,.int .i64 0,.int .i64 0]:Array Value)[k % 7]!:=by simp[Builtin.zeroCells,Value.cells]
  rw[e3];obtain⟨r,hr⟩:=zx (k % 7);rw[<-hr]at hk e2 ⊢
  match r,hk with
  | 0,_=>simpa [dC,Wo.vals] using e2.symm| 1,_=>simpa [dC,Wo.vals] using e2.symm| 2,_=>simpa [dC,Wo.vals] using e2.symm| 3,_=>simpa [dC,Wo.vals] using e2.symm| 4,_=>simpa [dC,Wo.vals] using e2.symm| 5,_=>simpa [dC,Wo.vals] using e2.symm| 6,_=>simpa [dC,Wo.vals] using e2.symm
theorem zU:(Tryz.prog.info? 100).map (fun i=>(i.zero,i.size,i.bytes))=some (some (.agg #[.bool false,.int .i64 0,.int .i64 0,.int .i64 0,.int .i64 0,.int .i64 0,.int .i64 0]),7,56):=by kernel_rfl
theorem aPi:(Tryz.prog.info? 110).map (fun i=>(i.zero,i.size,i.bytes))=some (some (.agg #[.int .i64 0,.int .i64 0,.int .i64 0,.slice none 0 0]),4,48):=by kernel_rfl
theorem pW{ops:Array Oper}{rest:List Oper}{o:Oper}(Le:o.guard=none)(s x:Operand)
  (ho:o.op=.call { callee:=.builtin .append,args:=#[s,x],argTypes:=#[26,3] })
  (base g n cap:Nat) (ws:List Wo) (hs:a.eval s=.slice (some ⟨g,0,none⟩) n cap) (Aj:w.ownsRow base 100 7 (.slice (some ⟨g,0,none⟩) n cap) n (cO ws)) (m:Nat) (hx:a.eval x=.int .i64 (m:Int)) (Bg:n+m<=1048576) (Bw:base<=w.heap.size)
  (h:∀v' w',w'.ownsRow base 100 7 v' (n+m) (cO ws++cO (List.replicate m dC))->w.grownBy w' (some g)->wpList Tryz.prog ops Q rest (a.put o.dst v') w'):wpList Tryz.prog ops Q (o :: rest) a w:=by
 refine wpList_plain Le fun K hK=>?_;obtain⟨i0,hi,Dd,Db,Cz⟩:=info_parts zU;obtain⟨v',w',hr,h2,h3⟩:=nJ (P:=Tryz.prog) (w:=w) base 26 3 o.type 100 i0 _ 7 56 Tryz.underlying26 A1 hi Dd Db Cz rfl A6 g n cap (cO ws) Aj m _ (aA2 m) (pJ _) Bg A6 Bw;unfold Oper.wp execOp;simp only[ho,resolve,invoke,builtin,Sem.run_bind,Sem.run_pure,Result.andThen_ok,List.map_toArray,zH2,List.map_nil,hs,hx,hr];exact hK _ _ (h v' w' h2 h3)
def WAt (w:World)(a:Option Addr)(us:List Wo):Prop:=0<us.length->∃b off,a=some ⟨b,off,none⟩/\∀i v,(cO us)[i]?=some v->w.cell? ⟨b,off+i,none⟩=some v
theorem WAt.below{a:Option Addr}{us:List Wo}(h:WAt w a us)(hb:Below w.heap.size w w'):WAt w' a us:=fun hp=>by
 obtain⟨b,off,e,hc⟩:=h hp;exact⟨b,off,e,fun i v hv=>aB (hc i v hv) hb⟩
theorem vM{o:Oper}{K:Act->World->Prop}(s x:Operand)
  (ho:o.op=.call { callee:=.builtin .append,args:=#[s,x],argTypes:=#[26,26] })
  (base:Nat) (v:Value) (n:Nat) (ws:List Wo) (hs:a.eval s=v) (Aj:w.ownsRow base 100 7 v n (cO ws))
  (ao:Option Addr) (m c:Nat) (us:List Wo) (hx:a.eval x=.slice ao m c) (hm:us.length=m) (hr:WAt w ao us) (Ek:ao=none->c=0) (Bg:n+m<=1048576) (Bw:base<=w.heap.size)
  (h:∀v' w',w'.ownsRow base 100 7 v' (n+m) (cO ws++cO us)->w.grownBy w' v.ownBlock->K (a.put o.dst v') w'):Oper.wp Tryz.prog o a w K Q:=by
 obtain⟨i0,hi,Dd,Db,Cz⟩:=info_parts zU;cases ao with
 | none=>
  obtain rfl:=Ek rfl;have Cq:m=0:=by
   rcases zG0 m with h0|hp
   .
    exact h0
   .
    obtain⟨b,off,e,_⟩:=hr A0;cases e
  subst Cq;obtain rfl:us=[]:=zE0 hm;have hrun:=run_append_owned_none (P:=Tryz.prog) (w:=w) base 26 o.type 100 i0 7 Tryz.underlying26 hi v n _ Aj;unfold Oper.wp execOp;simp only[ho,resolve,invoke,builtin,Sem.run_bind,Sem.run_pure,Result.andThen_ok,List.map_toArray,zH2,List.map_nil,hs,hx,hrun];exact h v w (by simpa [cO] using Aj) (World.grownBy.refl _ _)
 | some ad=>
  refine wp_append_own w s x 26 ho base 100 i0 _ 7 56 Tryz.underlying26 hi Dd Db Cz rfl A6 v n _ hs Aj ad m c (cO us) hx (by rw[gN,hm]) ?_ (pJ _) A11 A0 Bw ?_
  .
   intro j u hu;have hp:0<us.length:=by
    have:=(zC1.1 hu).1;rw[gN]at this;omega
   obtain⟨b,off,e,hc⟩:=hr hp;cases e;rw[Addr.add_lit];exact hc j u hu
  .
   exact QA109
theorem lA{o:Oper}{K:Act->World->Prop}(s x:Operand)
  (ho:o.op=.call { callee:=.builtin .append,args:=#[s,x],argTypes:=#[25,25] })
  (base:Nat) (v:Value) (n:Nat) (l:List (Value × Rg)) (hs:a.eval s=v) (Aj:w.ownsRow base 110 4 v n (mV l))
  (g:Nat) (c:Value) (r:Rg) (hx:a.eval x=.slice (some ⟨g,0,none⟩) 1 1) (hr:Blk w g 110 (r.vals c)) (h1:c.oneCell'=true) (Bg:n<=1000) (Bw:base<=w.heap.size)
  (h:∀v' w',w'.ownsRow base 110 4 v' (n+1) (mV l++r.vals c)->w.grownBy w' v.ownBlock->K (a.put o.dst v') w'):Oper.wp Tryz.prog o a w K Q:=by
 obtain⟨i0,hi,Dd,Db,Cz⟩:=info_parts aPi;refine wp_append_own w s x 25 ho base 110 i0 _ 4 48 Tryz.underlying25 hi Dd Db Cz rfl A6 v n _ hs Aj ⟨g,0,none⟩ 1 1 (r.vals c) hx rfl ?_ ?_ A11 A0 Bw ?_
 .
  intro j u hu;rw[Addr.add_lit,zJ0];exact hr.cell hu
 .
  intro u hu;simp only[Rg.vals,zG3,List.not_mem_nil,or_false]at hu;rcases hu with e|e|e|e
  .
   rw[e];rfl
  .
   rw[e];rfl
  .
   rw[e];rfl
  .
   rw[e];exact h1
 .
  exact QA109
end
theorem aW.len9 {w:World}{a:Option Addr}{c k:Nat}{rs:List (List Fl)}(h:aW w a c k rs):rs.length<=9223372036854775807:=by have h1:=h.cap;have h2:=h.most;unfold maxLen at h2;omega
section
section
variable {P:Program} {ops:Array Oper} {Q:Exit->Act->World->Prop} {md:Region.Mode} {S:World->Prop} {L:Nat}
def cR (P:Program)(md:Region.Mode)(ops:Array Oper)(Q:Exit->Act->World->Prop)(S:World->Prop)(L:Nat):Nat->Array Bool->Act->World->Prop
 | 0,listed,a,w=>Region.ready md ops listed=[]/\Q .normal a w| fuel+1,listed,a,w=>(Region.ready md ops listed=[]->Q .normal a w)/\∀i ∈ Region.ready md ops listed,wpOp P ops Q i (fun a' w'=>(i=L\/S w')/\cR P md ops Q S L fuel (listed.setIfInBounds i true) a' w') a w
theorem qF:∀(fuel:Nat) (listed:Array Bool)(a:Act)(w:World),cR P md ops Q S L fuel listed a w->wpAny P md ops Q fuel listed a w
 | 0,_,_,_,h=>h| fuel+1,_,_,_,h=>⟨h.1,fun i hi=>wpOp_mono (fun a' w' h'=>qF fuel _ a' w' h'.2) (h.2 i hi)⟩
def vO (md:Region.Mode)(ops:Array Oper)(L i:Nat):Bool:=match ops[L]? with
 | none=>false| some o=>o.after.any fun e=>Region.binds md e && e.on == i
theorem sX {i:Nat}{oi:Oper}{v:Value}(hi:ops[i]?=some oi)(hsel:∀(j:Nat) (o:Oper) cs b,ops[j]?=some o->o.op ≠ .select cs b)(hL:vO md ops L i=true)
  (hQ:∀c a w,Q (.panic c) (a.put oi.dst v) w->Q (.panic c) a w):
  ∀(fuel:Nat) (listed:Array Bool) (a:Act) (w:World),
   (∀j oj,ops[j]?=some oj->j ≠ i->listed.getD j true=false->(∀e ∈ oj.after,Region.binds md e=true->e.on ≠ i)->oi.apart ops oj=true) →
   i ∈ Region.ready md ops listed->YieldsIf P ops S oi v a->S w →
   cR P md ops Q S L fuel (listed.setIfInBounds i true) (a.put oi.dst v) w->cR P md ops Q S L (fuel+1) listed a w:=by
 intro fuel;induction fuel with
 | zero=>
  intro listed a w _ hr hy hS H;refine⟨fun h=>(by rw[h]at hr;cases hr),fun j hj=>?_⟩;by_cases Jv:j=i
  .
   subst Jv;exact hy.wpOp hi hS ⟨.inr hS,H⟩
  .
   have:=ready_mono hj Jv;rw[H.1]at this;cases this
 | succ fuel ih=>
  intro listed a w hfree hr hy hS H;refine⟨fun h=>(by rw[h]at hr;cases hr),fun j hj=>?_⟩;by_cases Jv:j=i
  .
   subst Jv;exact hy.wpOp hi hS ⟨.inr hS,H⟩
  .
   have h1:=H.2 j (ready_mono hj Jv);obtain⟨hjun,oj,Jf,Bj⟩:=mem_ready.1 hj;have hnot:∀e ∈ oj.after,Region.binds md e=true->e.on ≠ i:=fun e he hb Ye=>by
    have h1:=Bj e he hb;have h0:=(mem_ready.1 hr).1;rw[Ye]at h1;rcases zJ1 i listed.size with h'|h'
    .
     simp[h']at h0 h1;rw[h0]at h1;cases h1
    .
     simp[Array.getElem?_eq_none h']at h1
   have hjL:j ≠ L:=by
    intro e;subst e;unfold vO at hL;rw[Jf]at hL;simp only[Array.any_eq_true,zC0,beq_iff_eq]at hL;obtain⟨x,hx,hb,he⟩:=hL;exact hnot _ (Array.getElem_mem hx) hb he
   have h2:=wpOp_putIf Jf (hfree j oj Jf Jv hjun hnot) (fun cs b=>hsel i oi cs b hi) (fun cs b=>hsel j oj cs b Jf) hQ hy h1;have hfree':∀k ok,ops[k]?=some ok->k ≠ i->(listed.setIfInBounds j true).getD k true=false →
     (∀e ∈ ok.after,Region.binds md e=true->e.on ≠ i)->oi.apart ops ok=true:=fun k ok hk hki Ho Ai=>by
    refine hfree k ok hk hki ?_ Ai;by_cases hjk:j=k
    .
     subst hjk;exact hjun
    .
     rw[getD_set_ne true hjk]at Ho;exact Ho
   refine wpOp_mono (fun a' w' h3=>?_) h2;have Ko:=h3.2.1.resolve_left hjL;refine⟨.inr Ko,ih (listed.setIfInBounds j true) a' w' hfree' (ready_mono hr (Ne.symm Jv)) h3.1 Ko ?_⟩;rw[Array.setIfInBounds_comm _ _ Jv];exact h3.2.2
theorem tl (i:Nat){oi:Oper}{v:Value}{fuel:Nat}{listed:Array Bool}{a:Act}{w:World}(hi:ops[i]?=some oi)
  (hk:(Region.noSelect ops && Region.free md ops listed i && (Region.ready md ops listed).contains i && vO md ops L i)=true)
  (hy:YieldsIf P ops S oi v a) (hS:S w) (hQ:∀c a w,Q (.panic c) (a.put oi.dst v) w->Q (.panic c) a w)
  (h:cR P md ops Q S L fuel (listed.setIfInBounds i true) (a.put oi.dst v) w):cR P md ops Q S L (fuel+1) listed a w:=by
 simp only[zC0]at hk;exact sX hi (Region.noSelect_spec hk.1.1.1) hk.2 hQ fuel listed a w (Region.free_spec hi hk.1.1.2) (by simpa using hk.1.2) hy hS h
theorem dl (i:Nat){o:Oper}{fuel:Nat}{listed:Array Bool}{a:Act}{w:World}(ho:ops[i]?=some o)(hr:Region.ready md ops listed=[i])
  (h:∀K:Act->World->Prop,Shut (∀a w,S w->(S w->cR P md ops Q S L fuel (listed.setIfInBounds i true) a w)->K a w)->if Region.wanted o (yielded ops a.tmps)=true then Oper.wp P o a w K Q else K (a.put o.dst undef) w):cR P md ops Q S L (fuel+1) listed a w:=by
 refine⟨fun h0=>(by rw[hr]at h0;cases h0),fun j hj=>?_⟩;rw[hr]at hj;simp only[zG3,List.not_mem_nil,or_false]at hj;subst hj;exact wpOp_step ho (fun K hK=>h K (fun a w hS hW=>hK a w ⟨.inr hS,hW hS⟩))
theorem el {o:Oper}{fuel:Nat}{listed:Array Bool}{a:Act}{w:World}(ho:ops[L]?=some o)(hr:Region.ready md ops listed=[L])(hn:Region.ready md ops (listed.setIfInBounds L true)=[])
  (h:∀K:Act->World->Prop,Shut (∀a w,Q .normal a w->K a w)->if Region.wanted o (yielded ops a.tmps)=true then Oper.wp P o a w K Q else K (a.put o.dst undef) w):cR P md ops Q S L (fuel+1) listed a w:=by
 refine⟨fun h0=>(by rw[hr]at h0;cases h0),fun j hj=>?_⟩;rw[hr]at hj;simp only[zG3,List.not_mem_nil,or_false]at hj;subst hj;refine wpOp_step ho (fun K hK=>h K (fun a w hW=>hK a w ⟨.inl rfl, ?_⟩));cases fuel with
 | zero=>exact⟨hn,hW⟩| succ n=>exact⟨fun _=>hW,by rw[hn];simp⟩
theorem rl (L:Nat){id:Nat}{a:Act}{w:World}(hm:P.follows .mixedOrders=true)(hS:S w.drew)
  (h:S w.drew->cR P .any ops Q S L ops.size (Array.replicate ops.size false) a w.drew):(Code.region id ops true).wp P Q a w:=
 wp_region_any hm (qF _ _ _ _ (h hS))
theorem la (i:Nat){oi:Oper}{v:Value}{fuel:Nat}{listed:Array Bool}{a:Act}{w:World}
  (h:cR P md ops Q S L fuel (listed.setIfInBounds i true) (a.put oi.dst v) w) (hS:S w:=by exact Aa) (hi:ops[i]?=some oi:=by rfl)
  (hk:(Region.noSelect ops && Region.free md ops listed i && (Region.ready md ops listed).contains i && vO md ops L i)=true:=by kernel_rfl)
  (hy:YieldsIf P ops S oi v a:=by exact .inl ⟨by rfl,by intro w Ko;(try dsimp only at Ko);go_simp;first|done|rfl⟩) (hQ:∀c a w,Q (.panic c) (a.put oi.dst v) w->Q (.panic c) a w:=by exact fun _ _ _ h=>h):
  cR P md ops Q S L (fuel+1) listed a w:=tl i hi hk hy hS hQ h
theorem da (i:Nat){o:Oper}{fuel:Nat}{listed:Array Bool}{a:Act}{w:World}
  (h:∀K:Act->World->Prop,Shut (∀a w,S w->(S w->cR P md ops Q S L fuel (listed.setIfInBounds i true) a w)->K a w)->if Region.wanted o (yielded ops a.tmps)=true then Oper.wp P o a w K Q else K (a.put o.dst undef) w)
  (ho:ops[i]?=some o:=by rfl) (hr:Region.ready md ops listed=[i]:=by kernel_rfl):cR P md ops Q S L (fuel+1) listed a w:=dl i ho hr h
theorem ea {o:Oper}{fuel:Nat}{listed:Array Bool}{a:Act}{w:World}
  (h:∀K:Act->World->Prop,Shut (∀a w,Q .normal a w->K a w)->if Region.wanted o (yielded ops a.tmps)=true then Oper.wp P o a w K Q else K (a.put o.dst undef) w)
  (ho:ops[L]?=some o:=by rfl) (hr:Region.ready md ops listed=[L]:=by kernel_rfl) (hn:Region.ready md ops (listed.setIfInBounds L true)=[]:=by kernel_rfl):cR P md ops Q S L (fuel+1) listed a w:=el ho hr hn h
end
end
theorem A24{p:Prop}(h:p:=by rw[<-Option.some.inj this];exact e2):p:=h
theorem A39{p:Prop}(h:p:=by show ∀_ _,_;omega):p:=h
theorem QA11{p:Prop}(h:p:=by
 clear he HE HY Ai
 go_wp2_with fail
 go_quiet (fail)
 go_wp2
 go_roundw
 case rel=>exact⟨j+1,by omega,by go_num,HF,aM (below_drewN (aA Qw.out) _) _⟩
 case measure=>simp[intOf];omega):p:=h
theorem QA14{p:Prop}(h:p:=by
 clear he HE HY
 go_wp2_with fail
 go_quiet (fail)
 go_wp2
 go_ret
 exact⟨bY (cJ HF.out).symm,aM (below_drewN (aA Hg.out) _) _⟩):p:=h
theorem QA17{p:Prop}(h:p:=by
 by_cases e:m=j
 .
  subst e;have:=HY.out;rw[hy]at this;exact fun e2=>he A24
 .
  exact Ai.out m y A0 hy):p:=h
theorem QA32{p:Prop}(h:p:=by
 clear hb Hb Bq Ai
 go_wp2
 go_ret
 exact⟨bY (dF HF.out).symm,Hg.out⟩):p:=h
theorem QA83{p:Prop}(h:p:=by
 rw[zA2]at hy
 exact zF0.1 hy):p:=h
theorem M919{p q:Prop}(k:q)(h:Kx q->p:=by
 intro kQ
 have r0:=Ab 0 _ rfl
 rw[zG1]at r0
 have Xk:=fun d=>aR cz (Er.drewN d)
 have Xj:=fun d=>aR c (aV.drewN (aV.below HX.out (aA Bq)) d)
 have HE:Hid (((strOfNums z.name).toList == (strOfNums x).toList)=decide (z.name=x)):=jD Er.2.1 HX.out.2.1
 revert HE;revert Xj;revert Xk;revert r0
 exact kQ.o):p:=h ⟨k⟩
theorem M930{p q:Prop}(k:q)(h:Kx q->p:=by
 intro kQ
 have hb:=Hb.out
 have Bq:w.grownBy wr none:=aC Y1.out hb
 have Hg:Hid (w.grownBy wr none):=Bq
 have Gc:Hid (w1.grownBy wr none):=hb
 have q1:=aB Q1.out (aA hb)
 revert q1;revert Gc;revert Hg;revert Bq;revert hb
 exact kQ.o):p:=h ⟨k⟩
theorem M976{p q:Prop}(k:q)(h:Kx q->p:=by
 intro kQ
 have Xk:=fun d=>aR cz (Er.drewN d)
 have Xj:=fun d=>aR c (aV.drewN (aV.below HX.out (aA Bq)) d)
 have HE:Hid (((strOfNums y).toList == (strOfNums x).toList)=decide (y=x)):=jD Er.2.1 HX.out.2.1
 revert HE;revert Xj;revert Xk
 exact kQ.o):p:=h ⟨k⟩
def ix (l:List (List Int))(x:List Int):Option Nat:=l.findIdx? fun y=>decide (y=x)
def ixI (l:List (List Int))(x:List Int):Int:=match ix l x with
 | some i=>i| none=>-1
theorem lG {l:List (List Int)}{x:List Int}(h:∀m y,m<l.length->l[m]?=some y->y ≠ x):ix l x=none:=by
 unfold ix;rw[List.findIdx?_eq_none_iff];intro y hy;obtain⟨m,hm,rfl⟩:=List.mem_iff_getElem.1 hy;exact zC2 (h m _ hm (zA0 hm))
theorem lF {l:List (List Int)}{x:List Int}{j:Nat}(h:∀m y,m<j->l[m]?=some y->y ≠ x)(hj:l[j]?=some x):ix l x=some j:=by
 unfold ix;obtain⟨hl,e⟩:=zC1.1 hj;rw[List.findIdx?_eq_some_iff_getElem];refine⟨hl,by simp[e],fun m hm=>?_⟩;have:=h m _ hm (zA0 A0);simpa using this
theorem dF {l:List (List Int)}{x:List Int}(h:ix l x=none):ixI l x = -1:=by unfold ixI;rw[h]
theorem cJ {l:List (List Int)}{x:List Int}{j:Nat}(h:ix l x=some j):ixI l x=j:=by unfold ixI;rw[h]
theorem aD3 {l:List (List Int)}{x:List Int}:ix l x=none ↔ x ∉ l:=by
 unfold ix;rw[List.findIdx?_eq_none_iff];exact⟨fun h hx=>by have:=h x hx;simp at this,fun h y hy=>zC2 (fun e=>h (e ▸ hy))⟩
theorem wO {l:List (List Int)}{x:List Int}{j:Nat}(h:ix l x=some j):l[j]?=some x/\∀m y,m<j->l[m]?=some y->y ≠ x:=by
 unfold ix at h;rw[List.findIdx?_eq_some_iff_getElem]at h;obtain⟨hl,e,hm⟩:=h;refine⟨by rw[zA0 hl];simpa using e,fun m y hy he=>?_⟩;have:=hm m hy;rw[zA0 A0]at he;simp only[zG2]at he;rw[<-he];simpa using this
theorem aDu (q:Mo)(vs:List Value)(w:World)(h:aL w q.fl vs)(a:Option Addr)(k c:Nat)(x:List Int)(hx:aV w a k x):
  Calls Tryz.prog 148 #[agg vs,.slice a k c] w fun e w'=>e=.returned (.int .i64 (ixI (q.procs.map Pr.name) x))/\w.grownBy w' none:=by
 obtain⟨v0,_,rfl,h0,v1,_,rfl,h1,v2,_,rfl,h2,v3,_,rfl,h3,rfl⟩:=h;obtain⟨b,d,rfl,hL⟩:=h3.list;have Df:=hL.len9;have Fw:(q.procs.map Pr.fl).length=(q.procs).length:=by simp[dI]
 rw[Fw]at Df ⊢;obtain⟨n,hN⟩:=zx ((q.procs).length);have HN:Hid ((q.procs).length=n):=hN.symm;rw[<-hN]at Df ⊢;have HL:Hid (aW w b d 5 (q.procs.map Pr.fl)):=hL;have HX:Hid (aV w a k x):=hx;have x0:=Blk.new w 86 [v0,v1,v2,.slice b n d];have y0:=aE w (.cells #[v0,v1,v2,.slice b n d] 86 (0,0)) none;simp only[List.toArray]at x0;simp only[agg];clear hL hx hN Fw h0 h1 h2 h3;go_enter Tryz.func148,Tryz.ntmps148;go_upto_region 1 with fail;generalize w.alloc (.cells #[v0,v1,v2,.slice b n d] 86 (0,0))=w1 at *;have Q1:Hid (w1.cell? ⟨w.heap.size,3,none⟩=some (.slice b n d)):=x0.k 3;have Y1:Hid (w.grownBy w1 none):=y0;clear x0 y0;go_wp2_with fail;go_loopw [5] (fun i wr=>∃j:Nat,j<=n/\i=.int .i64 j/\Hid (∀m y,m<j->(q.procs.map Pr.name)[m]?=some y->y ≠ x)/\Hid (w1.grownBy wr none)) (fun i _=>n-(intOf i).toNat)
 case atStart=>exact⟨0,zD1 _,rfl,A39,aP _ _⟩
 case round=>
  obtain⟨j,hj,rfl,Ai,Hb⟩:=hrel;refine M930 ?_;intro hb Bq Hg Gc q1;by_cases Ad:j<n
  .
   obtain⟨y,hy⟩:∃y,(q.procs.map Pr.name)[j]?=some y:=⟨_,zA0 (by rw[show(q.procs.map Pr.name).length=(q.procs).length by simp,HN.out];exact Ad)⟩
   obtain⟨z,hz,rfl⟩:∃z,(q.procs)[j]?=some z/\z.name=y:=by
    exact QA83
   have Ia:(q.procs.map Pr.fl)[j]?=some z.fl:=by rw[zA2,hz];rfl
   obtain⟨b,off,rfl⟩:=aW.addr HL.out (by rw[show(q.procs.map Pr.fl).length=(q.procs).length by simp[dI],HN.out];omega);obtain⟨vs,Ak,Ab⟩:=((aW.below HL.out (aA Bq)).el Ia).vals;obtain⟨z0,us,rfl,⟨az,cz,rfl,Er,_⟩,_⟩:=Ak;refine M919 ?_;intro r0 Xk Xj HE;have HY:Hid ((q.procs.map Pr.name)[j]?=some z.name):=by show _=_;rw[zA2,hz];rfl
   have Gs:(j:Int)<(n:Int):=A0;clear Ab hz hy Ia Er hb Hb Bq;by_cases he:z.name=x
   .
    have hbq:((strOfNums z.name).toList == (strOfNums x).toList)=true:=HE.out.trans (zB3 he);have HF:Hid (ix (q.procs.map Pr.name) x=some j):=lF Ai.out (he ▸ HY.out);exact QA14
   .
    have hbq:((strOfNums z.name).toList == (strOfNums x).toList)=false:=HE.out.trans (zC2 he);have HF:Hid (∀m y,m<j+1->(q.procs.map Pr.name)[m]?=some y->y ≠ x):=fun m y hm hy=>by
     exact QA17
    have Qw:Hid (w1.grownBy wr none):=Gc.out;exact QA11
  .
   have:n=j:=A0;subst this;have HF:Hid (ix (q.procs.map Pr.name) x=none):=lG (by rw[show(q.procs.map Pr.name).length=(q.procs).length by simp,HN.out];exact Ai.out);exact QA32
theorem uF (q:Mo)(vs:List Value)(w:World)(h:aL w q.fl vs)(a:Option Addr)(k c:Nat)(x:List Int)(hx:aV w a k x):
  Calls Tryz.prog 147 #[agg vs,.slice a k c] w fun e w'=>e=.returned (.int .i64 (ixI (q.vars.map Va.name) x))/\w.grownBy w' none:=by
 obtain⟨v0,_,rfl,h0,v1,_,rfl,h1,v2,_,rfl,h2,v3,_,rfl,h3,rfl⟩:=h;obtain⟨b,d,rfl,hL⟩:=h2.list;have Df:=hL.len9;have Fw:(q.vars.map Va.fl).length=(q.vars).length:=by simp[dI]
 rw[Fw]at Df ⊢;obtain⟨n,hN⟩:=zx ((q.vars).length);have HN:Hid ((q.vars).length=n):=hN.symm;rw[<-hN]at Df ⊢;have HL:Hid (aW w b d 2 (q.vars.map Va.fl)):=hL;have HX:Hid (aV w a k x):=hx;have x0:=Blk.new w 86 [v0,v1,.slice b n d,v3];have y0:=aE w (.cells #[v0,v1,.slice b n d,v3] 86 (0,0)) none;simp only[List.toArray]at x0;simp only[agg];clear hL hx hN Fw h0 h1 h2 h3;go_enter Tryz.func147,Tryz.ntmps147;go_upto_region 1 with fail;generalize w.alloc (.cells #[v0,v1,.slice b n d,v3] 86 (0,0))=w1 at *;have Q1:Hid (w1.cell? ⟨w.heap.size,2,none⟩=some (.slice b n d)):=x0.k 2;have Y1:Hid (w.grownBy w1 none):=y0;clear x0 y0;go_wp2_with fail;go_loopw [5] (fun i wr=>∃j:Nat,j<=n/\i=.int .i64 j/\Hid (∀m y,m<j->(q.vars.map Va.name)[m]?=some y->y ≠ x)/\Hid (w1.grownBy wr none)) (fun i _=>n-(intOf i).toNat)
 case atStart=>exact⟨0,zD1 _,rfl,A39,aP _ _⟩
 case round=>
  obtain⟨j,hj,rfl,Ai,Hb⟩:=hrel;refine M930 ?_;intro hb Bq Hg Gc q1;by_cases Ad:j<n
  .
   obtain⟨y,hy⟩:∃y,(q.vars.map Va.name)[j]?=some y:=⟨_,zA0 (by rw[show(q.vars.map Va.name).length=(q.vars).length by simp,HN.out];exact Ad)⟩
   obtain⟨z,hz,rfl⟩:∃z,(q.vars)[j]?=some z/\z.name=y:=by
    exact QA83
   have Ia:(q.vars.map Va.fl)[j]?=some z.fl:=by rw[zA2,hz];rfl
   obtain⟨b,off,rfl⟩:=aW.addr HL.out (by rw[show(q.vars.map Va.fl).length=(q.vars).length by simp[dI],HN.out];omega);obtain⟨vs,Ak,Ab⟩:=((aW.below HL.out (aA Bq)).el Ia).vals;obtain⟨z0,us,rfl,⟨az,cz,rfl,Er,_⟩,_⟩:=Ak;refine M919 ?_;intro r0 Xk Xj HE;have HY:Hid ((q.vars.map Va.name)[j]?=some z.name):=by show _=_;rw[zA2,hz];rfl
   have Gs:(j:Int)<(n:Int):=A0;clear Ab hz hy Ia Er hb Hb Bq;by_cases he:z.name=x
   .
    have hbq:((strOfNums z.name).toList == (strOfNums x).toList)=true:=HE.out.trans (zB3 he);have HF:Hid (ix (q.vars.map Va.name) x=some j):=lF Ai.out (he ▸ HY.out);exact QA14
   .
    have hbq:((strOfNums z.name).toList == (strOfNums x).toList)=false:=HE.out.trans (zC2 he);have HF:Hid (∀m y,m<j+1->(q.vars.map Va.name)[m]?=some y->y ≠ x):=fun m y hm hy=>by
     exact QA17
    have Qw:Hid (w1.grownBy wr none):=Gc.out;exact QA11
  .
   have:n=j:=A0;subst this;have HF:Hid (ix (q.vars.map Va.name) x=none):=lG (by rw[show(q.vars.map Va.name).length=(q.vars).length by simp,HN.out];exact Ai.out);exact QA32
theorem rT (q:Pr)(vs:List Value)(w:World)(h:aL w q.fl vs)(a:Option Addr)(k c:Nat)(x:List Int)(hx:aV w a k x):
  Calls Tryz.prog 149 #[agg vs,.slice a k c] w fun e w'=>e=.returned (.int .i64 (ixI (q.params.map Pa.name) x))/\w.grownBy w' none:=by
 obtain⟨v0,_,rfl,h0,v1,_,rfl,h1,v2,_,rfl,h2,v3,_,rfl,h3,v4,_,rfl,h4,rfl⟩:=h;obtain⟨b,d,rfl,hL⟩:=h2.list;have Df:=hL.len9;have Fw:(q.params.map Pa.fl).length=(q.params).length:=by simp[dI]
 rw[Fw]at Df ⊢;obtain⟨n,hN⟩:=zx ((q.params).length);have HN:Hid ((q.params).length=n):=hN.symm;rw[<-hN]at Df ⊢;have HL:Hid (aW w b d 2 (q.params.map Pa.fl)):=hL;have HX:Hid (aV w a k x):=hx;have x0:=Blk.new w 135 [v0,v1,.slice b n d,v3,v4];have y0:=aE w (.cells #[v0,v1,.slice b n d,v3,v4] 135 (0,0)) none;simp only[List.toArray]at x0;simp only[agg];clear hL hx hN Fw h0 h1 h2 h3 h4;go_enter Tryz.func149,Tryz.ntmps149;go_upto_region 1 with fail;generalize w.alloc (.cells #[v0,v1,.slice b n d,v3,v4] 135 (0,0))=w1 at *;have Q1:Hid (w1.cell? ⟨w.heap.size,2,none⟩=some (.slice b n d)):=x0.k 2;have Y1:Hid (w.grownBy w1 none):=y0;clear x0 y0;go_wp2_with fail;go_loopw [5] (fun i wr=>∃j:Nat,j<=n/\i=.int .i64 j/\Hid (∀m y,m<j->(q.params.map Pa.name)[m]?=some y->y ≠ x)/\Hid (w1.grownBy wr none)) (fun i _=>n-(intOf i).toNat)
 case atStart=>exact⟨0,zD1 _,rfl,A39,aP _ _⟩
 case round=>
  obtain⟨j,hj,rfl,Ai,Hb⟩:=hrel;refine M930 ?_;intro hb Bq Hg Gc q1;by_cases Ad:j<n
  .
   obtain⟨y,hy⟩:∃y,(q.params.map Pa.name)[j]?=some y:=⟨_,zA0 (by rw[show(q.params.map Pa.name).length=(q.params).length by simp,HN.out];exact Ad)⟩
   obtain⟨z,hz,rfl⟩:∃z,(q.params)[j]?=some z/\z.name=y:=by
    exact QA83
   have Ia:(q.params.map Pa.fl)[j]?=some z.fl:=by rw[zA2,hz];rfl
   obtain⟨b,off,rfl⟩:=aW.addr HL.out (by rw[show(q.params.map Pa.fl).length=(q.params).length by simp[dI],HN.out];omega);obtain⟨vs,Ak,Ab⟩:=((aW.below HL.out (aA Bq)).el Ia).vals;obtain⟨z0,us,rfl,⟨az,cz,rfl,Er,_⟩,_⟩:=Ak;refine M919 ?_;intro r0 Xk Xj HE;have HY:Hid ((q.params.map Pa.name)[j]?=some z.name):=by show _=_;rw[zA2,hz];rfl
   have Gs:(j:Int)<(n:Int):=A0;clear Ab hz hy Ia Er hb Hb Bq;by_cases he:z.name=x
   .
    have hbq:((strOfNums z.name).toList == (strOfNums x).toList)=true:=HE.out.trans (zB3 he);have HF:Hid (ix (q.params.map Pa.name) x=some j):=lF Ai.out (he ▸ HY.out);exact QA14
   .
    have hbq:((strOfNums z.name).toList == (strOfNums x).toList)=false:=HE.out.trans (zC2 he);have HF:Hid (∀m y,m<j+1->(q.params.map Pa.name)[m]?=some y->y ≠ x):=fun m y hm hy=>by
     exact QA17
    have Qw:Hid (w1.grownBy wr none):=Gc.out;exact QA11
  .
   have:n=j:=A0;subst this;have HF:Hid (ix (q.params.map Pa.name) x=none):=lG (by rw[show(q.params.map Pa.name).length=(q.params).length by simp,HN.out];exact Ai.out);exact QA32
theorem zL (q:Pr)(vs:List Value)(w:World)(h:aL w q.fl vs)(a:Option Addr)(k c:Nat)(x:List Int)(hx:aV w a k x):
  Calls Tryz.prog 150 #[agg vs,.slice a k c] w fun e w'=>e=.returned (.int .i64 (ixI (q.locals) x))/\w.grownBy w' none:=by
 obtain⟨v0,_,rfl,h0,v1,_,rfl,h1,v2,_,rfl,h2,v3,_,rfl,h3,v4,_,rfl,h4,rfl⟩:=h;obtain⟨b,d,rfl,hL⟩:=h3.list;have Df:=hL.len9;have Fw:(dI q.locals).length=(q.locals).length:=by simp[dI]
 rw[Fw]at Df ⊢;obtain⟨n,hN⟩:=zx ((q.locals).length);have HN:Hid ((q.locals).length=n):=hN.symm;rw[<-hN]at Df ⊢;have HL:Hid (aW w b d 1 (dI q.locals)):=hL;have HX:Hid (aV w a k x):=hx;have x0:=Blk.new w 135 [v0,v1,v2,.slice b n d,v4];have y0:=aE w (.cells #[v0,v1,v2,.slice b n d,v4] 135 (0,0)) none;simp only[List.toArray]at x0;simp only[agg];clear hL hx hN Fw h0 h1 h2 h3 h4;go_enter Tryz.func150,Tryz.ntmps150;go_upto_region 1 with fail;generalize w.alloc (.cells #[v0,v1,v2,.slice b n d,v4] 135 (0,0))=w1 at *;have Q1:Hid (w1.cell? ⟨w.heap.size,3,none⟩=some (.slice b n d)):=x0.k 3;have Y1:Hid (w.grownBy w1 none):=y0;clear x0 y0;go_wp2_with fail;go_loopw [5] (fun i wr=>∃j:Nat,j<=n/\i=.int .i64 j/\Hid (∀m y,m<j->(q.locals)[m]?=some y->y ≠ x)/\Hid (w1.grownBy wr none)) (fun i _=>n-(intOf i).toNat)
 case atStart=>exact⟨0,zD1 _,rfl,A39,aP _ _⟩
 case round=>
  obtain⟨j,hj,rfl,Ai,Hb⟩:=hrel;refine M930 ?_;intro hb Bq Hg Gc q1;by_cases Ad:j<n
  .
   obtain⟨y,hy⟩:∃y,(q.locals)[j]?=some y:=⟨_,zA0 (by rw[show(q.locals).length=(q.locals).length by simp,HN.out];exact Ad)⟩
   have Ia:(dI q.locals)[j]?=some [Fl.b y]:=by unfold dI;rw[zA2,hy];rfl
   obtain⟨b,off,rfl⟩:=aW.addr HL.out (by rw[show(dI q.locals).length=(q.locals).length by simp[dI],HN.out];omega);obtain⟨vs,Ak,Ab⟩:=((aW.below HL.out (aA Bq)).el Ia).vals;obtain⟨z0,us,rfl,⟨az,cz,rfl,Er,_⟩,_⟩:=Ak;have r0:=Ab 0 _ rfl;simp only[zG1,Nat.mul_one]at r0;refine M976 ?_;intro Xk Xj HE;have HY:Hid ((q.locals)[j]?=some y):=hy;have Gs:(j:Int)<(n:Int):=A0;clear Ab hy Ia Er hb Hb Bq;by_cases he:y=x
   .
    have hbq:((strOfNums y).toList == (strOfNums x).toList)=true:=HE.out.trans (zB3 he);have HF:Hid (ix (q.locals) x=some j):=lF Ai.out (he ▸ HY.out);exact QA14
   .
    have hbq:((strOfNums y).toList == (strOfNums x).toList)=false:=HE.out.trans (zC2 he);have HF:Hid (∀m y,m<j+1->(q.locals)[m]?=some y->y ≠ x):=fun m y hm hy=>by
     exact QA17
    have Qw:Hid (w1.grownBy wr none):=Gc.out;exact QA11
  .
   have:n=j:=A0;subst this;have HF:Hid (ix (q.locals) x=none):=lG (by rw[show(q.locals).length=(q.locals).length by simp,HN.out];exact Ai.out);exact QA32
theorem lE (q:Fa)(vs:List Value)(w:World)(h:aL w q.fl vs)(a:Option Addr)(k c:Nat)(x:List Int)(hx:aV w a k x):
  Calls Tryz.prog 154 #[agg vs,.slice a k c] w fun e w'=>e=.returned (.int .i64 (ixI (q.procs.map Fp.name) x))/\w.grownBy w' none:=by
 obtain⟨v0,_,rfl,h0,v1,_,rfl,h1,rfl⟩:=h;obtain⟨b,d,rfl,hL⟩:=h1.list;have Df:=hL.len9;have Fw:(q.procs.map Fp.fl).length=(q.procs).length:=by simp[dI]
 rw[Fw]at Df ⊢;obtain⟨n,hN⟩:=zx ((q.procs).length);have HN:Hid ((q.procs).length=n):=hN.symm;rw[<-hN]at Df ⊢;have HL:Hid (aW w b d 2 (q.procs.map Fp.fl)):=hL;have HX:Hid (aV w a k x):=hx;have x0:=Blk.new w 80 [v0,.slice b n d];have y0:=aE w (.cells #[v0,.slice b n d] 80 (0,0)) none;simp only[List.toArray]at x0;simp only[agg];clear hL hx hN Fw h0 h1;go_enter Tryz.func154,Tryz.ntmps154;go_upto_region 1 with fail;generalize w.alloc (.cells #[v0,.slice b n d] 80 (0,0))=w1 at *;have Q1:Hid (w1.cell? ⟨w.heap.size,1,none⟩=some (.slice b n d)):=x0.k 1;have Y1:Hid (w.grownBy w1 none):=y0;clear x0 y0;go_wp2_with fail;go_loopw [5] (fun i wr=>∃j:Nat,j<=n/\i=.int .i64 j/\Hid (∀m y,m<j->(q.procs.map Fp.name)[m]?=some y->y ≠ x)/\Hid (w1.grownBy wr none)) (fun i _=>n-(intOf i).toNat)
 case atStart=>exact⟨0,zD1 _,rfl,A39,aP _ _⟩
 case round=>
  obtain⟨j,hj,rfl,Ai,Hb⟩:=hrel;refine M930 ?_;intro hb Bq Hg Gc q1;by_cases Ad:j<n
  .
   obtain⟨y,hy⟩:∃y,(q.procs.map Fp.name)[j]?=some y:=⟨_,zA0 (by rw[show(q.procs.map Fp.name).length=(q.procs).length by simp,HN.out];exact Ad)⟩
   obtain⟨z,hz,rfl⟩:∃z,(q.procs)[j]?=some z/\z.name=y:=by
    exact QA83
   have Ia:(q.procs.map Fp.fl)[j]?=some z.fl:=by rw[zA2,hz];rfl
   obtain⟨b,off,rfl⟩:=aW.addr HL.out (by rw[show(q.procs.map Fp.fl).length=(q.procs).length by simp[dI],HN.out];omega);obtain⟨vs,Ak,Ab⟩:=((aW.below HL.out (aA Bq)).el Ia).vals;obtain⟨z0,us,rfl,⟨az,cz,rfl,Er,_⟩,_⟩:=Ak;refine M919 ?_;intro r0 Xk Xj HE;have HY:Hid ((q.procs.map Fp.name)[j]?=some z.name):=by show _=_;rw[zA2,hz];rfl
   have Gs:(j:Int)<(n:Int):=A0;clear Ab hz hy Ia Er hb Hb Bq;by_cases he:z.name=x
   .
    have hbq:((strOfNums z.name).toList == (strOfNums x).toList)=true:=HE.out.trans (zB3 he);have HF:Hid (ix (q.procs.map Fp.name) x=some j):=lF Ai.out (he ▸ HY.out);exact QA14
   .
    have hbq:((strOfNums z.name).toList == (strOfNums x).toList)=false:=HE.out.trans (zC2 he);have HF:Hid (∀m y,m<j+1->(q.procs.map Fp.name)[m]?=some y->y ≠ x):=fun m y hm hy=>by
     exact QA17
    have Qw:Hid (w1.grownBy wr none):=Gc.out;exact QA11
  .
   have:n=j:=A0;subst this;have HF:Hid (ix (q.procs.map Fp.name) x=none):=lG (by rw[show(q.procs.map Fp.name).length=(q.procs).length by simp,HN.out];exact Ai.out);exact QA32
theorem pB (q:List Fa)(b:Option Addr)(n d:Nat)(w:World)(h:aW w b d 2 (q.map Fa.fl))(hl:q.length=n)(a:Option Addr)(k c:Nat)(x:List Int)(hx:aV w a k x):
  Calls Tryz.prog 105 #[.slice b n d,.slice a k c] w fun e w'=>e=.returned (.int .i64 (ixI (q.map Fa.name) x))/\w.grownBy w' none:=by
 have Df:=h.len9;have Fw:(q.map Fa.fl).length=q.length:=by simp[dI]
 rw[Fw,hl]at Df;have HN:Hid (q.length=n):=hl;have HL:Hid (aW w b d 2 (q.map Fa.fl)):=h;have HX:Hid (aV w a k x):=hx;clear h hx hl Fw;go_enter Tryz.func105,Tryz.ntmps105;go_wp2_with fail;go_loopw [5] (fun i wr=>∃j:Nat,j<=n/\i=.int .i64 j/\Hid (∀m y,m<j->(q.map Fa.name)[m]?=some y->y ≠ x)/\Hid (w.grownBy wr none)) (fun i _=>n-(intOf i).toNat)
 case atStart=>exact⟨0,zD1 _,rfl,A39,aP _ _⟩
 case round=>
  obtain⟨j,hj,rfl,Ai,Hb⟩:=hrel;have hb:=Hb.out;have Bq:w.grownBy wr none:=hb;have Hg:Hid (w.grownBy wr none):=Bq;by_cases Ad:j<n
  .
   obtain⟨y,hy⟩:∃y,(q.map Fa.name)[j]?=some y:=⟨_,zA0 (by rw[show(q.map Fa.name).length=(q).length by simp,HN.out];exact Ad)⟩
   obtain⟨z,hz,rfl⟩:∃z,(q)[j]?=some z/\z.name=y:=by
    exact QA83
   have Ia:(q.map Fa.fl)[j]?=some z.fl:=by rw[zA2,hz];rfl
   obtain⟨b,off,rfl⟩:=aW.addr HL.out (by rw[show(q.map Fa.fl).length=(q).length by simp[dI],HN.out];omega);obtain⟨vs,Ak,Ab⟩:=((aW.below HL.out (aA Bq)).el Ia).vals;obtain⟨z0,us,rfl,⟨az,cz,rfl,Er,_⟩,_⟩:=Ak;refine M919 ?_;intro r0 Xk Xj HE;have HY:Hid ((q.map Fa.name)[j]?=some z.name):=by show _=_;rw[zA2,hz];rfl
   have Gs:(j:Int)<(n:Int):=A0;clear Ab hz hy Ia Er hb Hb Bq;by_cases he:z.name=x
   .
    have hbq:((strOfNums z.name).toList == (strOfNums x).toList)=true:=HE.out.trans (zB3 he);have HF:Hid (ix (q.map Fa.name) x=some j):=lF Ai.out (he ▸ HY.out);exact QA14
   .
    have hbq:((strOfNums z.name).toList == (strOfNums x).toList)=false:=HE.out.trans (zC2 he);have HF:Hid (∀m y,m<j+1->(q.map Fa.name)[m]?=some y->y ≠ x):=fun m y hm hy=>by
     exact QA17
    have Qw:Hid (w.grownBy wr none):=Hg;exact QA11
  .
   have:n=j:=A0;subst this;have HF:Hid (ix (q.map Fa.name) x=none):=lG (by rw[show(q.map Fa.name).length=(q).length by simp,HN.out];exact Ai.out);exact QA32
theorem aOl (q:List (List Int))(b:Option Addr)(n d:Nat)(w:World)(h:aW w b d 1 (dI q))(hl:q.length=n)(a:Option Addr)(k c:Nat)(x:List Int)(hx:aV w a k x):
  Calls Tryz.prog 106 #[.slice b n d,.slice a k c] w fun e w'=>e=.returned (.bool (decide (x ∈ q)))/\w.grownBy w' none:=by
 have Df:=h.len9;have Fw:(dI q).length=q.length:=by simp[dI]
 rw[Fw,hl]at Df;have HN:Hid (q.length=n):=hl;have HL:Hid (aW w b d 1 (dI q)):=h;have HX:Hid (aV w a k x):=hx;clear h hx hl Fw;go_enter Tryz.func106,Tryz.ntmps106;go_wp2_with fail;go_loopw [5] (fun i wr=>∃j:Nat,j<=n/\i=.int .i64 j/\Hid (∀m y,m<j->(q)[m]?=some y->y ≠ x)/\Hid (w.grownBy wr none)) (fun i _=>n-(intOf i).toNat)
 case atStart=>exact⟨0,zD1 _,rfl,A39,aP _ _⟩
 case round=>
  obtain⟨j,hj,rfl,Ai,Hb⟩:=hrel;have hb:=Hb.out;have Bq:w.grownBy wr none:=hb;have Hg:Hid (w.grownBy wr none):=Bq;by_cases Ad:j<n
  .
   obtain⟨y,hy⟩:∃y,(q)[j]?=some y:=⟨_,zA0 (by rw[show(q).length=(q).length by simp,HN.out];exact Ad)⟩
   have Ia:(dI q)[j]?=some [Fl.b y]:=by unfold dI;rw[zA2,hy];rfl
   obtain⟨b,off,rfl⟩:=aW.addr HL.out (by rw[show(dI q).length=(q).length by simp[dI],HN.out];omega);obtain⟨vs,Ak,Ab⟩:=((aW.below HL.out (aA Bq)).el Ia).vals;obtain⟨z0,us,rfl,⟨az,cz,rfl,Er,_⟩,_⟩:=Ak;have r0:=Ab 0 _ rfl;simp only[zG1,Nat.mul_one]at r0;refine M976 ?_;intro Xk Xj HE;have HY:Hid ((q)[j]?=some y):=hy;have Gs:(j:Int)<(n:Int):=A0;clear Ab hy Ia Er hb Hb Bq;by_cases he:y=x
   .
    have hbq:((strOfNums y).toList == (strOfNums x).toList)=true:=HE.out.trans (zB3 he);have HF:Hid (ix (q) x=some j):=lF Ai.out (he ▸ HY.out);clear he HE HY;go_wp2_with fail;go_quiet (fail);go_wp2;go_ret;exact⟨aF (zB3 (zA3 (wO HF.out).1)).symm,aM (below_drewN (aA Hg.out) _) _⟩
   .
    have hbq:((strOfNums y).toList == (strOfNums x).toList)=false:=HE.out.trans (zC2 he);have HF:Hid (∀m y,m<j+1->(q)[m]?=some y->y ≠ x):=fun m y hm hy=>by
     exact QA17
    have Qw:Hid (w.grownBy wr none):=Hg;exact QA11
  .
   have:n=j:=A0;subst this;have HF:Hid (ix (q) x=none):=lG (by rw[show(q).length=(q).length by simp,HN.out];exact Ai.out);clear hb Hb Bq Ai;go_wp2;go_ret;exact⟨aF (zC2 (aD3.1 HF.out)).symm,Hg.out⟩
section
theorem QA23{p:Prop}(h:p:=by
 obtain⟨A,hA,Ur⟩:=(Cc false (by rw[Ms];rfl)).resolve_left A8
 rw[<-hA]
 rcases Ur with⟨rfl,hv⟩|⟨i2,y2,b2,off2,rfl,hil2,rfl,hv,r2⟩
 .
  have HF:Hid (arq m p x=false):=by show _=_;unfold arq;rw[Ms,hv];rfl
  clear Cc hA hv Ms
  go_wp2
  go_ret
  exact⟨aF HF.out.symm,yh⟩
 .
  have HF:Hid (arq m p x=decide (0<y2.size)):=by show _=_;unfold arq;rw[Ms,hv];rfl
  have Wm:(0:Int)<=(i2:Int):=by omega
  clear Cc hA hv Ms
  go_wp2
  go_ret
  exact⟨aF HF.out.symm,yh⟩):p:=h
theorem M972{p q:Prop}(k:q)(h:Kx q->p:=by
 intro kQ
 have HV:=hid hV
 have HP:=hid hP
 have HM:=hid Cq
 have HQ:=hid La
 have HX:=hid hx
 have x0:=(Blk.new w 86 [v0,v1,.slice av nv cv,v3]).old (o:=.cells #[u0,u1,.slice ap np cp,u3,u4] 135 (0,0))
 have x1:=Blk.new (w.alloc (.cells #[v0,v1,.slice av nv cv,v3] 86 (0,0))) 135 [u0,u1,.slice ap np cp,u3,u4]
 have hgz:(w.alloc (.cells #[v0,v1,.slice av nv cv,v3] 86 (0,0))).heap.size=w.heap.size+1:=by simp
 have y0:w.grownBy ((w.alloc (.cells #[v0,v1,.slice av nv cv,v3] 86 (0,0))).alloc (.cells #[u0,u1,.slice ap np cp,u3,u4] 135 (0,0))) none:=aC (aE w _ none) (aE _ _ none)
 revert y0;revert hgz;revert x1;revert x0;revert HX;revert HQ;revert HM;revert HP;revert HV
 exact kQ.o):p:=h ⟨k⟩
theorem M975{p q:Prop}(k:q)(h:Kx q->p:=by
 intro kQ
 refine H1.mono ?_
 rintro e w2 ⟨rfl,hg⟩
 have yg:=aC y0 hg
 revert yg;revert hg;revert w2
 exact kQ.o):p:=h ⟨k⟩
variable{x:List Int}{m:Mo}{i:Nat}{p:Pr}
def wC (p:Pr)(x:List Int):Option Bool:=(ix (p.params.map Pa.name) x).bind fun i=>p.params[i]?.map Pa.arr
def nC (m:Mo)(x:List Int):Option Int:=(ix (m.vars.map Va.name) x).bind fun i=>m.vars[i]?.map Va.size
def sgl (m:Mo)(p:Pr)(x:List Int):Bool:=match wC p x with
 | some b=>!b| none=>decide (x ∈ p.locals) || (match nC m x with
  | some n=>decide (n=0)| none=>false)
def arq (m:Mo)(p:Pr)(x:List Int):Bool:=(wC p x == some true) || (match nC m x with
 | some n=>decide (0<n)| none=>false)
theorem lT{α:Type}{f:α->List Int}{l:List α}(h:ix (l.map f) x=some i):∃y,l[i]?=some y/\f y=x:=by
 have:=(wO h).1;rw[zA2]at this;exact zF0.1 this
theorem qI{y:Pa}(h:ix (p.params.map Pa.name) x=some i)(hy:p.params[i]?=some y):wC p x=some y.arr:=by unfold wC;rw[h,Option.bind_some,hy];rfl
theorem mP(h:ix (p.params.map Pa.name) x=none):wC p x=none:=by unfold wC;rw[h];rfl
theorem oI{y:Va}(h:ix (m.vars.map Va.name) x=some i)(hy:m.vars[i]?=some y):nC m x=some y.size:=by unfold nC;rw[h,Option.bind_some,hy];rfl
theorem lB(h:ix (m.vars.map Va.name) x=none):nC m x=none:=by unfold nC;rw[h];rfl
theorem iG{α:Type}{l:List α}{y:α}(h:l[i]?=some y):i<l.length:=(zC1.1 h).1
theorem aW.cellsAt{w:World}{a:Option Addr}{c k:Nat}{rs:List (List Fl)}{r:List Fl}(h:aW w a c k rs)(hi:rs[i]?=some r):∃b off vs,a=some ⟨b,off,none⟩/\aL w r vs/\∀z v,vs[z]?=some v->w.cell? ⟨b,off+i*k+z,none⟩=some v:=by
 obtain⟨b,off,rfl⟩:=h.addr (by have:=iG hi;omega);obtain⟨vs,hv,hc⟩:=(h.el hi).vals;exact⟨b,off,vs,rfl,hv,hc⟩
theorem uG (m:Mo)(p:Pr)(vs us:List Value)(w:World)(hm:aL w m.fl vs)(hp:aL w p.fl us)(a:Option Addr)(k c:Nat)(x:List Int)(hx:aV w a k x):
  Calls Tryz.prog 151 #[agg vs,agg us,.slice a k c] w fun e w'=>e=.returned (.bool (sgl m p x))/\w.grownBy w' none:=by
 have Cq:=hm;have La:=hp;obtain⟨v0,_,rfl,_,v1,_,rfl,_,v2,_,rfl,hv,v3,_,rfl,_,rfl⟩:=hm;obtain⟨u0,_,rfl,_,u1,_,rfl,_,u2,_,rfl,hu,u3,_,rfl,_,u4,_,rfl,_,rfl⟩:=hp;obtain⟨av,cv,rfl,hV⟩:=hv.list;obtain⟨ap,cp,rfl,hP⟩:=hu.list;have hv9:=hV.len9;have Ub:=hP.len9;rw[zB2]at hv9 Ub;simp only[zB2]at Cq La ⊢;obtain⟨nv,Jr⟩:=zx (m.vars.length);obtain⟨np,Eu⟩:=zx (p.params.length);have HNV:=hid Jr.symm;have Px:=hid Eu.symm;rw[<-Jr]at Cq hv9 ⊢;rw[<-Eu]at La Ub ⊢;clear Jr Eu hv hu;refine M972 ?_;clear hV hP Cq La hx;intro HV HP HM HQ HX x0 x1 hgz y0;simp only[List.toArray]at x0 x1;rw[hgz]at x1;clear hgz;simp only[agg];go_enter Tryz.func151,Tryz.ntmps151;go_upto_region 1 with fail;generalize (w.alloc (.cells #[v0,v1,.slice av nv cv,v3] 86 (0,0))).alloc (.cells #[u0,u1,.slice ap np cp,u3,u4] 135 (0,0))=w1 at *;have H1:=rT p _ w1 (aL.below HQ.out (aA y0)) a k c x (aV.below HX.out (aA y0));simp only[agg,List.toArray]at H1;obtain⟨q0,q1,q2,q3,q4⟩:=x1.c5;cases hi:ix (p.params.map Pa.name) x with
 | some i=>
  obtain⟨y,hy,_⟩:=lT hi;have HF:Hid (sgl m p x = !y.arr):=by show _=_;unfold sgl;rw[qI hi hy]
  have Wk:i<np:=by have:=iG hy;rw[Px.out]at this;exact this
  rw[cJ hi]at H1;obtain⟨b,off,ys,rfl,Ky,Ab⟩:=aW.cellsAt HP.out (show(p.params.map Pa.fl)[i]?=some y.fl by rw[zA2,hy];rfl);obtain⟨y0',us',rfl,_,y1,us1,rfl,rfl,rfl⟩:=Ky;have HR:Hid (w.cell? ⟨b,off+i*2+1,none⟩=some (.bool y.arr)):=Ab 1 _ rfl;clear hi hy Ab;go_wp2_with fail;refine M975 ?_;intro w2 hg yg;have z1:=x1.below (aA hg) x1.lt;have q2:=z1.k 2;have r:=aB HR.out (aA yg);clear q0 q1 q3 q4 x0 x1 z1 y0 hg H1;go_wp2;go_ret;exact⟨aF HF.out.symm,yg⟩
 | none=>
  have HA:=hid (mP hi);rw[dF hi]at H1;clear hi;go_wp2_with fail;refine M975 ?_;intro w2 hg yg;replace x0:=x0.below (aA hg) x0.lt;replace x1:=x1.below (aA hg) x1.lt;clear q0 q1 q2 q3 q4 y0 hg H1;have H2:=uF m _ w2 (aL.below HM.out (aA yg)) a k c x (aV.below HX.out (aA yg));simp only[agg,List.toArray]at H2;obtain⟨k0,k1,k2,k3⟩:=x0.c4;go_wp2_with fail;refine H2.mono ?_;rintro e w3 ⟨rfl,hg⟩;have yh:=aC yg hg;replace x0:=x0.below (aA hg) x0.lt;replace x1:=x1.below (aA hg) x1.lt;clear k0 k1 k2 k3 yg hg H2;have H3:=zL p _ w3 (aL.below HQ.out (aA yh)) a k c x (aV.below HX.out (aA yh));simp only[agg,List.toArray]at H3;obtain⟨q0,q1,q2,q3,q4⟩:=x1.c5;cases hl:ix p.locals x with
  | some j=>
   have HF:Hid (sgl m p x=true):=by show _=_;unfold sgl;rw[HA.out];simp only;rw[zB3 (zA3 (wO hl).1)];rfl
   rw[cJ hl]at H3;clear hl;generalize ixI (m.vars.map Va.name) x=vv at *;go_wp2_with fail;refine H3.mono ?_;rintro e w4 ⟨rfl,hg⟩;have yi:=aC yh hg;clear q0 q1 q2 q3 q4 x0 x1 yh hg H3;have hj:(0:Int)<=(j:Int):=by omega
   go_wp2;go_ret;exact⟨aF HF.out.symm,yi⟩
  | none=>
   have Qj:=zC2 (aD3.1 hl);rw[dF hl]at H3;clear hl;cases hz:ix (m.vars.map Va.name) x with
   | none=>
    have HF:Hid (sgl m p x=false):=by show _=_;unfold sgl;rw[HA.out];simp only;rw[Qj,lB hz];rfl
    rw[dF hz];clear hz Qj;go_wp2_with fail;refine H3.mono ?_;rintro e w4 ⟨rfl,hg⟩;have yi:=aC yh hg;clear q0 q1 q2 q3 q4 x0 x1 yh hg H3;go_wp2;go_ret;exact⟨aF HF.out.symm,yi⟩
   | some i=>
    obtain⟨y,hy,_⟩:=lT hz;have HF:Hid (sgl m p x=decide (y.size=0)):=by show _=_;unfold sgl;rw[HA.out];simp only;rw[Qj,oI hz hy];simp
    have Wk:i<nv:=by have:=iG hy;rw[HNV.out]at this;exact this
    obtain⟨b,off,ys,rfl,Ky,Ab⟩:=aW.cellsAt HV.out (show(m.vars.map Va.fl)[i]?=some y.fl by rw[zA2,hy];rfl);obtain⟨y0',us',rfl,_,y1,us1,rfl,rfl,rfl⟩:=Ky;have HR:Hid (w.cell? ⟨b,off+i*2+1,none⟩=some (.int .i64 y.size)):=Ab 1 _ rfl;rw[cJ hz];clear hz Qj hy Ab;have Td:(0:Int)<=(i:Int):=by omega
    go_wp2_with fail;refine H3.mono ?_;rintro e w4 ⟨rfl,hg⟩;have yi:=aC yh hg;replace x0:=x0.below (aA hg) x0.lt;have k2:=x0.k 2;have r:=aB HR.out (aA yi);clear q0 q1 q2 q3 q4 x0 x1 yh hg H3;go_wp2;go_ret;exact⟨aF (by rw[HF.out];rfl),yi⟩
theorem oC (m:Mo)(p:Pr)(vs us:List Value)(w:World)(hm:aL w m.fl vs)(hp:aL w p.fl us)(a:Option Addr)(k c:Nat)(x:List Int)(hx:aV w a k x):
  Calls Tryz.prog 152 #[agg vs,agg us,.slice a k c] w fun e w'=>e=.returned (.bool (arq m p x))/\w.grownBy w' none:=by
 have Cq:=hm;have La:=hp;obtain⟨v0,_,rfl,_,v1,_,rfl,_,v2,_,rfl,hv,v3,_,rfl,_,rfl⟩:=hm;obtain⟨u0,_,rfl,_,u1,_,rfl,_,u2,_,rfl,hu,u3,_,rfl,_,u4,_,rfl,_,rfl⟩:=hp;obtain⟨av,cv,rfl,hV⟩:=hv.list;obtain⟨ap,cp,rfl,hP⟩:=hu.list;have hv9:=hV.len9;have Ub:=hP.len9;rw[zB2]at hv9 Ub;simp only[zB2]at Cq La ⊢;obtain⟨nv,Jr⟩:=zx (m.vars.length);obtain⟨np,Eu⟩:=zx (p.params.length);have HNV:=hid Jr.symm;have Px:=hid Eu.symm;rw[<-Jr]at Cq hv9 ⊢;rw[<-Eu]at La Ub ⊢;clear Jr Eu hv hu;refine M972 ?_;clear hV hP Cq La hx;intro HV HP HM HQ HX x0 x1 hgz y0;simp only[List.toArray]at x0 x1;rw[hgz]at x1;clear hgz;simp only[agg];go_enter Tryz.func152,Tryz.ntmps152;go_upto_region 1 with fail;generalize (w.alloc (.cells #[v0,v1,.slice av nv cv,v3] 86 (0,0))).alloc (.cells #[u0,u1,.slice ap np cp,u3,u4] 135 (0,0))=w1 at *;have H1:=rT p _ w1 (aL.below HQ.out (aA y0)) a k c x (aV.below HX.out (aA y0));simp only[agg,List.toArray]at H1;obtain⟨q0,q1,q2,q3,q4⟩:=x1.c5;go_wp2_with fail;refine M975 ?_;intro w2 hg yg;replace x0:=x0.below (aA hg) x0.lt;replace x1:=x1.below (aA hg) x1.lt;clear q0 q1 q2 q3 q4 y0 hg H1;have H2:=uF m _ w2 (aL.below HM.out (aA yg)) a k c x (aV.below HX.out (aA yg));simp only[agg,List.toArray]at H2;obtain⟨k0,k1,k2,k3⟩:=x0.c4;go_wp2_with fail;refine H2.mono ?_;rintro e w3 ⟨rfl,hg⟩;have yh:=aC yg hg;replace x0:=x0.below (aA hg) x0.lt;replace x1:=x1.below (aA hg) x1.lt;clear k0 k1 k2 k3 yg hg H2;have k2:=x0.k 2;have q2:=x1.k 2;clear x0 x1;have Cc:∀(bp:Bool),(wC p x == some true)=bp->(bp=true\/∃A:Int,A=ixI (m.vars.map Va.name) x/\((A = -1/\nC m x=none)\/∃i y b off,A=(i:Nat)/\i<nv/\av=some ⟨b,off,none⟩/\nC m x=some y.size/\w3.cell? ⟨b,off+i*2+1,none⟩=some (.int .i64 (Va.size y)))):=by
  intro bp _;cases bp
  .
   right;refine⟨_,rfl, ?_⟩;cases hz:ix (m.vars.map Va.name) x with
   | none=>exact .inl ⟨dF hz,lB hz⟩| some i=>
    obtain⟨y,hy,_⟩:=lT hz;obtain⟨b,off,ys,e,Ky,Ab⟩:=aW.cellsAt HV.out (show(m.vars.map Va.fl)[i]?=some y.fl by rw[zA2,hy];rfl);obtain⟨y0',us',rfl,_,y1,us1,rfl,rfl,rfl⟩:=Ky;exact .inr ⟨i,y,b,off,cJ hz,by have:=iG hy;rw[HNV.out]at this;exact this,e,oI hz hy,aB (Ab 1 _ rfl) (aA yh)⟩
  .
   exact .inl rfl
 cases hi:ix (p.params.map Pa.name) x with
 | some i=>
  obtain⟨y,hy,_⟩:=lT hi;have Ms:=qI hi hy;have Wk:i<np:=by have:=iG hy;rw[Px.out]at this;exact this
  obtain⟨b,off,ys,rfl,Ky,Ab⟩:=aW.cellsAt HP.out (show(p.params.map Pa.fl)[i]?=some y.fl by rw[zA2,hy];rfl);obtain⟨y0',us',rfl,_,y1,us1,rfl,rfl,rfl⟩:=Ky;have r:=aB (Ab 1 _ rfl) (aA yh);rw[cJ hi];have Td:(0:Int)<=(i:Int):=by omega
  clear hi hy Ab;cases hya:y.arr
  .
   rw[hya]at r Ms;exact QA23
  .
   rw[hya]at r Ms;have HF:Hid (arq m p x=true):=by show _=_;unfold arq;rw[Ms];rfl
   clear Cc Ms;generalize ixI (m.vars.map Va.name) x=vv at *;go_wp2;go_ret;exact⟨aF HF.out.symm,yh⟩
 | none=>
  have Ms:=mP hi;rw[dF hi];clear hi;exact QA23
end
end Go.Proofs.YtcbhdhmhidpdgaaGreatDoor

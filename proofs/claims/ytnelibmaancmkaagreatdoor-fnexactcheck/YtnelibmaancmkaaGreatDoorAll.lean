import Derived.Test.YtnelibmaancmkaaGreatDoorTreeSz
import Derived.Deep.Cut
import Derived.Deep.CutRange
namespace Go.Proofs.YtnelibmaancmkaaGreatDoor
set_option maxHeartbeats 40000000
open Go.RowKit
set_option linter.unusedVariables false
set_option linter.unusedSimpArgs false
set_option maxRecDepth 100000
theorem V28{p:Prop}(h:p:=by simpa using h):p:=h
theorem V85{p:Prop}(h:p:=by simpa using hj):p:=h
theorem aO.len {w:World}:∀{r:List Fl} {vs:List Value},aO w r vs->vs.length=r.length:=by
 intro r
 induction r with
 | nil=>intro vs h;rw[show vs=[] from h];rfl
 | cons f r ih=>intro vs h;obtain⟨v,us,rfl,_,h2⟩:=h;simp[ih h2]
theorem aP (w:World)(row:Option Nat):w.grownBy w row:=⟨rfl,rfl,rfl,Nat.le_refl _,fun _ _ _=>rfl⟩
theorem aD {a b c:World}{row:Option Nat}(h:a.grownBy b row)(k:b.grownBy c row):a.grownBy c row:=
 ⟨k.os.trans h.os,k.tape.trans h.tape,k.output.trans h.output,Nat.le_trans h.size k.size,fun i hi hr=>(k.block i (Nat.lt_of_lt_of_le hi h.size) hr).trans (h.block i hi hr)⟩
theorem aA {a b:World}(h:a.grownBy b none):Below a.heap.size a b:=⟨h.os,h.tape,h.output,h.size,fun k hk=>h.block k hk V15⟩
theorem aI {a b:World}(h:Below a.heap.size a b)(row:Option Nat):a.grownBy b row:=⟨h.os,h.tape,h.output,h.size,fun k hk _=>h.block k hk⟩
theorem aC (w:World)(x:Obj)(row:Option Nat):w.grownBy (w.alloc x) row:=aI ((Below.refl _ _).alloc (Nat.le_refl _) x) row
theorem bU {a b:World}(h:a.grownBy b none)(row:Option Nat):a.grownBy b row:=⟨h.os,h.tape,h.output,h.size,fun k hk _=>h.block k hk V15⟩
def Ent (C:Nat):Prop:=∀args w,Sem.run Tryz.prog (callFunc C args) w=.ok (.enter C args) w
def mU (w:World)(a:Option Addr)(o:Nat)(vs:List Value):Prop:=∃b off,a=some ⟨b,off,none⟩/\∀i v,vs[i]?=some v->w.cell? ⟨b,off+o+i,none⟩=some v
theorem mU.below {w w':World}{a:Option Addr}{o:Nat}{vs:List Value}(h:mU w a o vs)(hb:Below w.heap.size w w'):mU w' a o vs:=by
 obtain⟨b,off,e,hc⟩:=h
 exact⟨b,off,e,fun i v hv=>aB (hc i v hv) hb⟩
theorem iM {w0 wr:World}{a:Option Addr}{c K j:Nat}{rs:List (List Fl)}{r:List Fl}{vs:List Value}(hr:aS w0 a c K rs)(hb:Below w0.heap.size w0 wr)(hj:rs[j]?=some r)(hlen:vs.length=r.length)(hc:mU wr a (j*K) vs):aO w0 r vs:=by
 obtain⟨b,off,rfl,hc⟩:=hc;obtain⟨vs0,h0,hc0⟩:=(hr.el hj).vals;have Ao:vs0.length=r.length:=h0.len
 have:vs=vs0:=by
  apply List.ext_getElem?
  intro i
  by_cases hi:i<r.length
  .
   have h1:=hc0 i _ (List.getElem?_eq_getElem (by omega:i<vs0.length))
   have h2:=hc i _ (List.getElem?_eq_getElem (by omega:i<vs.length))
   have h3:=aB h1 hb;rw[h2]at h3
   rw[List.getElem?_eq_getElem (by omega:i<vs.length),List.getElem?_eq_getElem (by omega:i<vs0.length)]
   exact h3
  .
   rw[List.getElem?_eq_none V6,List.getElem?_eq_none V6]
 rw[this];exact h0
structure aGt (s:Bool) (G:Nat) (caps:Array Value) (row:Option Nat) (mkv:List Value->Value) (a:Option Addr) (c K:Nat) (rs:List (List Fl)) (P:Nat->Bool) (Inv Q:Nat->World->Prop):Prop where
 ent:Ent G
 rows:∀j wr,Inv j wr->aS wr a c K rs
 each:∀r ∈ rs,r.length=K
 go:∀j r wr vs,rs[j]?=some r->Inv j wr->aO wr r vs->mU wr a (j*K) vs->Calls Tryz.prog G (#[mkv vs]++caps) wr fun e w'=>e=.returned (.bool (P j))/\wr.grownBy w' row/\(P j=(!s)->Inv (j+1) w')/\(P j=s->Q j w')
structure aJf (s:Bool) (n:Nat) (P:Nat->Bool) (Inv Q:Nat->World->Prop) (b:Bool) (w:World):Prop where
 yes:b=true->∃j,j<n/\P j=s/\(∀i,i<j->P i=(!s))/\Q j w
 no:b=false->(∀i,i<n->P i=(!s))/\Inv n w
def one (vs:List Value):Value:=vs[0]?.getD undef
def agg (vs:List Value):Value:=.agg vs.toArray
theorem cK {f : FuncId}{fn : Func}{c : Code}(hf : Tryz.prog.funcs[f]? = some fn)(hname : (fn.name == "runtime.NumGoroutine") = false)(hb : fn.body = some c) : Ent f := by
 intro args w
 have h1 : fn.name ≠ "runtime.NumGoroutine" := by simpa using hname
 simp[callFunc,go_sem,hf,h1,hb]
theorem nJ {n:Nat}{P:Nat->Bool}{Inv Q:Nat->World->Prop}{b:Bool}{w:World}(h:aJf true n P Inv Q b w):b=(List.range n).any P:=by
 cases b with
 | true=>
  obtain⟨j,hj,hp,_⟩:=h.yes rfl
  symm;rw[List.any_eq_true]
  exact⟨j,by simpa using hj,hp⟩
 | false=>
  have:=(h.no rfl).1
  symm;rw[List.any_eq_false]
  intro x hx
  simpa using this x (by simpa using hx)
theorem fV {n:Nat}{P:Nat->Bool}{Inv Q:Nat->World->Prop}{b:Bool}{w:World}(h:aJf false n P Inv Q (!b) w):b=(List.range n).all P:=by
 cases b with
 | true=>
  have:=(h.no rfl).1
  symm;rw[List.all_eq_true]
  intro x hx
  simpa using this x (by simpa using hx)
 | false=>
  obtain⟨j,hj,hp,_⟩:=h.yes rfl
  symm;rw[List.all_eq_false]
  exact⟨j,by simpa using hj,by simp[hp]⟩
theorem lM {α:Type}(l:List α)(d:α)(p:α->Bool):((List.range l.length).any fun j=>p (l[j]?.getD d))=l.any p:=by
 rw[Bool.eq_iff_iff,List.any_eq_true,List.any_eq_true]
 constructor
 .
  rintro⟨j,hj,hp⟩
  have hj:j<l.length:=by simpa using hj
  rw[List.getElem?_eq_getElem hj]at hp;exact⟨l[j],List.getElem_mem hj,hp⟩
 .
  rintro⟨x,hx,hp⟩;obtain⟨j,hj,rfl⟩:=List.mem_iff_getElem.1 hx
  exact⟨j,by simpa using hj,by rw[List.getElem?_eq_getElem hj];exact hp⟩
theorem fM {α:Type}(l:List α)(d:α)(p:α->Bool):((List.range l.length).all fun j=>p (l[j]?.getD d))=l.all p:=by
 rw[Bool.eq_iff_iff,List.all_eq_true,List.all_eq_true]
 constructor
 .
  intro h x hx;obtain⟨j,hj,rfl⟩:=List.mem_iff_getElem.1 hx
  have:=h j V85
  rwa [List.getElem?_eq_getElem hj]at this
 .
  intro h j hj
  have hj:j<l.length:=by simpa using hj
  rw[List.getElem?_eq_getElem hj];exact h _ (List.getElem_mem hj)
theorem aMx {α:Type}{l:List α}(h:l.length=1):∃v0,l=[v0]:=by
 match l,h with
 | [v0],_=>exact⟨v0,rfl⟩
theorem aMw {α:Type}{l:List α}(h:l.length=2):∃v0 v1,l=[v0,v1]:=by
 match l,h with
 | [v0,v1],_=>exact⟨v0,v1,rfl⟩
theorem aMv {α:Type}{l:List α}(h:l.length=3):∃v0 v1 v2,l=[v0,v1,v2]:=by
 match l,h with
 | [v0,v1,v2],_=>exact⟨v0,v1,v2,rfl⟩
theorem aMu {α:Type}{l:List α}(h:l.length=5):∃v0 v1 v2 v3 v4,l=[v0,v1,v2,v3,v4]:=by
 match l,h with
 | [v0,v1,v2,v3,v4],_=>exact⟨v0,v1,v2,v3,v4,rfl⟩
theorem aMt {α:Type}{l:List α}(h:l.length=6):∃v0 v1 v2 v3 v4 v5,l=[v0,v1,v2,v3,v4,v5]:=by
 match l,h with
 | [v0,v1,v2,v3,v4,v5],_=>exact⟨v0,v1,v2,v3,v4,v5,rfl⟩
def aMp (F K:Nat)(mkv:List Value->Value):Prop:=∀(C:Nat) (caps:Array Value) (row:Option Nat) (a:Option Addr) (n c:Nat) (rs:List (List Fl)) (P:Nat->Bool) (Inv Q:Nat->World->Prop) (w:World),aGt true C caps row mkv a c K rs P Inv Q->rs.length=n->Inv 0 w →
 Calls Tryz.prog F #[.slice a n c,.func (.func C) #[] caps] w fun e w'=>∃r:Int,e=.returned (.int .i64 r)/\w.grownBy w' row/\aJf true n P Inv Q (decide (0<=r)) w'
def aDm (F K:Nat)(mkv:List Value->Value):Prop:=∀(C:Nat) (caps:Array Value) (row:Option Nat) (a:Option Addr) (n c:Nat) (rs:List (List Fl)) (P:Nat->Bool) (Inv Q:Nat->World->Prop) (w:World),aGt true C caps row mkv a c K rs P Inv Q->rs.length=n->Inv 0 w →
 Calls Tryz.prog F #[.slice a n c,.func (.func C) #[] caps] w fun e w'=>∃r:Bool,e=.returned (.bool r)/\w.grownBy w' row/\aJf true n P Inv Q r w'
theorem oS:∀p ∈ ([
  (237,1,one),
  (195,1,one),
  (223,2,agg),
  (190,2,agg),
  (203,2,agg),
  (181,2,agg),
  (191,5,agg),
  (265,5,agg),
  (251,6,agg),
  ]:List (Nat × Nat × (List Value->Value))),aMp p.1 p.2.1 p.2.2:=by
 simp only[List.forall_mem_cons]
 repeat' apply And.intro
 all_goals first|(intro _ h;cases h;done)|skip
 all_goals
  intro C caps row a n c rs P Inv Q w H hn h0
  have Hd:Hid (rs.length=n):=hn
  have HA:Hid _:=H
  have hC:Ent C:=H.ent
  have Ao:=H.rows 0 w h0
  have hcn:n<=9223372036854775807:=by have h1:=Ao.cap;have h2:=Ao.most;unfold maxLen at h2;omega
  have H0:Hid (Inv 0 w):=h0
  clear H h0
  rcases Nat.eq_zero_or_pos n with h0|Am
  .
   subst h0;clear Ao hn
   first
   | go_enter Tryz.func237,Tryz.ntmps237
   | go_enter Tryz.func195,Tryz.ntmps195
   | go_enter Tryz.func223,Tryz.ntmps223
   | go_enter Tryz.func190,Tryz.ntmps190
   | go_enter Tryz.func203,Tryz.ntmps203
   | go_enter Tryz.func181,Tryz.ntmps181
   | go_enter Tryz.func191,Tryz.ntmps191
   | go_enter Tryz.func265,Tryz.ntmps265
   | go_enter Tryz.func251,Tryz.ntmps251
   go_wp2_with fail;refine wp_loop_rounds 1 ?_;rw[rounds_succ];go_wp2_with fail;go_ret
   exact⟨_,rfl,aP _ _,⟨by simp,fun _=>⟨by simp,H0.out⟩⟩⟩
  .
   obtain⟨b,off,rfl⟩:=Ao.addr V19;clear Ao hn
   first
   | go_enter Tryz.func237,Tryz.ntmps237
   | go_enter Tryz.func195,Tryz.ntmps195
   | go_enter Tryz.func223,Tryz.ntmps223
   | go_enter Tryz.func190,Tryz.ntmps190
   | go_enter Tryz.func203,Tryz.ntmps203
   | go_enter Tryz.func181,Tryz.ntmps181
   | go_enter Tryz.func191,Tryz.ntmps191
   | go_enter Tryz.func265,Tryz.ntmps265
   | go_enter Tryz.func251,Tryz.ntmps251
   go_wp2_with fail
   go_loopw [5,8] (fun _ i wr=>∃j:Nat,j<=n/\i=.int .i64 j/\Hid (∀i,i<j->P i=false)/\Hid (w.grownBy wr row)/\Hid (Inv j wr)) (fun _ i _=>n-(intOf i).toNat)
   case atStart=>exact⟨0,Nat.zero_le _,rfl,by show ∀_,_;omega,aP _ _,H0⟩
   case round=>
    obtain⟨j,hj,rfl,hno,Bk,hinv⟩:=hrel
    by_cases Ai:j<n
    .
     obtain⟨r,hr⟩:∃r,rs[j]?=some r:=⟨rs[j]'(by rw[Hd.out];exact Ai),List.getElem?_eq_getElem _⟩
     obtain⟨vs,Ad,Ab⟩:=((aGt.rows HA.out j wr hinv.out).el hr).vals;have HC:=aGt.go HA.out j r wr vs hr hinv.out Ad ⟨b,off,rfl,Ab⟩;have hlen:vs.length=_:=(Ad.len).trans (aGt.each HA.out r (List.mem_of_getElem? hr))
     first
     | (obtain⟨v0,rfl⟩:=aMx hlen;have q0:wr.cell? ⟨b,off+j,none⟩=some v0:=(by have:=Ab 0 _ rfl;simpa using this))
     | (obtain⟨v0,v1,rfl⟩:=aMw hlen;have q0:wr.cell? ⟨b,off+j*2,none⟩=some v0:=Ab 0 _ rfl;have q1:wr.cell? ⟨b,off+j*2+1,none⟩=some v1:=Ab 1 _ rfl)
     | (obtain⟨v0,v1,v2,rfl⟩:=aMv hlen;have q0:wr.cell? ⟨b,off+j*3,none⟩=some v0:=Ab 0 _ rfl;have q1:wr.cell? ⟨b,off+j*3+1,none⟩=some v1:=Ab 1 _ rfl;have q2:wr.cell? ⟨b,off+j*3+2,none⟩=some v2:=Ab 2 _ rfl)
     | (obtain⟨v0,v1,v2,v3,v4,rfl⟩:=aMu hlen;have q0:wr.cell? ⟨b,off+j*5,none⟩=some v0:=Ab 0 _ rfl;have q1:wr.cell? ⟨b,off+j*5+1,none⟩=some v1:=Ab 1 _ rfl;have q2:wr.cell? ⟨b,off+j*5+2,none⟩=some v2:=Ab 2 _ rfl;have q3:wr.cell? ⟨b,off+j*5+3,none⟩=some v3:=Ab 3 _ rfl;have q4:wr.cell? ⟨b,off+j*5+4,none⟩=some v4:=Ab 4 _ rfl)
     | (obtain⟨v0,v1,v2,v3,v4,v5,rfl⟩:=aMt hlen;have q0:wr.cell? ⟨b,off+j*6,none⟩=some v0:=Ab 0 _ rfl;have q1:wr.cell? ⟨b,off+j*6+1,none⟩=some v1:=Ab 1 _ rfl;have q2:wr.cell? ⟨b,off+j*6+2,none⟩=some v2:=Ab 2 _ rfl;have q3:wr.cell? ⟨b,off+j*6+3,none⟩=some v3:=Ab 3 _ rfl;have q4:wr.cell? ⟨b,off+j*6+4,none⟩=some v4:=Ab 4 _ rfl;have q5:wr.cell? ⟨b,off+j*6+5,none⟩=some v5:=Ab 5 _ rfl)
     clear Ad hr;clear Ab;simp only[agg,one,List.getElem?_cons_zero,Option.getD_some]at HC;go_wp2_with fail;rw[hC,Oper.upon_enter];refine HC.mono ?_;rintro e w2 ⟨rfl,Be,hn2,hy2⟩
     have Aq:Hid (w.grownBy w2 row):=aD Bk.out Be
     have HN:Hid (P j=false->Inv (j+1) w2):=hn2
     have HY:Hid (P j=true->Q j w2):=hy2
     first|clear q0 q1 q2 q3 q4 q5|clear q0 q1 q2 q3 q4|clear q0 q1 q2|clear q0 q1|clear q0
     clear Be HC hn2 hy2
     by_cases he:P j=true
     .
      rw[he]
      have HS:Hid (P j=true):=he
      clear he;go_wp2_with fail;go_ret
      exact⟨_,rfl,Aq.out,⟨fun _=>⟨j,Ai,HS.out,hno.out,HY.out HS.out⟩,by simp⟩⟩
     .
      have he:=Bool.not_eq_true _ ▸ he;rw[he]
      have HS:Hid (P j=false):=he
      clear he;go_wp2_with fail;go_roundw
      case rel=>exact⟨j+1,by omega,by go_num,(show ∀i,i<j+1->P i=false from fun i hi=>(Nat.lt_or_ge i j).elim (fun h=>hno.out i h) (fun h=>(show j=i by omega) ▸ HS.out)),Aq,HN.out HS.out⟩
      case measure=>simp[intOf];omega
    .
     have:j=n:=V6
     subst this;go_wp2_with fail;go_ret
     exact⟨_,rfl,Bk.out,⟨by simp,fun _=>⟨hno.out,hinv.out⟩⟩⟩
theorem rE:∀p ∈ ([
  (221,1,one),
  (146,1,one),
  (192,2,agg),
  (136,2,agg),
  (185,2,agg),
  (129,2,agg),
  (138,5,agg),
  (252,5,agg),
  (238,6,agg),
  ]:List (Nat × Nat × (List Value->Value))),aDm p.1 p.2.1 p.2.2:=by
 simp only[List.forall_mem_cons]
 repeat' apply And.intro
 all_goals first|(intro _ h;cases h;done)|skip
 all_goals
  intro C caps row a n c rs P Inv Q w H hn h0
  first
  | (go_enter Tryz.func221,Tryz.ntmps221;have HI:=oS (237,1,one) V15 C caps row a n c rs P Inv Q w H hn h0)
  | (go_enter Tryz.func146,Tryz.ntmps146;have HI:=oS (195,1,one) V15 C caps row a n c rs P Inv Q w H hn h0)
  | (go_enter Tryz.func192,Tryz.ntmps192;have HI:=oS (223,2,agg) V15 C caps row a n c rs P Inv Q w H hn h0)
  | (go_enter Tryz.func136,Tryz.ntmps136;have HI:=oS (190,2,agg) V15 C caps row a n c rs P Inv Q w H hn h0)
  | (go_enter Tryz.func185,Tryz.ntmps185;have HI:=oS (203,2,agg) V15 C caps row a n c rs P Inv Q w H hn h0)
  | (go_enter Tryz.func129,Tryz.ntmps129;have HI:=oS (181,2,agg) V15 C caps row a n c rs P Inv Q w H hn h0)
  | (go_enter Tryz.func138,Tryz.ntmps138;have HI:=oS (191,5,agg) V15 C caps row a n c rs P Inv Q w H hn h0)
  | (go_enter Tryz.func252,Tryz.ntmps252;have HI:=oS (265,5,agg) V15 C caps row a n c rs P Inv Q w H hn h0)
  | (go_enter Tryz.func238,Tryz.ntmps238;have HI:=oS (251,6,agg) V15 C caps row a n c rs P Inv Q w H hn h0)
  clear H h0 hn;go_wp2_with fail;refine HI.mono ?_;rintro e w2 ⟨r,rfl,hr,hb⟩;go_wp2_with fail;go_ret;exact⟨_,rfl,hr,hb⟩
theorem vE:aDm 221 1 one:=rE (221,1,one) V15
theorem oV:aDm 146 1 one:=rE (146,1,one) V15
theorem rF:aDm 192 2 agg:=rE (192,2,agg) V15
theorem vD:aDm 136 2 agg:=rE (136,2,agg) V15
theorem qZ:aMp 203 2 agg:=oS (203,2,agg) V15
theorem nH:aDm 185 2 agg:=rE (185,2,agg) V15
theorem aCd:aMp 181 2 agg:=oS (181,2,agg) V15
theorem tG:aDm 129 2 agg:=rE (129,2,agg) V15
theorem tF:aDm 138 5 agg:=rE (138,5,agg) V15
theorem nA:aDm 252 5 agg:=rE (252,5,agg) V15
theorem tE:aDm 238 6 agg:=rE (238,6,agg) V15
def aJi (A K:Nat)(mkv:List Value->Value)(X:TypeId):Prop:=∀(T:TypeId),T=X->∀(G:Nat) (caps:Array Value) (vs:List Value) (g:Nat) (P:Bool) (R:World->Prop) (w:World),vs.length=K->w.cell? ⟨g,0,none⟩=some (.func (.func G) #[] caps)->Ent G →
 (∀w1,w.grownBy w1 none->Calls Tryz.prog G (#[mkv vs]++caps) w1 fun e w'=>e=.returned (.bool P)/\R w')->Calls Tryz.prog A #[mkv vs,.pointer (some ⟨g,0,none⟩)] w fun e w'=>e=.returned (.bool (!P))/\R w'
def AlB (F B K:Nat)(mkv:List Value->Value):Prop:=∀(G:Nat) (caps:Array Value) (row:Option Nat) (a:Option Addr) (n c:Nat) (rs:List (List Fl)) (P:Nat->Bool) (Inv Q:Nat->World->Prop) (w:World),
 aGt false G caps row mkv a c K rs P Inv Q->rs.length=n->Inv 0 w->(∀j w w',Inv j w->w.grownBy w' none->Inv j w')->(∀k,row=some k->k<w.heap.size)->Ent B →
 Calls Tryz.prog F #[.slice a n c,.func (.func G) #[] caps] w fun e w'=>∃r:Bool,e=.returned (.bool r)/\w.grownBy w' row/\aJf false n P Inv Q (!r) w'
def aNy (F A K C:Nat)(mkv:List Value->Value)(X FT:TypeId):Prop:=aDm C K mkv->aJi A K mkv X->∀(T:TypeId) (B:Nat),T=FT->B=A->AlB F B K mkv
theorem oN:∀p ∈ ([
  (193,2,128),
  (137,2,125),
  (186,2,104),
  (130,2,79),
  (139,5,72),
  (253,5,135),
  (239,6,131),
  ]:List (Nat × Nat × TypeId)),aJi p.1 p.2.1 agg p.2.2:=by
 simp only[List.forall_mem_cons]
 repeat' apply And.intro
 all_goals first|(intro _ h;cases h;done)|skip
 all_goals
  intro T hT G caps vs g P R w hl hg hG H
  first
  | (obtain⟨v0,v1,rfl⟩:=aMw hl;have H1:=H _ (aC w (.cells #[v0,v1] T (0,0)) none);have g1:=aB hg (show Below w.heap.size w (w.alloc (.cells #[v0,v1] T (0,0))) from(Below.refl _ _).alloc (Nat.le_refl _) _);have q0:(w.alloc (.cells #[v0,v1] T (0,0))).cell? ⟨w.heap.size,0,none⟩=some v0:=aN w T #[v0,v1] 0 _ rfl;have q1:(w.alloc (.cells #[v0,v1] T (0,0))).cell? ⟨w.heap.size,1,none⟩=some v1:=aN w T #[v0,v1] 1 _ rfl;obtain⟨w1,hw1⟩:∃w1,w.alloc (.cells #[v0,v1] T (0,0))=w1:=⟨_,rfl⟩;rw[hw1]at H1 g1 q0 q1)
  | (obtain⟨v0,v1,v2,rfl⟩:=aMv hl;have H1:=H _ (aC w (.cells #[v0,v1,v2] T (0,0)) none);have g1:=aB hg (show Below w.heap.size w (w.alloc (.cells #[v0,v1,v2] T (0,0))) from(Below.refl _ _).alloc (Nat.le_refl _) _);have q0:(w.alloc (.cells #[v0,v1,v2] T (0,0))).cell? ⟨w.heap.size,0,none⟩=some v0:=aN w T #[v0,v1,v2] 0 _ rfl;have q1:(w.alloc (.cells #[v0,v1,v2] T (0,0))).cell? ⟨w.heap.size,1,none⟩=some v1:=aN w T #[v0,v1,v2] 1 _ rfl;have q2:(w.alloc (.cells #[v0,v1,v2] T (0,0))).cell? ⟨w.heap.size,2,none⟩=some v2:=aN w T #[v0,v1,v2] 2 _ rfl;obtain⟨w1,hw1⟩:∃w1,w.alloc (.cells #[v0,v1,v2] T (0,0))=w1:=⟨_,rfl⟩;rw[hw1]at H1 g1 q0 q1 q2)
  | (obtain⟨v0,v1,v2,v3,v4,rfl⟩:=aMu hl;have H1:=H _ (aC w (.cells #[v0,v1,v2,v3,v4] T (0,0)) none);have g1:=aB hg (show Below w.heap.size w (w.alloc (.cells #[v0,v1,v2,v3,v4] T (0,0))) from(Below.refl _ _).alloc (Nat.le_refl _) _);have q0:(w.alloc (.cells #[v0,v1,v2,v3,v4] T (0,0))).cell? ⟨w.heap.size,0,none⟩=some v0:=aN w T #[v0,v1,v2,v3,v4] 0 _ rfl;have q1:(w.alloc (.cells #[v0,v1,v2,v3,v4] T (0,0))).cell? ⟨w.heap.size,1,none⟩=some v1:=aN w T #[v0,v1,v2,v3,v4] 1 _ rfl;have q2:(w.alloc (.cells #[v0,v1,v2,v3,v4] T (0,0))).cell? ⟨w.heap.size,2,none⟩=some v2:=aN w T #[v0,v1,v2,v3,v4] 2 _ rfl;have q3:(w.alloc (.cells #[v0,v1,v2,v3,v4] T (0,0))).cell? ⟨w.heap.size,3,none⟩=some v3:=aN w T #[v0,v1,v2,v3,v4] 3 _ rfl;have q4:(w.alloc (.cells #[v0,v1,v2,v3,v4] T (0,0))).cell? ⟨w.heap.size,4,none⟩=some v4:=aN w T #[v0,v1,v2,v3,v4] 4 _ rfl;obtain⟨w1,hw1⟩:∃w1,w.alloc (.cells #[v0,v1,v2,v3,v4] T (0,0))=w1:=⟨_,rfl⟩;rw[hw1]at H1 g1 q0 q1 q2 q3 q4)
  | (obtain⟨v0,v1,v2,v3,v4,v5,rfl⟩:=aMt hl;have H1:=H _ (aC w (.cells #[v0,v1,v2,v3,v4,v5] T (0,0)) none);have g1:=aB hg (show Below w.heap.size w (w.alloc (.cells #[v0,v1,v2,v3,v4,v5] T (0,0))) from(Below.refl _ _).alloc (Nat.le_refl _) _);have q0:(w.alloc (.cells #[v0,v1,v2,v3,v4,v5] T (0,0))).cell? ⟨w.heap.size,0,none⟩=some v0:=aN w T #[v0,v1,v2,v3,v4,v5] 0 _ rfl;have q1:(w.alloc (.cells #[v0,v1,v2,v3,v4,v5] T (0,0))).cell? ⟨w.heap.size,1,none⟩=some v1:=aN w T #[v0,v1,v2,v3,v4,v5] 1 _ rfl;have q2:(w.alloc (.cells #[v0,v1,v2,v3,v4,v5] T (0,0))).cell? ⟨w.heap.size,2,none⟩=some v2:=aN w T #[v0,v1,v2,v3,v4,v5] 2 _ rfl;have q3:(w.alloc (.cells #[v0,v1,v2,v3,v4,v5] T (0,0))).cell? ⟨w.heap.size,3,none⟩=some v3:=aN w T #[v0,v1,v2,v3,v4,v5] 3 _ rfl;have q4:(w.alloc (.cells #[v0,v1,v2,v3,v4,v5] T (0,0))).cell? ⟨w.heap.size,4,none⟩=some v4:=aN w T #[v0,v1,v2,v3,v4,v5] 4 _ rfl;have q5:(w.alloc (.cells #[v0,v1,v2,v3,v4,v5] T (0,0))).cell? ⟨w.heap.size,5,none⟩=some v5:=aN w T #[v0,v1,v2,v3,v4,v5] 5 _ rfl;obtain⟨w1,hw1⟩:∃w1,w.alloc (.cells #[v0,v1,v2,v3,v4,v5] T (0,0))=w1:=⟨_,rfl⟩;rw[hw1]at H1 g1 q0 q1 q2 q3 q4 q5)
  subst hT;clear H hg hl;simp only[agg]at H1 ⊢
  first
  | go_enter Tryz.func193,Tryz.ntmps193
  | go_enter Tryz.func137,Tryz.ntmps137
  | go_enter Tryz.func186,Tryz.ntmps186
  | go_enter Tryz.func130,Tryz.ntmps130
  | go_enter Tryz.func139,Tryz.ntmps139
  | go_enter Tryz.func253,Tryz.ntmps253
  | go_enter Tryz.func239,Tryz.ntmps239
  go_upto_region 1 with fail
  try rw[hw1]
  clear hw1;go_wp2_with fail;rw[hG,Oper.upon_enter];refine H1.mono ?_;rintro e w2 ⟨rfl,hR⟩
  first|clear g1 q0 q1 q2 q3 q4 q5|clear g1 q0 q1 q2 q3 q4|clear g1 q0 q1 q2|clear g1 q0 q1
  go_wp2_with fail;go_ret;exact⟨rfl,hR⟩
theorem aBx:∀p ∈ ([
  (222,3),
  (194,22),
  ]:List (Nat × TypeId)),aJi p.1 1 one p.2:=by
 simp only[List.forall_mem_cons]
 repeat' apply And.intro
 all_goals first|(intro _ h;cases h;done)|skip
 all_goals
  intro T hT G caps vs g P R w hl hg hG H;obtain⟨v0,rfl⟩:=aMx hl;have H1:=H w (aP w none);clear H hl hT;simp only[one,List.getElem?_cons_zero,Option.getD_some]at H1 ⊢
  first
  | go_enter Tryz.func222,Tryz.ntmps222
  | go_enter Tryz.func194,Tryz.ntmps194
  go_wp2_with fail;rw[hG,Oper.upon_enter];refine H1.mono ?_;rintro e w2 ⟨rfl,hR⟩;clear hg;go_wp2_with fail;go_ret;exact⟨rfl,hR⟩
theorem rN:∀p ∈ ([
  (187,222,1,221,one,3,172),
  (144,194,1,146,one,22,199),
  (141,193,2,192,agg,128,197),
  (85,137,2,136,agg,125,150),
  (132,186,2,185,agg,104,192),
  (81,130,2,129,agg,79,108),
  (89,139,5,138,agg,72,152),
  (240,253,5,252,agg,135,278),
  (224,239,6,238,agg,131,265),
  ]:List (Nat × Nat × Nat × Nat × (List Value->Value) × TypeId × TypeId)),aNy p.1 p.2.1 p.2.2.1 p.2.2.2.1 p.2.2.2.2.1 p.2.2.2.2.2.1 p.2.2.2.2.2.2:=by
 simp only[List.forall_mem_cons]
 repeat' apply And.intro
 all_goals first|(intro _ h;cases h;done)|skip
 all_goals
  intro hcx hone T B hT hB G caps row a n c rs P Inv Q w H hn h0 At hrow hE;have x0:=aN w T #[.func (.func G) #[] caps] 0 _ rfl
  have hk:some w.heap.size ≠ row:=fun h=>Nat.lt_irrefl _ (hrow _ h.symm)
  have HC:=hcx B #[.pointer (some ⟨w.heap.size,0,none⟩)] row a n c rs (fun j=>!P j) (fun j wr=>Inv j wr/\wr.cell? ⟨w.heap.size,0,none⟩=some (.func (.func G) #[] caps)) Q (w.alloc (.cells #[.func (.func G) #[] caps] T (0,0))) (by
   refine⟨hE,fun j wr h=>H.rows j wr h.1,H.each, ?_⟩
   intro j r wr vs hr hi Ad hca;have hlen:=(Ad.len).trans (H.each r (List.mem_of_getElem? hr));subst hB
   have h1:=hone _ rfl G caps vs w.heap.size (P j) (fun w'=>wr.grownBy w' row/\(P j=true->Inv (j+1) w'/\w'.cell? ⟨w.heap.size,0,none⟩=some (.func (.func G) #[] caps))/\(P j=false->Q j w')) wr hlen hi.2 H.ent ?_
   .
    refine h1.mono ?_;rintro e w' ⟨rfl,h2,h3,h4⟩
    refine⟨rfl,h2,fun h=>h3 V28,fun h=>h4 V28⟩
   .
    intro w1 hw1;refine(H.go j r w1 vs hr (At _ _ _ hi.1 hw1) (Ad.below (aA hw1)) (hca.below (aA hw1))).mono ?_;rintro e w' ⟨rfl,h2,h3,h4⟩
    have h5:wr.grownBy w' row:=aD (bU hw1 row) h2
    refine⟨rfl,h5,fun h=>⟨h3 h, ?_⟩,h4⟩
    have Ai:=World.block_lt_of_cell? wr _ hi.2;rw[World.cell?_of_block (a:=⟨w.heap.size,0,none⟩) (h5.block _ Ai hk)]
    exact hi.2) hn ⟨At _ _ _ h0 (aC w _ none),x0⟩
  clear H hrow At hn h0 hcx hone;subst hT hB
  first
  | go_enter Tryz.func187,Tryz.ntmps187
  | go_enter Tryz.func144,Tryz.ntmps144
  | go_enter Tryz.func141,Tryz.ntmps141
  | go_enter Tryz.func85,Tryz.ntmps85
  | go_enter Tryz.func132,Tryz.ntmps132
  | go_enter Tryz.func81,Tryz.ntmps81
  | go_enter Tryz.func89,Tryz.ntmps89
  | go_enter Tryz.func240,Tryz.ntmps240
  | go_enter Tryz.func224,Tryz.ntmps224
  go_wp2_with fail;refine HC.mono ?_;rintro e w2 ⟨r,rfl,Be,ht⟩
  have ht2:aJf false n P Inv Q r w2:=⟨fun h=>by
    obtain⟨j,h1,h2,h3,h4⟩:=ht.yes h
    exact⟨j,h1,by simpa using h2,fun i hi=>by simpa using h3 i hi,h4⟩,fun h=>⟨fun i hi=>by simpa using (ht.no h).1 i hi,(ht.no h).2.1⟩⟩
  clear ht HC;go_wp2_with fail;go_ret
  exact⟨_,rfl,aD (aC w _ row) Be,by simpa using ht2⟩
theorem aLd:AlB 187 222 1 one:=rN (187,222,1,221,one,3,172) V15 vE (aBx (222,3) V15) _ _ rfl rfl
theorem aGq:AlB 144 194 1 one:=rN (144,194,1,146,one,22,199) V15 oV (aBx (194,22) V15) _ _ rfl rfl
theorem xE:AlB 141 193 2 agg:=rN (141,193,2,192,agg,128,197) V15 rF (oN (193,2,128) V15) _ _ rfl rfl
theorem aGp:AlB 85 137 2 agg:=rN (85,137,2,136,agg,125,150) V15 vD (oN (137,2,125) V15) _ _ rfl rfl
theorem vJ:AlB 132 186 2 agg:=rN (132,186,2,185,agg,104,192) V15 nH (oN (186,2,104) V15) _ _ rfl rfl
theorem aJd:AlB 81 130 2 agg:=rN (81,130,2,129,agg,79,108) V15 tG (oN (130,2,79) V15) _ _ rfl rfl
theorem rM:AlB 89 139 5 agg:=rN (89,139,5,138,agg,72,152) V15 tF (oN (139,5,72) V15) _ _ rfl rfl
theorem aJe:AlB 240 253 5 agg:=rN (240,253,5,252,agg,135,278) V15 nA (oN (253,5,135) V15) _ _ rfl rfl
theorem aJc:AlB 224 239 6 agg:=rN (224,239,6,238,agg,131,265) V15 tE (oN (239,6,131) V15) _ _ rfl rfl
end Go.Proofs.YtnelibmaancmkaaGreatDoor

import Derived.Test.YtegkhlkjfeafjaaGreatDoorTreeSz
import Derived.Deep.Cut
import Derived.Deep.CutRange
namespace Go.Proofs.YtegkhlkjfeafjaaGreatDoor
set_option maxHeartbeats 40000000
open Go.RowKit
set_option linter.unusedVariables false
set_option linter.unusedSimpArgs false
set_option maxRecDepth 100000
theorem V28{p:Prop}(h:p:=by simpa using h):p:=h
theorem V85{p:Prop}(h:p:=by simpa using hj):p:=h
theorem M980{p q:Prop}(k:q)(h:Kx q->p:=by
 intro kQ
 have Hd:=hid hn
 have HA:=hid H
 have hC:=H.ent
 have hl0:=H.rows 0 w h0
 have hcn:n<=9223372036854775807:=by have h1:=hl0.cap;have h2:=hl0.most;unfold maxLen at h2;omega
 have H0:=hid h0
 revert H0;revert hcn;revert hl0;revert hC;revert HA;revert Hd
 exact kQ.o):p:=h ⟨k⟩
theorem aO.len {w:World}:∀{r:List Fl} {vs:List Value},aO w r vs->vs.length=r.length:=by
 intro r
 induction r with
 | nil=>intro vs h;rw[show vs=[] from h];rfl
 | cons f r ih=>intro vs h;obtain⟨v,us,rfl,_,h2⟩:=h;simp[ih h2]
theorem aN0 (w:World)(row:Option Nat):w.grownBy w row:=⟨rfl,rfl,rfl,zB0 _,fun _ _ _=>rfl⟩
theorem aD {a b c:World}{row:Option Nat}(h:a.grownBy b row)(k:b.grownBy c row):a.grownBy c row:=
 ⟨k.os.trans h.os,k.tape.trans h.tape,k.output.trans h.output,zF2 h.size k.size,fun i hi hr=>(k.block i (Nat.lt_of_lt_of_le hi h.size) hr).trans (h.block i hi hr)⟩
theorem aA {a b:World}(h:a.grownBy b none):Below a.heap.size a b:=⟨h.os,h.tape,h.output,h.size,fun k hk=>h.block k hk V15⟩
theorem aI {a b:World}(h:Below a.heap.size a b)(row:Option Nat):a.grownBy b row:=⟨h.os,h.tape,h.output,h.size,fun k hk _=>h.block k hk⟩
theorem aC (w:World)(x:Obj)(row:Option Nat):w.grownBy (w.alloc x) row:=aI ((zD2 _ _).alloc (zB0 _) x) row
theorem bU {a b:World}(h:a.grownBy b none)(row:Option Nat):a.grownBy b row:=⟨h.os,h.tape,h.output,h.size,fun k hk _=>h.block k hk V15⟩
def Ent (C:Nat):Prop:=∀args w,Sem.run Tryz.prog (callFunc C args) w=.ok (.enter C args) w
def mU (w:World)(a:Option Addr)(o:Nat)(vs:List Value):Prop:=∃b off,a=some ⟨b,off,none⟩/\∀i v,vs[i]?=some v->w.cell? ⟨b,off+o+i,none⟩=some v
theorem mU.below {w w':World}{a:Option Addr}{o:Nat}{vs:List Value}(h:mU w a o vs)(hb:Below w.heap.size w w'):mU w' a o vs:=by
 obtain⟨b,off,e,hc⟩:=h
 exact⟨b,off,e,fun i v hv=>aB (hc i v hv) hb⟩
theorem iM {w0 wr:World}{a:Option Addr}{c K j:Nat}{rs:List (List Fl)}{r:List Fl}{vs:List Value}(hr:aS w0 a c K rs)(hb:Below w0.heap.size w0 wr)(hj:rs[j]?=some r)(hlen:vs.length=r.length)(hc:mU wr a (j*K) vs):aO w0 r vs:=by
 obtain⟨b,off,rfl,hc⟩:=hc;obtain⟨vs0,h0,hc0⟩:=(hr.el hj).vals;have hl0:=h0.len
 have:vs=vs0:=by
  apply List.ext_getElem?
  intro i
  by_cases hi:i<r.length
  .
   have h1:=hc0 i _ (zA0 (by omega:i<vs0.length))
   have h2:=hc i _ (zA0 (by omega:i<vs.length))
   have h3:=aB h1 hb;rw[h2]at h3
   rw[zA0 (by omega:i<vs.length),zA0 (by omega:i<vs0.length)]
   exact h3
  .
   rw[List.getElem?_eq_none V6,List.getElem?_eq_none V6]
 rw[this];exact h0
structure aGt (s:Bool) (G:Nat) (caps:Array Value) (row:Option Nat) (mkv:List Value->Value) (a:Option Addr) (c K:Nat) (rs:List (List Fl)) (P:Nat->Bool) (Inv Q:Nat->World->Prop):Prop where
 ent:Ent G
 rows:∀j wr,Inv j wr->aS wr a c K rs
 each:∀r ∈ rs,r.length=K
 go:∀j r wr vs,rs[j]?=some r->Inv j wr->aO wr r vs->mU wr a (j*K) vs->Calls Tryz.prog G (#[mkv vs]++caps) wr fun e w'=>e=.returned (.bool (P j))/\wr.grownBy w' row/\(P j=(!s)->Inv (j+1) w')/\(P j=s->Q j w')
structure aJf (s:Bool) (n:Nat) (P:Nat->Bool) (Inv Q:Nat->World->Prop) (b:Bool) (w:World):Prop where
 yes:b=true->∃j,j<n/\P j=s/\(∀i,i<j->P i=(!s))/\Q j w
 no:b=false->(∀i,i<n->P i=(!s))/\Inv n w
def one (vs:List Value):Value:=vs[0]?.getD undef
def agg (vs:List Value):Value:=.agg vs.toArray
theorem cK {f : FuncId}{fn : Func}{c : Code}(hf : Tryz.prog.funcs[f]? = some fn)(hname : (fn.name == "runtime.NumGoroutine") = false)(hb : fn.body = some c) : Ent f := by
 intro args w
 have h1 : fn.name ≠ "runtime.NumGoroutine" := by simpa using hname
 simp[callFunc,go_sem,hf,h1,hb]
theorem nJ {n:Nat}{P:Nat->Bool}{Inv Q:Nat->World->Prop}{b:Bool}{w:World}(h:aJf true n P Inv Q b w):b=(List.range n).any P:=by
 cases b with
 | true=>
  obtain⟨j,hj,hp,_⟩:=h.yes rfl
  symm;rw[List.any_eq_true]
  exact⟨j,by simpa using hj,hp⟩
 | false=>
  have:=(h.no rfl).1
  symm;rw[List.any_eq_false]
  intro x hx
  simpa using this x (by simpa using hx)
theorem fV {n:Nat}{P:Nat->Bool}{Inv Q:Nat->World->Prop}{b:Bool}{w:World}(h:aJf false n P Inv Q (!b) w):b=(List.range n).all P:=by
 cases b with
 | true=>
  have:=(h.no rfl).1
  symm;rw[zF3]
  intro x hx
  simpa using this x (by simpa using hx)
 | false=>
  obtain⟨j,hj,hp,_⟩:=h.yes rfl
  symm;rw[zH3]
  exact⟨j,by simpa using hj,by simp[hp]⟩
theorem lM {α:Type}(l:List α)(d:α)(p:α->Bool):((List.range l.length).any fun j=>p (l[j]?.getD d))=l.any p:=by
 rw[Bool.eq_iff_iff,List.any_eq_true,List.any_eq_true]
 constructor
 .
  rintro⟨j,hj,hp⟩
  have hj:j<l.length:=by simpa using hj
  rw[zA0 hj]at hp;exact⟨l[j],List.getElem_mem hj,hp⟩
 .
  rintro⟨x,hx,hp⟩;obtain⟨j,hj,rfl⟩:=List.mem_iff_getElem.1 hx
  exact⟨j,by simpa using hj,by rw[zA0 hj];exact hp⟩
theorem fM {α:Type}(l:List α)(d:α)(p:α->Bool):((List.range l.length).all fun j=>p (l[j]?.getD d))=l.all p:=by
 rw[Bool.eq_iff_iff,zF3,zF3]
 constructor
 .
  intro h x hx;obtain⟨j,hj,rfl⟩:=List.mem_iff_getElem.1 hx
  have:=h j V85
  rwa [zA0 hj]at this
 .
  intro h j hj
  have hj:j<l.length:=by simpa using hj
  rw[zA0 hj];exact h _ (List.getElem_mem hj)
theorem aMx {α:Type}{l:List α}(h:l.length=1):∃v0,l=[v0]:=by
 match l,h with
 | [v0],_=>exact⟨v0,rfl⟩
theorem aMw {α:Type}{l:List α}(h:l.length=2):∃v0 v1,l=[v0,v1]:=by
 match l,h with
 | [v0,v1],_=>exact⟨v0,v1,rfl⟩
theorem aMv {α:Type}{l:List α}(h:l.length=3):∃v0 v1 v2,l=[v0,v1,v2]:=by
 match l,h with
 | [v0,v1,v2],_=>exact⟨v0,v1,v2,rfl⟩
theorem aMu {α:Type}{l:List α}(h:l.length=5):∃v0 v1 v2 v3 v4,l=[v0,v1,v2,v3,v4]:=by
 match l,h with
 | [v0,v1,v2,v3,v4],_=>exact⟨v0,v1,v2,v3,v4,rfl⟩
theorem aMt {α:Type}{l:List α}(h:l.length=6):∃v0 v1 v2 v3 v4 v5,l=[v0,v1,v2,v3,v4,v5]:=by
 match l,h with
 | [v0,v1,v2,v3,v4,v5],_=>exact⟨v0,v1,v2,v3,v4,v5,rfl⟩
def aMp (F K:Nat)(mkv:List Value->Value):Prop:=∀(C:Nat) (caps:Array Value) (row:Option Nat) (a:Option Addr) (n c:Nat) (rs:List (List Fl)) (P:Nat->Bool) (Inv Q:Nat->World->Prop) (w:World),aGt true C caps row mkv a c K rs P Inv Q->rs.length=n->Inv 0 w →
 Calls Tryz.prog F #[.slice a n c,.func (.func C) #[] caps] w fun e w'=>∃r:Int,e=.returned (.int .i64 r)/\w.grownBy w' row/\aJf true n P Inv Q (decide (0<=r)) w'
def aDm (F K:Nat)(mkv:List Value->Value):Prop:=∀(C:Nat) (caps:Array Value) (row:Option Nat) (a:Option Addr) (n c:Nat) (rs:List (List Fl)) (P:Nat->Bool) (Inv Q:Nat->World->Prop) (w:World),aGt true C caps row mkv a c K rs P Inv Q->rs.length=n->Inv 0 w →
 Calls Tryz.prog F #[.slice a n c,.func (.func C) #[] caps] w fun e w'=>∃r:Bool,e=.returned (.bool r)/\w.grownBy w' row/\aJf true n P Inv Q r w'
theorem oS:∀p ∈ ([
  (139,2,agg),
  (95,5,agg),
  (194,1,one),
  (207,1,one),
  (224,2,agg),
  (202,2,agg),
  (137,2,agg),
  (127,2,agg),
  (203,5,agg),
  (264,5,agg),
  (250,6,agg),
  ]:List (Nat × Nat × (List Value->Value))),aMp p.1 p.2.1 p.2.2:=by
 simp only[List.forall_mem_cons]
 repeat' apply And.intro
 all_goals first|(intro _ h;cases h;done)|skip
 all_goals
  intro C caps row a n c rs P Inv Q w H hn h0;refine M980 ?_;intro Hd HA hC hl0 hcn H0;clear H h0
  rcases zG0 n with h0|Am
  .
   subst h0;clear hl0 hn
   first
   | go_enter Tryz.func139,Tryz.ntmps139
   | go_enter Tryz.func95,Tryz.ntmps95
   | go_enter Tryz.func194,Tryz.ntmps194
   | go_enter Tryz.func207,Tryz.ntmps207
   | go_enter Tryz.func224,Tryz.ntmps224
   | go_enter Tryz.func202,Tryz.ntmps202
   | go_enter Tryz.func137,Tryz.ntmps137
   | go_enter Tryz.func127,Tryz.ntmps127
   | go_enter Tryz.func203,Tryz.ntmps203
   | go_enter Tryz.func264,Tryz.ntmps264
   | go_enter Tryz.func250,Tryz.ntmps250
   go_wp2_with fail;refine zH2 1 ?_;rw[zE2];go_wp2;go_ret
   exact⟨_,rfl,aN0 _ _,⟨by simp,fun _=>⟨by simp,H0.out⟩⟩⟩
  .
   obtain⟨b,off,rfl⟩:=hl0.addr V19;clear hl0 hn
   first
   | go_enter Tryz.func139,Tryz.ntmps139
   | go_enter Tryz.func95,Tryz.ntmps95
   | go_enter Tryz.func194,Tryz.ntmps194
   | go_enter Tryz.func207,Tryz.ntmps207
   | go_enter Tryz.func224,Tryz.ntmps224
   | go_enter Tryz.func202,Tryz.ntmps202
   | go_enter Tryz.func137,Tryz.ntmps137
   | go_enter Tryz.func127,Tryz.ntmps127
   | go_enter Tryz.func203,Tryz.ntmps203
   | go_enter Tryz.func264,Tryz.ntmps264
   | go_enter Tryz.func250,Tryz.ntmps250
   go_wp2_with fail
   go_loopw [5,8] (fun _ i wr=>∃j:Nat,j<=n/\i=.int .i64 j/\Hid (∀i,i<j->P i=false)/\Hid (w.grownBy wr row)/\Hid (Inv j wr)) (fun _ i _=>n-(intOf i).toNat)
   case atStart=>exact⟨0,zD1 _,rfl,by show ∀_,_;omega,aN0 _ _,H0⟩
   case round=>
    obtain⟨j,hj,rfl,hno,Bk,hinv⟩:=hrel
    by_cases Ai:j<n
    .
     obtain⟨r,hr⟩:∃r,rs[j]?=some r:=⟨rs[j]' V92,zA0 _⟩
     obtain⟨vs,Ad,Ab⟩:=((aGt.rows HA.out j wr hinv.out).el hr).vals;have HC:=aGt.go HA.out j r wr vs hr hinv.out Ad ⟨b,off,rfl,Ab⟩;have hlen:vs.length=_:=(Ad.len).trans (aGt.each HA.out r (zA3 hr))
     first
     | (obtain⟨v0,rfl⟩:=aMx hlen;have q0:wr.cell? ⟨b,off+j,none⟩=some v0:=(by have:=Ab 0 _ rfl;simpa using this))
     | (obtain⟨v0,v1,rfl⟩:=aMw hlen;have q0:wr.cell? ⟨b,off+j*2,none⟩=some v0:=Ab 0 _ rfl;have q1:wr.cell? ⟨b,off+j*2+1,none⟩=some v1:=Ab 1 _ rfl)
     | (obtain⟨v0,v1,v2,rfl⟩:=aMv hlen;have q0:wr.cell? ⟨b,off+j*3,none⟩=some v0:=Ab 0 _ rfl;have q1:wr.cell? ⟨b,off+j*3+1,none⟩=some v1:=Ab 1 _ rfl;have q2:wr.cell? ⟨b,off+j*3+2,none⟩=some v2:=Ab 2 _ rfl)
     | (obtain⟨v0,v1,v2,v3,v4,rfl⟩:=aMu hlen;have q0:wr.cell? ⟨b,off+j*5,none⟩=some v0:=Ab 0 _ rfl;have q1:wr.cell? ⟨b,off+j*5+1,none⟩=some v1:=Ab 1 _ rfl;have q2:wr.cell? ⟨b,off+j*5+2,none⟩=some v2:=Ab 2 _ rfl;have q3:wr.cell? ⟨b,off+j*5+3,none⟩=some v3:=Ab 3 _ rfl;have q4:wr.cell? ⟨b,off+j*5+4,none⟩=some v4:=Ab 4 _ rfl)
     | (obtain⟨v0,v1,v2,v3,v4,v5,rfl⟩:=aMt hlen;have q0:wr.cell? ⟨b,off+j*6,none⟩=some v0:=Ab 0 _ rfl;have q1:wr.cell? ⟨b,off+j*6+1,none⟩=some v1:=Ab 1 _ rfl;have q2:wr.cell? ⟨b,off+j*6+2,none⟩=some v2:=Ab 2 _ rfl;have q3:wr.cell? ⟨b,off+j*6+3,none⟩=some v3:=Ab 3 _ rfl;have q4:wr.cell? ⟨b,off+j*6+4,none⟩=some v4:=Ab 4 _ rfl;have q5:wr.cell? ⟨b,off+j*6+5,none⟩=some v5:=Ab 5 _ rfl)
     clear Ad hr;clear Ab;simp only[agg,one,List.getElem?_cons_zero,zI3]at HC;go_wp2_with fail;rw[hC,Oper.upon_enter];refine HC.mono ?_;rintro e w2 ⟨rfl,Be,hn2,hy2⟩;have Aq:=hid (aD Bk.out Be);have HN:=hid hn2;have HY:=hid hy2
     first|clear q0 q1 q2 q3 q4 q5|clear q0 q1 q2 q3 q4|clear q0 q1 q2|clear q0 q1|clear q0
     clear Be HC hn2 hy2
     by_cases he:P j=true
     .
      rw[he];have HS:=hid he;clear he;go_wp2;go_ret
      exact⟨_,rfl,Aq.out,⟨fun _=>⟨j,Ai,HS.out,hno.out,HY.out HS.out⟩,by simp⟩⟩
     .
      have he:=Bool.not_eq_true _ ▸ he;rw[he];have HS:=hid he;clear he;go_wp2;go_roundw
      case rel=>exact⟨j+1,by omega,by go_num,(show ∀i,i<j+1->P i=false from fun i hi=>(zK1 i j).elim (fun h=>hno.out i h) (fun h=>(show j=i by omega) ▸ HS.out)),Aq,HN.out HS.out⟩
      case measure=>simp[intOf];omega
    .
     have:j=n:=V6
     subst this;go_wp2;go_ret
     exact⟨_,rfl,Bk.out,⟨by simp,fun _=>⟨hno.out,hinv.out⟩⟩⟩
theorem rE:∀p ∈ ([
  (96,2,agg),
  (51,5,agg),
  (168,1,one),
  (182,1,one),
  (204,2,agg),
  (173,2,agg),
  (131,2,agg),
  (86,2,agg),
  (175,5,agg),
  (251,5,agg),
  (237,6,agg),
  ]:List (Nat × Nat × (List Value->Value))),aDm p.1 p.2.1 p.2.2:=by
 simp only[List.forall_mem_cons]
 repeat' apply And.intro
 all_goals first|(intro _ h;cases h;done)|skip
 all_goals
  intro C caps row a n c rs P Inv Q w H hn h0
  first
  | (go_enter Tryz.func96,Tryz.ntmps96;have HI:=oS (139,2,agg) V15 C caps row a n c rs P Inv Q w H hn h0)
  | (go_enter Tryz.func51,Tryz.ntmps51;have HI:=oS (95,5,agg) V15 C caps row a n c rs P Inv Q w H hn h0)
  | (go_enter Tryz.func168,Tryz.ntmps168;have HI:=oS (194,1,one) V15 C caps row a n c rs P Inv Q w H hn h0)
  | (go_enter Tryz.func182,Tryz.ntmps182;have HI:=oS (207,1,one) V15 C caps row a n c rs P Inv Q w H hn h0)
  | (go_enter Tryz.func204,Tryz.ntmps204;have HI:=oS (224,2,agg) V15 C caps row a n c rs P Inv Q w H hn h0)
  | (go_enter Tryz.func173,Tryz.ntmps173;have HI:=oS (202,2,agg) V15 C caps row a n c rs P Inv Q w H hn h0)
  | (go_enter Tryz.func131,Tryz.ntmps131;have HI:=oS (137,2,agg) V15 C caps row a n c rs P Inv Q w H hn h0)
  | (go_enter Tryz.func86,Tryz.ntmps86;have HI:=oS (127,2,agg) V15 C caps row a n c rs P Inv Q w H hn h0)
  | (go_enter Tryz.func175,Tryz.ntmps175;have HI:=oS (203,5,agg) V15 C caps row a n c rs P Inv Q w H hn h0)
  | (go_enter Tryz.func251,Tryz.ntmps251;have HI:=oS (264,5,agg) V15 C caps row a n c rs P Inv Q w H hn h0)
  | (go_enter Tryz.func237,Tryz.ntmps237;have HI:=oS (250,6,agg) V15 C caps row a n c rs P Inv Q w H hn h0)
  clear H h0 hn;go_wp2_with fail;refine HI.mono ?_;rintro e w2 ⟨r,rfl,hr,hb⟩;go_wp2;go_ret;exact⟨_,rfl,hr,hb⟩
theorem aO6:aDm 96 2 agg:=rE (96,2,agg) V15
theorem aOm:aDm 51 5 agg:=rE (51,5,agg) V15
theorem vE:aDm 168 1 one:=rE (168,1,one) V15
theorem oV:aDm 182 1 one:=rE (182,1,one) V15
theorem rF:aDm 204 2 agg:=rE (204,2,agg) V15
theorem vD:aDm 173 2 agg:=rE (173,2,agg) V15
theorem qZ:aMp 137 2 agg:=oS (137,2,agg) V15
theorem nH:aDm 131 2 agg:=rE (131,2,agg) V15
theorem aCd:aMp 127 2 agg:=oS (127,2,agg) V15
theorem tG:aDm 86 2 agg:=rE (86,2,agg) V15
theorem tF:aDm 175 5 agg:=rE (175,5,agg) V15
theorem nA:aDm 251 5 agg:=rE (251,5,agg) V15
theorem tE:aDm 237 6 agg:=rE (237,6,agg) V15
def aJi (A K:Nat)(mkv:List Value->Value)(X:TypeId):Prop:=∀(T:TypeId),T=X->∀(G:Nat) (caps:Array Value) (vs:List Value) (g:Nat) (P:Bool) (R:World->Prop) (w:World),vs.length=K->w.cell? ⟨g,0,none⟩=some (.func (.func G) #[] caps)->Ent G →
 (∀w1,w.grownBy w1 none->Calls Tryz.prog G (#[mkv vs]++caps) w1 fun e w'=>e=.returned (.bool P)/\R w')->Calls Tryz.prog A #[mkv vs,.pointer (some ⟨g,0,none⟩)] w fun e w'=>e=.returned (.bool (!P))/\R w'
def AlB (F B K:Nat)(mkv:List Value->Value):Prop:=∀(G:Nat) (caps:Array Value) (row:Option Nat) (a:Option Addr) (n c:Nat) (rs:List (List Fl)) (P:Nat->Bool) (Inv Q:Nat->World->Prop) (w:World),
 aGt false G caps row mkv a c K rs P Inv Q->rs.length=n->Inv 0 w->(∀j w w',Inv j w->w.grownBy w' none->Inv j w')->(∀k,row=some k->k<w.heap.size)->Ent B →
 Calls Tryz.prog F #[.slice a n c,.func (.func G) #[] caps] w fun e w'=>∃r:Bool,e=.returned (.bool r)/\w.grownBy w' row/\aJf false n P Inv Q (!r) w'
def aNy (F A K C:Nat)(mkv:List Value->Value)(X FT:TypeId):Prop:=aDm C K mkv->aJi A K mkv X->∀(T:TypeId) (B:Nat),T=FT->B=A->AlB F B K mkv
theorem oN:∀p ∈ ([
  (97,2,98),
  (52,5,56),
  (205,2,126),
  (174,2,123),
  (132,2,62),
  (87,2,52),
  (176,5,95),
  (252,5,133),
  (238,6,129),
  ]:List (Nat × Nat × TypeId)),aJi p.1 p.2.1 agg p.2.2:=by
 simp only[List.forall_mem_cons]
 repeat' apply And.intro
 all_goals first|(intro _ h;cases h;done)|skip
 all_goals
  intro T hT G caps vs g P R w hl hg hG H
  first
  | (obtain⟨v0,v1,rfl⟩:=aMw hl;have H1:=H _ (aC w (.cells #[v0,v1] T (0,0)) none);have g1:=aB hg (show Below w.heap.size w (w.alloc (.cells #[v0,v1] T (0,0))) from(zD2 _ _).alloc (zB0 _) _);have q0:(w.alloc (.cells #[v0,v1] T (0,0))).cell? ⟨w.heap.size,0,none⟩=some v0:=aN w T #[v0,v1] 0 _ rfl;have q1:(w.alloc (.cells #[v0,v1] T (0,0))).cell? ⟨w.heap.size,1,none⟩=some v1:=aN w T #[v0,v1] 1 _ rfl;obtain⟨w1,hw1⟩:∃w1,w.alloc (.cells #[v0,v1] T (0,0))=w1:=⟨_,rfl⟩;rw[hw1]at H1 g1 q0 q1)
  | (obtain⟨v0,v1,v2,rfl⟩:=aMv hl;have H1:=H _ (aC w (.cells #[v0,v1,v2] T (0,0)) none);have g1:=aB hg (show Below w.heap.size w (w.alloc (.cells #[v0,v1,v2] T (0,0))) from(zD2 _ _).alloc (zB0 _) _);have q0:(w.alloc (.cells #[v0,v1,v2] T (0,0))).cell? ⟨w.heap.size,0,none⟩=some v0:=aN w T #[v0,v1,v2] 0 _ rfl;have q1:(w.alloc (.cells #[v0,v1,v2] T (0,0))).cell? ⟨w.heap.size,1,none⟩=some v1:=aN w T #[v0,v1,v2] 1 _ rfl;have q2:(w.alloc (.cells #[v0,v1,v2] T (0,0))).cell? ⟨w.heap.size,2,none⟩=some v2:=aN w T #[v0,v1,v2] 2 _ rfl;obtain⟨w1,hw1⟩:∃w1,w.alloc (.cells #[v0,v1,v2] T (0,0))=w1:=⟨_,rfl⟩;rw[hw1]at H1 g1 q0 q1 q2)
  | (obtain⟨v0,v1,v2,v3,v4,rfl⟩:=aMu hl;have H1:=H _ (aC w (.cells #[v0,v1,v2,v3,v4] T (0,0)) none);have g1:=aB hg (show Below w.heap.size w (w.alloc (.cells #[v0,v1,v2,v3,v4] T (0,0))) from(zD2 _ _).alloc (zB0 _) _);have q0:(w.alloc (.cells #[v0,v1,v2,v3,v4] T (0,0))).cell? ⟨w.heap.size,0,none⟩=some v0:=aN w T #[v0,v1,v2,v3,v4] 0 _ rfl;have q1:(w.alloc (.cells #[v0,v1,v2,v3,v4] T (0,0))).cell? ⟨w.heap.size,1,none⟩=some v1:=aN w T #[v0,v1,v2,v3,v4] 1 _ rfl;have q2:(w.alloc (.cells #[v0,v1,v2,v3,v4] T (0,0))).cell? ⟨w.heap.size,2,none⟩=some v2:=aN w T #[v0,v1,v2,v3,v4] 2 _ rfl;have q3:(w.alloc (.cells #[v0,v1,v2,v3,v4] T (0,0))).cell? ⟨w.heap.size,3,none⟩=some v3:=aN w T #[v0,v1,v2,v3,v4] 3 _ rfl;have q4:(w.alloc (.cells #[v0,v1,v2,v3,v4] T (0,0))).cell? ⟨w.heap.size,4,none⟩=some v4:=aN w T #[v0,v1,v2,v3,v4] 4 _ rfl;obtain⟨w1,hw1⟩:∃w1,w.alloc (.cells #[v0,v1,v2,v3,v4] T (0,0))=w1:=⟨_,rfl⟩;rw[hw1]at H1 g1 q0 q1 q2 q3 q4)
  | (obtain⟨v0,v1,v2,v3,v4,v5,rfl⟩:=aMt hl;have H1:=H _ (aC w (.cells #[v0,v1,v2,v3,v4,v5] T (0,0)) none);have g1:=aB hg (show Below w.heap.size w (w.alloc (.cells #[v0,v1,v2,v3,v4,v5] T (0,0))) from(zD2 _ _).alloc (zB0 _) _);have q0:(w.alloc (.cells #[v0,v1,v2,v3,v4,v5] T (0,0))).cell? ⟨w.heap.size,0,none⟩=some v0:=aN w T #[v0,v1,v2,v3,v4,v5] 0 _ rfl;have q1:(w.alloc (.cells #[v0,v1,v2,v3,v4,v5] T (0,0))).cell? ⟨w.heap.size,1,none⟩=some v1:=aN w T #[v0,v1,v2,v3,v4,v5] 1 _ rfl;have q2:(w.alloc (.cells #[v0,v1,v2,v3,v4,v5] T (0,0))).cell? ⟨w.heap.size,2,none⟩=some v2:=aN w T #[v0,v1,v2,v3,v4,v5] 2 _ rfl;have q3:(w.alloc (.cells #[v0,v1,v2,v3,v4,v5] T (0,0))).cell? ⟨w.heap.size,3,none⟩=some v3:=aN w T #[v0,v1,v2,v3,v4,v5] 3 _ rfl;have q4:(w.alloc (.cells #[v0,v1,v2,v3,v4,v5] T (0,0))).cell? ⟨w.heap.size,4,none⟩=some v4:=aN w T #[v0,v1,v2,v3,v4,v5] 4 _ rfl;have q5:(w.alloc (.cells #[v0,v1,v2,v3,v4,v5] T (0,0))).cell? ⟨w.heap.size,5,none⟩=some v5:=aN w T #[v0,v1,v2,v3,v4,v5] 5 _ rfl;obtain⟨w1,hw1⟩:∃w1,w.alloc (.cells #[v0,v1,v2,v3,v4,v5] T (0,0))=w1:=⟨_,rfl⟩;rw[hw1]at H1 g1 q0 q1 q2 q3 q4 q5)
  subst hT;clear H hg hl;simp only[agg]at H1 ⊢
  first
  | go_enter Tryz.func97,Tryz.ntmps97
  | go_enter Tryz.func52,Tryz.ntmps52
  | go_enter Tryz.func205,Tryz.ntmps205
  | go_enter Tryz.func174,Tryz.ntmps174
  | go_enter Tryz.func132,Tryz.ntmps132
  | go_enter Tryz.func87,Tryz.ntmps87
  | go_enter Tryz.func176,Tryz.ntmps176
  | go_enter Tryz.func252,Tryz.ntmps252
  | go_enter Tryz.func238,Tryz.ntmps238
  go_upto_region 1 with fail
  try rw[hw1]
  clear hw1;go_wp2_with fail;rw[hG,Oper.upon_enter];refine H1.mono ?_;rintro e w2 ⟨rfl,hR⟩
  first|clear g1 q0 q1 q2 q3 q4 q5|clear g1 q0 q1 q2 q3 q4|clear g1 q0 q1 q2|clear g1 q0 q1
  go_wp2;go_ret;exact⟨rfl,hR⟩
theorem aBx:∀p ∈ ([
  (169,3),
  (206,43),
  ]:List (Nat × TypeId)),aJi p.1 1 one p.2:=by
 simp only[List.forall_mem_cons]
 repeat' apply And.intro
 all_goals first|(intro _ h;cases h;done)|skip
 all_goals
  intro T hT G caps vs g P R w hl hg hG H;obtain⟨v0,rfl⟩:=aMx hl;have H1:=H w (aN0 w none);clear H hl hT;simp only[one,List.getElem?_cons_zero,zI3]at H1 ⊢
  first
  | go_enter Tryz.func169,Tryz.ntmps169
  | go_enter Tryz.func206,Tryz.ntmps206
  go_wp2_with fail;rw[hG,Oper.upon_enter];refine H1.mono ?_;rintro e w2 ⟨rfl,hR⟩;clear hg;go_wp2;go_ret;exact⟨rfl,hR⟩
theorem rN:∀p ∈ ([
  (53,97,2,96,agg,98,108),
  (26,52,5,51,agg,56,69),
  (133,169,1,168,one,3,110),
  (180,206,1,182,one,43,222),
  (177,205,2,204,agg,126,220),
  (141,174,2,173,agg,123,198),
  (89,132,2,131,agg,62,142),
  (46,87,2,86,agg,52,67),
  (145,176,5,175,agg,95,200),
  (239,252,5,251,agg,133,277),
  (225,238,6,237,agg,129,266),
  ]:List (Nat × Nat × Nat × Nat × (List Value->Value) × TypeId × TypeId)),aNy p.1 p.2.1 p.2.2.1 p.2.2.2.1 p.2.2.2.2.1 p.2.2.2.2.2.1 p.2.2.2.2.2.2:=by
 simp only[List.forall_mem_cons]
 repeat' apply And.intro
 all_goals first|(intro _ h;cases h;done)|skip
 all_goals
  intro hcx hone T B hT hB G caps row a n c rs P Inv Q w H hn h0 hgrow hrow hE;have x0:=aN w T #[.func (.func G) #[] caps] 0 _ rfl
  have hk:some w.heap.size ≠ row:=fun h=>Nat.lt_irrefl _ (hrow _ h.symm)
  have HC:=hcx B #[.pointer (some ⟨w.heap.size,0,none⟩)] row a n c rs (fun j=>!P j) (fun j wr=>Inv j wr/\wr.cell? ⟨w.heap.size,0,none⟩=some (.func (.func G) #[] caps)) Q (w.alloc (.cells #[.func (.func G) #[] caps] T (0,0))) (by
   refine⟨hE,fun j wr h=>H.rows j wr h.1,H.each, ?_⟩
   intro j r wr vs hr hi Ad hca;have hlen:=(Ad.len).trans (H.each r (zA3 hr));subst hB
   have h1:=hone _ rfl G caps vs w.heap.size (P j) (fun w'=>wr.grownBy w' row/\(P j=true->Inv (j+1) w'/\w'.cell? ⟨w.heap.size,0,none⟩=some (.func (.func G) #[] caps))/\(P j=false->Q j w')) wr hlen hi.2 H.ent ?_
   .
    refine h1.mono ?_;rintro e w' ⟨rfl,h2,h3,h4⟩
    refine⟨rfl,h2,fun h=>h3 V28,fun h=>h4 V28⟩
   .
    intro w1 hw1;refine(H.go j r w1 vs hr (hgrow _ _ _ hi.1 hw1) (Ad.below (aA hw1)) (hca.below (aA hw1))).mono ?_;rintro e w' ⟨rfl,h2,h3,h4⟩;have h5:=aD (bU hw1 row) h2
    refine⟨rfl,h5,fun h=>⟨h3 h, ?_⟩,h4⟩
    have Ai:=zJ1 wr _ hi.2;rw[World.cell?_of_block (a:=⟨w.heap.size,0,none⟩) (h5.block _ Ai hk)]
    exact hi.2) hn ⟨hgrow _ _ _ h0 (aC w _ none),x0⟩
  clear H hrow hgrow hn h0 hcx hone;subst hT hB
  first
  | go_enter Tryz.func53,Tryz.ntmps53
  | go_enter Tryz.func26,Tryz.ntmps26
  | go_enter Tryz.func133,Tryz.ntmps133
  | go_enter Tryz.func180,Tryz.ntmps180
  | go_enter Tryz.func177,Tryz.ntmps177
  | go_enter Tryz.func141,Tryz.ntmps141
  | go_enter Tryz.func89,Tryz.ntmps89
  | go_enter Tryz.func46,Tryz.ntmps46
  | go_enter Tryz.func145,Tryz.ntmps145
  | go_enter Tryz.func239,Tryz.ntmps239
  | go_enter Tryz.func225,Tryz.ntmps225
  go_wp2_with fail;refine HC.mono ?_;rintro e w2 ⟨r,rfl,Be,ht⟩
  have ht2:aJf false n P Inv Q r w2:=⟨fun h=>by
    obtain⟨j,h1,h2,h3,h4⟩:=ht.yes h
    exact⟨j,h1,by simpa using h2,fun i hi=>by simpa using h3 i hi,h4⟩,fun h=>⟨fun i hi=>by simpa using (ht.no h).1 i hi,(ht.no h).2.1⟩⟩
  clear ht HC;go_wp2;go_ret
  exact⟨_,rfl,aD (aC w _ row) Be,by simpa using ht2⟩
theorem aRi:AlB 53 97 2 agg:=rN (53,97,2,96,agg,98,108) V15 aO6 (oN (97,2,98) V15) _ _ rfl rfl
theorem aLd:AlB 133 169 1 one:=rN (133,169,1,168,one,3,110) V15 vE (aBx (169,3) V15) _ _ rfl rfl
theorem aGq:AlB 180 206 1 one:=rN (180,206,1,182,one,43,222) V15 oV (aBx (206,43) V15) _ _ rfl rfl
theorem xE:AlB 177 205 2 agg:=rN (177,205,2,204,agg,126,220) V15 rF (oN (205,2,126) V15) _ _ rfl rfl
theorem aGp:AlB 141 174 2 agg:=rN (141,174,2,173,agg,123,198) V15 vD (oN (174,2,123) V15) _ _ rfl rfl
theorem vJ:AlB 89 132 2 agg:=rN (89,132,2,131,agg,62,142) V15 nH (oN (132,2,62) V15) _ _ rfl rfl
theorem aJd:AlB 46 87 2 agg:=rN (46,87,2,86,agg,52,67) V15 tG (oN (87,2,52) V15) _ _ rfl rfl
theorem rM:AlB 145 176 5 agg:=rN (145,176,5,175,agg,95,200) V15 tF (oN (176,5,95) V15) _ _ rfl rfl
theorem aJe:AlB 239 252 5 agg:=rN (239,252,5,251,agg,133,277) V15 nA (oN (252,5,133) V15) _ _ rfl rfl
theorem aJc:AlB 225 238 6 agg:=rN (225,238,6,237,agg,129,266) V15 tE (oN (238,6,129) V15) _ _ rfl rfl
end Go.Proofs.YtegkhlkjfeafjaaGreatDoor

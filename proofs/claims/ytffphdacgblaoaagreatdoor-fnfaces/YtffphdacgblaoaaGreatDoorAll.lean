import Derived.Test.YtffphdacgblaoaaGreatDoorTreeSz
import Derived.Deep.Cut
import Derived.Deep.CutRange
namespace Go.Proofs.YtffphdacgblaoaaGreatDoor
set_option maxHeartbeats 40000000
open Go.RowKit
set_option linter.unusedVariables false
set_option linter.unusedSimpArgs false
set_option maxRecDepth 100000
theorem Q22{p:Prop}(h:p:=by simpa using h):p:=h
theorem M966{p q:Prop}(k:q)(h:Kx q->p:=by
 intro kQ
 have Hd:=hid hn
 have HA:=hid H
 have hC:=H.ent
 have hl0:=H.rows 0 w h0
 have hcn:n<=9223372036854775807:=by have h1:=hl0.cap;have h2:=hl0.most;unfold maxLen at h2;omega
 have H0:=hid h0
 revert H0;revert hcn;revert hl0;revert hC;revert HA;revert Hd
 exact kQ.o):p:=h ⟨k⟩
theorem cC.len {w:World}:∀{r:List Fl} {vs:List Value},cC w r vs->vs.length=r.length:=by
 intro r
 induction r with
 | nil=>intro vs h;rw[show vs=[] from h];rfl
 | cons f r ih=>intro vs h;obtain⟨v,us,rfl,_,h2⟩:=h;simp[ih h2]
theorem aR (w:World)(row:Option Nat):w.grownBy w row:=⟨rfl,rfl,rfl,zB0 _,fun _ _ _=>rfl⟩
theorem aD {a b c:World}{row:Option Nat}(h:a.grownBy b row)(k:b.grownBy c row):a.grownBy c row:=
 ⟨k.os.trans h.os,k.tape.trans h.tape,k.output.trans h.output,zF2 h.size k.size,fun i hi hr=>(k.block i (Nat.lt_of_lt_of_le hi h.size) hr).trans (h.block i hi hr)⟩
theorem aA {a b:World}(h:a.grownBy b none):Below a.heap.size a b:=⟨h.os,h.tape,h.output,h.size,fun k hk=>h.block k hk Q9⟩
theorem aW {a b:World}(h:Below a.heap.size a b)(row:Option Nat):a.grownBy b row:=⟨h.os,h.tape,h.output,h.size,fun k hk _=>h.block k hk⟩
theorem aB (w:World)(x:Obj)(row:Option Nat):w.grownBy (w.alloc x) row:=aW ((zD2 _ _).alloc (zB0 _) x) row
theorem bU {a b:World}(h:a.grownBy b none)(row:Option Nat):a.grownBy b row:=⟨h.os,h.tape,h.output,h.size,fun k hk _=>h.block k hk Q9⟩
def Ent (C:Nat):Prop:=∀args w,Sem.run Tryz.prog (callFunc C args) w=.ok (.enter C args) w
def nY (w:World)(a:Option Addr)(o:Nat)(vs:List Value):Prop:=∃b off,a=some ⟨b,off,none⟩/\∀i v,vs[i]?=some v->w.cell? ⟨b,off+o+i,none⟩=some v
theorem nY.below {w w':World}{a:Option Addr}{o:Nat}{vs:List Value}(h:nY w a o vs)(hb:Below w.heap.size w w'):nY w' a o vs:=by
 obtain⟨b,off,e,hc⟩:=h
 exact⟨b,off,e,fun i v hv=>aC (hc i v hv) hb⟩
theorem jM {w0 wr:World}{a:Option Addr}{c K j:Nat}{rs:List (List Fl)}{r:List Fl}{vs:List Value}(hr:bQ w0 a c K rs)(hb:Below w0.heap.size w0 wr)(hj:rs[j]?=some r)(Ak:vs.length=r.length)(hc:nY wr a (j*K) vs):cC w0 r vs:=by
 obtain⟨b,off,rfl,hc⟩:=hc;obtain⟨vs0,h0,hc0⟩:=(hr.el hj).vals;have hl0:=h0.len
 have:vs=vs0:=by
  apply List.ext_getElem?
  intro i
  by_cases hi:i<r.length
  .
   have h1:=hc0 i _ (zA0 (by omega:i<vs0.length))
   have h2:=hc i _ (zA0 (by omega:i<vs.length))
   have h3:=aC h1 hb;rw[h2]at h3
   rw[zA0 (by omega:i<vs.length),zA0 (by omega:i<vs0.length)]
   exact h3
  .
   rw[List.getElem?_eq_none Q0,List.getElem?_eq_none Q0]
 rw[this];exact h0
structure aKr (s:Bool) (G:Nat) (caps:Array Value) (row:Option Nat) (mkv:List Value->Value) (a:Option Addr) (c K:Nat) (rs:List (List Fl)) (P:Nat->Bool) (Inv Q:Nat->World->Prop):Prop where
 ent:Ent G
 rows:∀j wr,Inv j wr->bQ wr a c K rs
 each:∀r ∈ rs,r.length=K
 go:∀j r wr vs,rs[j]?=some r->Inv j wr->cC wr r vs->nY wr a (j*K) vs->Calls Tryz.prog G (#[mkv vs]++caps) wr fun e w'=>e=.returned (.bool (P j))/\wr.grownBy w' row/\(P j=(!s)->Inv (j+1) w')/\(P j=s->Q j w')
structure aM0 (s:Bool) (n:Nat) (P:Nat->Bool) (Inv Q:Nat->World->Prop) (b:Bool) (w:World):Prop where
 yes:b=true->∃j,j<n/\P j=s/\(∀i,i<j->P i=(!s))/\Q j w
 no:b=false->(∀i,i<n->P i=(!s))/\Inv n w
def one (vs:List Value):Value:=vs[0]?.getD undef
def agg (vs:List Value):Value:=.agg vs.toArray
theorem cQ {f : FuncId}{fn : Func}{c : Code}(hf : Tryz.prog.funcs[f]? = some fn)(hname : (fn.name == "runtime.NumGoroutine") = false)(hb : fn.body = some c) : Ent f := by
 intro args w
 have h1 : fn.name ≠ "runtime.NumGoroutine" := by simpa using hname
 simp[callFunc,go_sem,hf,h1,hb]
theorem oR {n:Nat}{P:Nat->Bool}{Inv Q:Nat->World->Prop}{b:Bool}{w:World}(h:aM0 true n P Inv Q b w):b=(List.range n).any P:=by
 cases b with
 | true=>
  obtain⟨j,hj,hp,_⟩:=h.yes rfl
  symm;rw[List.any_eq_true]
  exact⟨j,by simpa using hj,hp⟩
 | false=>
  have:=(h.no rfl).1
  symm;rw[List.any_eq_false]
  intro x hx
  simpa using this x (by simpa using hx)
theorem gU {n:Nat}{P:Nat->Bool}{Inv Q:Nat->World->Prop}{b:Bool}{w:World}(h:aM0 false n P Inv Q (!b) w):b=(List.range n).all P:=by
 cases b with
 | true=>
  have:=(h.no rfl).1
  symm;rw[zF3]
  intro x hx
  simpa using this x (by simpa using hx)
 | false=>
  obtain⟨j,hj,hp,_⟩:=h.yes rfl
  symm;rw[List.all_eq_false]
  exact⟨j,by simpa using hj,by simp[hp]⟩
theorem mL {α:Type}(l:List α)(d:α)(p:α->Bool):((List.range l.length).any fun j=>p (l[j]?.getD d))=l.any p:=by
 rw[Bool.eq_iff_iff,List.any_eq_true,List.any_eq_true]
 constructor
 .
  rintro⟨j,hj,hp⟩
  have hj:j<l.length:=by simpa using hj
  rw[zA0 hj]at hp;exact⟨l[j],List.getElem_mem hj,hp⟩
 .
  rintro⟨x,hx,hp⟩;obtain⟨j,hj,rfl⟩:=List.mem_iff_getElem.1 hx
  exact⟨j,by simpa using hj,by rw[zA0 hj];exact hp⟩
theorem hZ {α:Type}(l:List α)(d:α)(p:α->Bool):((List.range l.length).all fun j=>p (l[j]?.getD d))=l.all p:=by
 rw[Bool.eq_iff_iff,zF3,zF3]
 constructor
 .
  intro h x hx;obtain⟨j,hj,rfl⟩:=List.mem_iff_getElem.1 hx
  have:=h j (by simpa using hj)
  rwa [zA0 hj]at this
 .
  intro h j hj
  have hj:j<l.length:=by simpa using hj
  rw[zA0 hj];exact h _ (List.getElem_mem hj)
theorem aSe {α:Type}{l:List α}(h:l.length=1):∃v0,l=[v0]:=by
 match l,h with
 | [v0],_=>exact⟨v0,rfl⟩
theorem aSd {α:Type}{l:List α}(h:l.length=2):∃v0 v1,l=[v0,v1]:=by
 match l,h with
 | [v0,v1],_=>exact⟨v0,v1,rfl⟩
theorem aSc {α:Type}{l:List α}(h:l.length=3):∃v0 v1 v2,l=[v0,v1,v2]:=by
 match l,h with
 | [v0,v1,v2],_=>exact⟨v0,v1,v2,rfl⟩
theorem aSb {α:Type}{l:List α}(h:l.length=5):∃v0 v1 v2 v3 v4,l=[v0,v1,v2,v3,v4]:=by
 match l,h with
 | [v0,v1,v2,v3,v4],_=>exact⟨v0,v1,v2,v3,v4,rfl⟩
theorem aSa {α:Type}{l:List α}(h:l.length=6):∃v0 v1 v2 v3 v4 v5,l=[v0,v1,v2,v3,v4,v5]:=by
 match l,h with
 | [v0,v1,v2,v3,v4,v5],_=>exact⟨v0,v1,v2,v3,v4,v5,rfl⟩
def aR1 (F K:Nat)(mkv:List Value->Value):Prop:=∀(C:Nat) (caps:Array Value) (row:Option Nat) (a:Option Addr) (n c:Nat) (rs:List (List Fl)) (P:Nat->Bool) (Inv Q:Nat->World->Prop) (w:World),aKr true C caps row mkv a c K rs P Inv Q->rs.length=n->Inv 0 w →
 Calls Tryz.prog F #[.slice a n c,.func (.func C) #[] caps] w fun e w'=>∃r:Int,e=.returned (.int .i64 r)/\w.grownBy w' row/\aM0 true n P Inv Q (decide (0<=r)) w'
def aG1 (F K:Nat)(mkv:List Value->Value):Prop:=∀(C:Nat) (caps:Array Value) (row:Option Nat) (a:Option Addr) (n c:Nat) (rs:List (List Fl)) (P:Nat->Bool) (Inv Q:Nat->World->Prop) (w:World),aKr true C caps row mkv a c K rs P Inv Q->rs.length=n->Inv 0 w →
 Calls Tryz.prog F #[.slice a n c,.func (.func C) #[] caps] w fun e w'=>∃r:Bool,e=.returned (.bool r)/\w.grownBy w' row/\aM0 true n P Inv Q r w'
theorem qB:∀p ∈ ([
  (119,1,one),
  (113,1,one),
  (134,2,agg),
  (108,2,agg),
  (92,2,agg),
  (107,2,agg),
  (109,5,agg),
  (173,5,agg),
  (159,6,agg),
  ]:List (Nat × Nat × (List Value->Value))),aR1 p.1 p.2.1 p.2.2:=by
 simp only[List.forall_mem_cons]
 repeat' apply And.intro
 all_goals first|(intro _ h;cases h;done)|skip
 all_goals
  intro C caps row a n c rs P Inv Q w H hn h0;refine M966 ?_;intro Hd HA hC hl0 hcn H0;clear H h0
  rcases zG0 n with h0|hpos
  .
   subst h0;clear hl0 hn
   first
   | go_enter Tryz.func119,Tryz.ntmps119
   | go_enter Tryz.func113,Tryz.ntmps113
   | go_enter Tryz.func134,Tryz.ntmps134
   | go_enter Tryz.func108,Tryz.ntmps108
   | go_enter Tryz.func92,Tryz.ntmps92
   | go_enter Tryz.func107,Tryz.ntmps107
   | go_enter Tryz.func109,Tryz.ntmps109
   | go_enter Tryz.func173,Tryz.ntmps173
   | go_enter Tryz.func159,Tryz.ntmps159
   go_wp2_with fail;refine zH1 1 ?_;rw[zE2];go_wp2;go_ret
   exact⟨_,rfl,aR _ _,⟨by simp,fun _=>⟨by simp,H0.out⟩⟩⟩
  .
   obtain⟨b,off,rfl⟩:=hl0.addr (by rw[hn];exact hpos)
   clear hl0 hn
   first
   | go_enter Tryz.func119,Tryz.ntmps119
   | go_enter Tryz.func113,Tryz.ntmps113
   | go_enter Tryz.func134,Tryz.ntmps134
   | go_enter Tryz.func108,Tryz.ntmps108
   | go_enter Tryz.func92,Tryz.ntmps92
   | go_enter Tryz.func107,Tryz.ntmps107
   | go_enter Tryz.func109,Tryz.ntmps109
   | go_enter Tryz.func173,Tryz.ntmps173
   | go_enter Tryz.func159,Tryz.ntmps159
   go_wp2_with fail
   go_loopw [5,8] (fun _ i wr=>∃j:Nat,j<=n/\i=.int .i64 j/\Hid (∀i,i<j->P i=false)/\Hid (w.grownBy wr row)/\Hid (Inv j wr)) (fun _ i _=>n-(intOf i).toNat)
   case atStart=>exact⟨0,zD1 _,rfl,by show ∀_,_;omega,aR _ _,H0⟩
   case round=>
    obtain⟨j,hj,rfl,hno,Az,hinv⟩:=hrel
    by_cases Aj:j<n
    .
     obtain⟨r,hr⟩:∃r,rs[j]?=some r:=⟨rs[j]'(by rw[Hd.out];exact Aj),zA0 _⟩
     obtain⟨vs,Ai,Ab⟩:=((aKr.rows HA.out j wr hinv.out).el hr).vals;have HC:=aKr.go HA.out j r wr vs hr hinv.out Ai ⟨b,off,rfl,Ab⟩;have Ak:vs.length=_:=(Ai.len).trans (aKr.each HA.out r (zA3 hr))
     first
     | (obtain⟨v0,rfl⟩:=aSe Ak;have q0:wr.cell? ⟨b,off+j,none⟩=some v0:=(by have:=Ab 0 _ rfl;simpa using this))
     | (obtain⟨v0,v1,rfl⟩:=aSd Ak;have q0:wr.cell? ⟨b,off+j*2,none⟩=some v0:=Ab 0 _ rfl;have q1:wr.cell? ⟨b,off+j*2+1,none⟩=some v1:=Ab 1 _ rfl)
     | (obtain⟨v0,v1,v2,rfl⟩:=aSc Ak;have q0:wr.cell? ⟨b,off+j*3,none⟩=some v0:=Ab 0 _ rfl;have q1:wr.cell? ⟨b,off+j*3+1,none⟩=some v1:=Ab 1 _ rfl;have q2:wr.cell? ⟨b,off+j*3+2,none⟩=some v2:=Ab 2 _ rfl)
     | (obtain⟨v0,v1,v2,v3,v4,rfl⟩:=aSb Ak;have q0:wr.cell? ⟨b,off+j*5,none⟩=some v0:=Ab 0 _ rfl;have q1:wr.cell? ⟨b,off+j*5+1,none⟩=some v1:=Ab 1 _ rfl;have q2:wr.cell? ⟨b,off+j*5+2,none⟩=some v2:=Ab 2 _ rfl;have q3:wr.cell? ⟨b,off+j*5+3,none⟩=some v3:=Ab 3 _ rfl;have q4:wr.cell? ⟨b,off+j*5+4,none⟩=some v4:=Ab 4 _ rfl)
     | (obtain⟨v0,v1,v2,v3,v4,v5,rfl⟩:=aSa Ak;have q0:wr.cell? ⟨b,off+j*6,none⟩=some v0:=Ab 0 _ rfl;have q1:wr.cell? ⟨b,off+j*6+1,none⟩=some v1:=Ab 1 _ rfl;have q2:wr.cell? ⟨b,off+j*6+2,none⟩=some v2:=Ab 2 _ rfl;have q3:wr.cell? ⟨b,off+j*6+3,none⟩=some v3:=Ab 3 _ rfl;have q4:wr.cell? ⟨b,off+j*6+4,none⟩=some v4:=Ab 4 _ rfl;have q5:wr.cell? ⟨b,off+j*6+5,none⟩=some v5:=Ab 5 _ rfl)
     clear Ai hr;clear Ab;simp only[agg,one,List.getElem?_cons_zero,zI1]at HC;go_wp2_with fail;rw[hC,Oper.upon_enter];refine HC.mono ?_;rintro e w2 ⟨rfl,hg2,hn2,hy2⟩;have Bf:=hid (aD Az.out hg2);have HN:=hid hn2;have HY:=hid hy2
     first|clear q0 q1 q2 q3 q4 q5|clear q0 q1 q2 q3 q4|clear q0 q1 q2|clear q0 q1|clear q0
     clear hg2 HC hn2 hy2
     by_cases he:P j=true
     .
      rw[he];have HS:=hid he;clear he;go_wp2;go_ret
      exact⟨_,rfl,Bf.out,⟨fun _=>⟨j,Aj,HS.out,hno.out,HY.out HS.out⟩,by simp⟩⟩
     .
      have he:=Bool.not_eq_true _ ▸ he;rw[he];have HS:=hid he;clear he;go_wp2;go_roundw
      case rel=>exact⟨j+1,by omega,by go_num,(show ∀i,i<j+1->P i=false from fun i hi=>(zJ3 i j).elim (fun h=>hno.out i h) (fun h=>(show j=i by omega) ▸ HS.out)),Bf,HN.out HS.out⟩
      case measure=>simp[intOf];omega
    .
     have:j=n:=Q0
     subst this;go_wp2;go_ret
     exact⟨_,rfl,Az.out,⟨by simp,fun _=>⟨hno.out,hinv.out⟩⟩⟩
theorem tC:∀p ∈ ([
  (93,1,one),
  (86,1,one),
  (110,2,agg),
  (77,2,agg),
  (62,2,agg),
  (75,2,agg),
  (79,5,agg),
  (160,5,agg),
  (147,6,agg),
  ]:List (Nat × Nat × (List Value->Value))),aG1 p.1 p.2.1 p.2.2:=by
 simp only[List.forall_mem_cons]
 repeat' apply And.intro
 all_goals first|(intro _ h;cases h;done)|skip
 all_goals
  intro C caps row a n c rs P Inv Q w H hn h0
  first
  | (go_enter Tryz.func93,Tryz.ntmps93;have HI:=qB (119,1,one) Q9 C caps row a n c rs P Inv Q w H hn h0)
  | (go_enter Tryz.func86,Tryz.ntmps86;have HI:=qB (113,1,one) Q9 C caps row a n c rs P Inv Q w H hn h0)
  | (go_enter Tryz.func110,Tryz.ntmps110;have HI:=qB (134,2,agg) Q9 C caps row a n c rs P Inv Q w H hn h0)
  | (go_enter Tryz.func77,Tryz.ntmps77;have HI:=qB (108,2,agg) Q9 C caps row a n c rs P Inv Q w H hn h0)
  | (go_enter Tryz.func62,Tryz.ntmps62;have HI:=qB (92,2,agg) Q9 C caps row a n c rs P Inv Q w H hn h0)
  | (go_enter Tryz.func75,Tryz.ntmps75;have HI:=qB (107,2,agg) Q9 C caps row a n c rs P Inv Q w H hn h0)
  | (go_enter Tryz.func79,Tryz.ntmps79;have HI:=qB (109,5,agg) Q9 C caps row a n c rs P Inv Q w H hn h0)
  | (go_enter Tryz.func160,Tryz.ntmps160;have HI:=qB (173,5,agg) Q9 C caps row a n c rs P Inv Q w H hn h0)
  | (go_enter Tryz.func147,Tryz.ntmps147;have HI:=qB (159,6,agg) Q9 C caps row a n c rs P Inv Q w H hn h0)
  clear H h0 hn;go_wp2_with fail;refine HI.mono ?_;rintro e w2 ⟨r,rfl,hr,hb⟩;go_wp2;go_ret;exact⟨_,rfl,hr,hb⟩
theorem yC:aG1 93 1 one:=tC (93,1,one) Q9
theorem qG:aG1 86 1 one:=tC (86,1,one) Q9
theorem tD:aG1 110 2 agg:=tC (110,2,agg) Q9
theorem yB:aG1 77 2 agg:=tC (77,2,agg) Q9
theorem sZ:aR1 92 2 agg:=qB (92,2,agg) Q9
theorem oP:aG1 62 2 agg:=tC (62,2,agg) Q9
theorem aFf:aR1 107 2 agg:=qB (107,2,agg) Q9
theorem vY:aG1 75 2 agg:=tC (75,2,agg) Q9
theorem vX:aG1 79 5 agg:=tC (79,5,agg) Q9
theorem oK:aG1 160 5 agg:=tC (160,5,agg) Q9
theorem vW:aG1 147 6 agg:=tC (147,6,agg) Q9
def aM3 (A K:Nat)(mkv:List Value->Value)(X:TypeId):Prop:=∀(T:TypeId),T=X->∀(G:Nat) (caps:Array Value) (vs:List Value) (g:Nat) (P:Bool) (R:World->Prop) (w:World),vs.length=K->w.cell? ⟨g,0,none⟩=some (.func (.func G) #[] caps)->Ent G →
 (∀w1,w.grownBy w1 none->Calls Tryz.prog G (#[mkv vs]++caps) w1 fun e w'=>e=.returned (.bool P)/\R w')->Calls Tryz.prog A #[mkv vs,.pointer (some ⟨g,0,none⟩)] w fun e w'=>e=.returned (.bool (!P))/\R w'
def AlB (F B K:Nat)(mkv:List Value->Value):Prop:=∀(G:Nat) (caps:Array Value) (row:Option Nat) (a:Option Addr) (n c:Nat) (rs:List (List Fl)) (P:Nat->Bool) (Inv Q:Nat->World->Prop) (w:World),
 aKr false G caps row mkv a c K rs P Inv Q->rs.length=n->Inv 0 w->(∀j w w',Inv j w->w.grownBy w' none->Inv j w')->(∀k,row=some k->k<w.heap.size)->Ent B →
 Calls Tryz.prog F #[.slice a n c,.func (.func G) #[] caps] w fun e w'=>∃r:Bool,e=.returned (.bool r)/\w.grownBy w' row/\aM0 false n P Inv Q (!r) w'
def aTi (F A K C:Nat)(mkv:List Value->Value)(X FT:TypeId):Prop:=aG1 C K mkv->aM3 A K mkv X->∀(T:TypeId) (B:Nat),T=FT->B=A->AlB F B K mkv
theorem pS:∀p ∈ ([
  (111,2,98),
  (78,2,82),
  (63,2,59),
  (76,2,35),
  (80,5,55),
  (161,5,119),
  (148,6,116),
  ]:List (Nat × Nat × TypeId)),aM3 p.1 p.2.1 agg p.2.2:=by
 simp only[List.forall_mem_cons]
 repeat' apply And.intro
 all_goals first|(intro _ h;cases h;done)|skip
 all_goals
  intro T hT G caps vs g P R w hl hg hG H
  first
  | (obtain⟨v0,v1,rfl⟩:=aSd hl;have H1:=H _ (aB w (.cells #[v0,v1] T (0,0)) none);have g1:=aC hg (show Below w.heap.size w (w.alloc (.cells #[v0,v1] T (0,0))) from(zD2 _ _).alloc (zB0 _) _);have q0:(w.alloc (.cells #[v0,v1] T (0,0))).cell? ⟨w.heap.size,0,none⟩=some v0:=aN w T #[v0,v1] 0 _ rfl;have q1:(w.alloc (.cells #[v0,v1] T (0,0))).cell? ⟨w.heap.size,1,none⟩=some v1:=aN w T #[v0,v1] 1 _ rfl;obtain⟨w1,hw1⟩:∃w1,w.alloc (.cells #[v0,v1] T (0,0))=w1:=⟨_,rfl⟩;rw[hw1]at H1 g1 q0 q1)
  | (obtain⟨v0,v1,v2,rfl⟩:=aSc hl;have H1:=H _ (aB w (.cells #[v0,v1,v2] T (0,0)) none);have g1:=aC hg (show Below w.heap.size w (w.alloc (.cells #[v0,v1,v2] T (0,0))) from(zD2 _ _).alloc (zB0 _) _);have q0:(w.alloc (.cells #[v0,v1,v2] T (0,0))).cell? ⟨w.heap.size,0,none⟩=some v0:=aN w T #[v0,v1,v2] 0 _ rfl;have q1:(w.alloc (.cells #[v0,v1,v2] T (0,0))).cell? ⟨w.heap.size,1,none⟩=some v1:=aN w T #[v0,v1,v2] 1 _ rfl;have q2:(w.alloc (.cells #[v0,v1,v2] T (0,0))).cell? ⟨w.heap.size,2,none⟩=some v2:=aN w T #[v0,v1,v2] 2 _ rfl;obtain⟨w1,hw1⟩:∃w1,w.alloc (.cells #[v0,v1,v2] T (0,0))=w1:=⟨_,rfl⟩;rw[hw1]at H1 g1 q0 q1 q2)
  | (obtain⟨v0,v1,v2,v3,v4,rfl⟩:=aSb hl;have H1:=H _ (aB w (.cells #[v0,v1,v2,v3,v4] T (0,0)) none);have g1:=aC hg (show Below w.heap.size w (w.alloc (.cells #[v0,v1,v2,v3,v4] T (0,0))) from(zD2 _ _).alloc (zB0 _) _);have q0:(w.alloc (.cells #[v0,v1,v2,v3,v4] T (0,0))).cell? ⟨w.heap.size,0,none⟩=some v0:=aN w T #[v0,v1,v2,v3,v4] 0 _ rfl;have q1:(w.alloc (.cells #[v0,v1,v2,v3,v4] T (0,0))).cell? ⟨w.heap.size,1,none⟩=some v1:=aN w T #[v0,v1,v2,v3,v4] 1 _ rfl;have q2:(w.alloc (.cells #[v0,v1,v2,v3,v4] T (0,0))).cell? ⟨w.heap.size,2,none⟩=some v2:=aN w T #[v0,v1,v2,v3,v4] 2 _ rfl;have q3:(w.alloc (.cells #[v0,v1,v2,v3,v4] T (0,0))).cell? ⟨w.heap.size,3,none⟩=some v3:=aN w T #[v0,v1,v2,v3,v4] 3 _ rfl;have q4:(w.alloc (.cells #[v0,v1,v2,v3,v4] T (0,0))).cell? ⟨w.heap.size,4,none⟩=some v4:=aN w T #[v0,v1,v2,v3,v4] 4 _ rfl;obtain⟨w1,hw1⟩:∃w1,w.alloc (.cells #[v0,v1,v2,v3,v4] T (0,0))=w1:=⟨_,rfl⟩;rw[hw1]at H1 g1 q0 q1 q2 q3 q4)
  | (obtain⟨v0,v1,v2,v3,v4,v5,rfl⟩:=aSa hl;have H1:=H _ (aB w (.cells #[v0,v1,v2,v3,v4,v5] T (0,0)) none);have g1:=aC hg (show Below w.heap.size w (w.alloc (.cells #[v0,v1,v2,v3,v4,v5] T (0,0))) from(zD2 _ _).alloc (zB0 _) _);have q0:(w.alloc (.cells #[v0,v1,v2,v3,v4,v5] T (0,0))).cell? ⟨w.heap.size,0,none⟩=some v0:=aN w T #[v0,v1,v2,v3,v4,v5] 0 _ rfl;have q1:(w.alloc (.cells #[v0,v1,v2,v3,v4,v5] T (0,0))).cell? ⟨w.heap.size,1,none⟩=some v1:=aN w T #[v0,v1,v2,v3,v4,v5] 1 _ rfl;have q2:(w.alloc (.cells #[v0,v1,v2,v3,v4,v5] T (0,0))).cell? ⟨w.heap.size,2,none⟩=some v2:=aN w T #[v0,v1,v2,v3,v4,v5] 2 _ rfl;have q3:(w.alloc (.cells #[v0,v1,v2,v3,v4,v5] T (0,0))).cell? ⟨w.heap.size,3,none⟩=some v3:=aN w T #[v0,v1,v2,v3,v4,v5] 3 _ rfl;have q4:(w.alloc (.cells #[v0,v1,v2,v3,v4,v5] T (0,0))).cell? ⟨w.heap.size,4,none⟩=some v4:=aN w T #[v0,v1,v2,v3,v4,v5] 4 _ rfl;have q5:(w.alloc (.cells #[v0,v1,v2,v3,v4,v5] T (0,0))).cell? ⟨w.heap.size,5,none⟩=some v5:=aN w T #[v0,v1,v2,v3,v4,v5] 5 _ rfl;obtain⟨w1,hw1⟩:∃w1,w.alloc (.cells #[v0,v1,v2,v3,v4,v5] T (0,0))=w1:=⟨_,rfl⟩;rw[hw1]at H1 g1 q0 q1 q2 q3 q4 q5)
  subst hT;clear H hg hl;simp only[agg]at H1 ⊢
  first
  | go_enter Tryz.func111,Tryz.ntmps111
  | go_enter Tryz.func78,Tryz.ntmps78
  | go_enter Tryz.func63,Tryz.ntmps63
  | go_enter Tryz.func76,Tryz.ntmps76
  | go_enter Tryz.func80,Tryz.ntmps80
  | go_enter Tryz.func161,Tryz.ntmps161
  | go_enter Tryz.func148,Tryz.ntmps148
  go_upto_region 1 with fail
  try rw[hw1]
  clear hw1;go_wp2_with fail;rw[hG,Oper.upon_enter];refine H1.mono ?_;rintro e w2 ⟨rfl,hR⟩
  first|clear g1 q0 q1 q2 q3 q4 q5|clear g1 q0 q1 q2 q3 q4|clear g1 q0 q1 q2|clear g1 q0 q1
  go_wp2;go_ret;exact⟨rfl,hR⟩
theorem aEt:∀p ∈ ([
  (94,3),
  (112,22),
  ]:List (Nat × TypeId)),aM3 p.1 1 one p.2:=by
 simp only[List.forall_mem_cons]
 repeat' apply And.intro
 all_goals first|(intro _ h;cases h;done)|skip
 all_goals
  intro T hT G caps vs g P R w hl hg hG H;obtain⟨v0,rfl⟩:=aSe hl;have H1:=H w (aR w none);clear H hl hT;simp only[one,List.getElem?_cons_zero,zI1]at H1 ⊢
  first
  | go_enter Tryz.func94,Tryz.ntmps94
  | go_enter Tryz.func112,Tryz.ntmps112
  go_wp2_with fail;rw[hG,Oper.upon_enter];refine H1.mono ?_;rintro e w2 ⟨rfl,hR⟩;clear hg;go_wp2;go_ret;exact⟨rfl,hR⟩
theorem tP:∀p ∈ ([
  (64,94,1,93,one,3,106),
  (84,112,1,86,one,22,39),
  (81,111,2,110,agg,98,125),
  (38,78,2,77,agg,82,87),
  (24,63,2,62,agg,59,62),
  (35,76,2,75,agg,35,38),
  (42,80,5,79,agg,55,89),
  (149,161,5,160,agg,119,181),
  (135,148,6,147,agg,116,172),
  ]:List (Nat × Nat × Nat × Nat × (List Value->Value) × TypeId × TypeId)),aTi p.1 p.2.1 p.2.2.1 p.2.2.2.1 p.2.2.2.2.1 p.2.2.2.2.2.1 p.2.2.2.2.2.2:=by
 simp only[List.forall_mem_cons]
 repeat' apply And.intro
 all_goals first|(intro _ h;cases h;done)|skip
 all_goals
  intro hcx hone T B hT hB G caps row a n c rs P Inv Q w H hn h0 hgrow hrow hE;have x0:=aN w T #[.func (.func G) #[] caps] 0 _ rfl
  have hk:some w.heap.size ≠ row:=fun h=>Nat.lt_irrefl _ (hrow _ h.symm)
  have HC:=hcx B #[.pointer (some ⟨w.heap.size,0,none⟩)] row a n c rs (fun j=>!P j) (fun j wr=>Inv j wr/\wr.cell? ⟨w.heap.size,0,none⟩=some (.func (.func G) #[] caps)) Q (w.alloc (.cells #[.func (.func G) #[] caps] T (0,0))) (by
   refine⟨hE,fun j wr h=>H.rows j wr h.1,H.each, ?_⟩
   intro j r wr vs hr hi Ai hca;have Ak:=(Ai.len).trans (H.each r (zA3 hr));subst hB
   have h1:=hone _ rfl G caps vs w.heap.size (P j) (fun w'=>wr.grownBy w' row/\(P j=true->Inv (j+1) w'/\w'.cell? ⟨w.heap.size,0,none⟩=some (.func (.func G) #[] caps))/\(P j=false->Q j w')) wr Ak hi.2 H.ent ?_
   .
    refine h1.mono ?_;rintro e w' ⟨rfl,h2,h3,h4⟩
    refine⟨rfl,h2,fun h=>h3 Q22,fun h=>h4 Q22⟩
   .
    intro w1 hw1;refine(H.go j r w1 vs hr (hgrow _ _ _ hi.1 hw1) (Ai.below (aA hw1)) (hca.below (aA hw1))).mono ?_;rintro e w' ⟨rfl,h2,h3,h4⟩;have h5:=aD (bU hw1 row) h2
    refine⟨rfl,h5,fun h=>⟨h3 h, ?_⟩,h4⟩
    have Aj:=zI3 wr _ hi.2;rw[World.cell?_of_block (a:=⟨w.heap.size,0,none⟩) (h5.block _ Aj hk)]
    exact hi.2) hn ⟨hgrow _ _ _ h0 (aB w _ none),x0⟩
  clear H hrow hgrow hn h0 hcx hone;subst hT hB
  first
  | go_enter Tryz.func64,Tryz.ntmps64
  | go_enter Tryz.func84,Tryz.ntmps84
  | go_enter Tryz.func81,Tryz.ntmps81
  | go_enter Tryz.func38,Tryz.ntmps38
  | go_enter Tryz.func24,Tryz.ntmps24
  | go_enter Tryz.func35,Tryz.ntmps35
  | go_enter Tryz.func42,Tryz.ntmps42
  | go_enter Tryz.func149,Tryz.ntmps149
  | go_enter Tryz.func135,Tryz.ntmps135
  go_wp2_with fail;refine HC.mono ?_;rintro e w2 ⟨r,rfl,hg2,ht⟩
  have ht2:aM0 false n P Inv Q r w2:=⟨fun h=>by
    obtain⟨j,h1,h2,h3,h4⟩:=ht.yes h
    exact⟨j,h1,by simpa using h2,fun i hi=>by simpa using h3 i hi,h4⟩,fun h=>⟨fun i hi=>by simpa using (ht.no h).1 i hi,(ht.no h).2.1⟩⟩
  clear ht HC;go_wp2;go_ret
  exact⟨_,rfl,aD (aB w _ row) hg2,by simpa using ht2⟩
theorem aPo:AlB 64 94 1 one:=tP (64,94,1,93,one,3,106) Q9 yC (aEt (94,3) Q9) _ _ rfl rfl
theorem aKp:AlB 84 112 1 one:=tP (84,112,1,86,one,22,39) Q9 qG (aEt (112,22) Q9) _ _ rfl rfl
theorem aA4:AlB 81 111 2 agg:=tP (81,111,2,110,agg,98,125) Q9 tD (pS (111,2,98) Q9) _ _ rfl rfl
theorem aKo:AlB 38 78 2 agg:=tP (38,78,2,77,agg,82,87) Q9 yB (pS (78,2,82) Q9) _ _ rfl rfl
theorem yJ:AlB 24 63 2 agg:=tP (24,63,2,62,agg,59,62) Q9 oP (pS (63,2,59) Q9) _ _ rfl rfl
theorem aMx:AlB 35 76 2 agg:=tP (35,76,2,75,agg,35,38) Q9 vY (pS (76,2,35) Q9) _ _ rfl rfl
theorem tN:AlB 42 80 5 agg:=tP (42,80,5,79,agg,55,89) Q9 vX (pS (80,5,55) Q9) _ _ rfl rfl
theorem aMy:AlB 149 161 5 agg:=tP (149,161,5,160,agg,119,181) Q9 oK (pS (161,5,119) Q9) _ _ rfl rfl
theorem aMw:AlB 135 148 6 agg:=tP (135,148,6,147,agg,116,172) Q9 vW (pS (148,6,116) Q9) _ _ rfl rfl
end Go.Proofs.YtffphdacgblaoaaGreatDoor

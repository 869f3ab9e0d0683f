import Derived.Deep.Cut
import Derived.Deep.CutRange
import Derived.Test.YtcbhdhmhidpdgaaGreatDoorPackB
import Derived.Test.YtcbhdhmhidpdgaaGreatDoorName
import Derived.Deep.RegionHeld3
namespace Go.Proofs.YtcbhdhmhidpdgaaGreatDoor
open Go.RowKit
set_option linter.unusedVariables false
set_option linter.unusedSimpArgs false
set_option maxRecDepth 100000
set_option maxHeartbeats 40000000
def SzV (w:World)(F:Nat)(v:Value)(N:Nat):Prop:=
 ∀(w1:World) (k:Int),Below w.heap.size w w1->0<=k->k<=1048576->Calls Tryz.prog F #[v,.int .i64 k] w1 fun e w'=>e=.returned (.int .i64 (szL k N))/\Below w1.heap.size w1 w'
theorem aB {w w':World}{g i:Nat}{v:Value}(h:w.cell? ⟨g,i,none⟩=some v)(hb:Below w.heap.size w w'):w'.cell? ⟨g,i,none⟩=some v:=by
 rw[hb.cell (zI2 w _ h)];exact h
theorem aZ (w:World)(t:TypeId)(vs:Array Value)(i:Nat)(v:Value)(h:vs[i]?=some v):(w.alloc (.cells vs t (0,0))).cell? ⟨w.heap.size,i,none⟩=some v:=by
 rw[cell_of_row _ w.heap.size i vs t (0,0) (heap_alloc_new w _)];exact h
theorem jK.vals {w:World}{b:Nat}{r:List Fl}:∀{off:Nat},jK w b off r->∃vs,aL w r vs/\∀i v,vs[i]?=some v->w.cell? ⟨b,off+i,none⟩=some v:=by
 induction r with
 | nil=>intro off _;exact⟨[],rfl,by simp⟩
 | cons f r ih=>
  intro off h;obtain⟨⟨v,hc,hv⟩,h2⟩:=h;obtain⟨vs,h3,h4⟩:=ih h2;refine⟨v :: vs,⟨v,vs,rfl,hv,h3⟩,fun i u hu=>?_⟩;cases i with
  | zero=>simp only[List.getElem?_cons_zero,zG2]at hu;subst hu;exact hc| succ i=>
   rw[List.getElem?_cons_succ]at hu;have:=h4 i u hu;rw[show off+(i+1)=off+1+i by omega];exact this
theorem SzV.on {w w1:World}{F N:Nat}{v:Value}(h:SzV w F v N)(hb:Below w.heap.size w w1):SzV w1 F v N:=
 fun w2 k hb2 hk Of=>h w2 k (hb.trans (hb2.mono hb.size)) hk Of
section
theorem A83{p:Prop}(h:p:=by rw[Hd.out];exact Ad):p:=h
theorem M944{p q:Prop}(k:q)(h:Kx q->p:=by
 intro kQ
 obtain⟨r,hr⟩:∃r,rs[j]?=some r:=⟨rs[j]' A83,zA0 _⟩
 obtain⟨vs,Ak,Ab⟩:=((aA1.rows HA.out j wr Jw.out).el hr).vals
 have HC:=aA1.go HA.out j r wr vs hr Jw.out Ak ⟨b,off,rfl,Ab⟩
 revert HC;revert Ab;revert Ak;revert vs;revert hr;revert r
 exact kQ.o):p:=h ⟨k⟩
theorem M947{p q:Prop}(k:q)(h:Kx q->p:=by
 intro kQ
 have Hd:=hid hn
 have HA:=hid H
 have hC:=H.ent
 have Gh:=H.rows 0 w h0
 have Qq:n<=9223372036854775807:=by have h1:=Gh.cap;have h2:=Gh.most;unfold maxLen at h2;omega
 have H0:=hid h0
 revert H0;revert Qq;revert Gh;revert hC;revert HA;revert Hd
 exact kQ.o):p:=h ⟨k⟩
variable{a w:World}
theorem aL.len:∀{r:List Fl} {vs:List Value},aL w r vs->vs.length=r.length:=by
 intro r;induction r with
 | nil=>intro vs h;rw[show vs=[] from h];rfl| cons f r ih=>intro vs h;obtain⟨v,us,rfl,_,h2⟩:=h;simp[ih h2]
theorem aP (w:World)(row:Option Nat):w.grownBy w row:=⟨rfl,rfl,rfl,zB0 _,fun _ _ _=>rfl⟩
theorem aA{b:World}(h:a.grownBy b none):Below a.heap.size a b:=⟨h.os,h.tape,h.output,h.size,fun k hk=>h.block k hk A8⟩
theorem aM{b:World}(h:Below a.heap.size a b)(row:Option Nat):a.grownBy b row:=⟨h.os,h.tape,h.output,h.size,fun k hk _=>h.block k hk⟩
theorem aE (w:World)(x:Obj)(row:Option Nat):w.grownBy (w.alloc x) row:=aM ((zD2 _ _).alloc (zB0 _) x) row
theorem cZ{b:World}(h:a.grownBy b none)(row:Option Nat):a.grownBy b row:=⟨h.os,h.tape,h.output,h.size,fun k hk _=>h.block k hk A8⟩
def Ent (C:Nat):Prop:=∀args w,Sem.run Tryz.prog (callFunc C args) w=.ok (.enter C args) w
def sV (w:World)(a:Option Addr)(o:Nat)(vs:List Value):Prop:=∃b off,a=some ⟨b,off,none⟩/\∀i v,vs[i]?=some v->w.cell? ⟨b,off+o+i,none⟩=some v
theorem sV.below{w':World}{a:Option Addr}{o:Nat}{vs:List Value}(h:sV w a o vs)(hb:Below w.heap.size w w'):sV w' a o vs:=by
 obtain⟨b,off,e,hc⟩:=h;exact⟨b,off,e,fun i v hv=>aB (hc i v hv) hb⟩
structure aA1 (s:Bool) (G:Nat) (caps:Array Value) (row:Option Nat) (mkv:List Value->Value) (a:Option Addr) (c K:Nat) (rs:List (List Fl)) (P:Nat->Bool) (Inv Q:Nat->World->Prop):Prop where
 ent:Ent G
 rows:∀j wr,Inv j wr->aW wr a c K rs
 each:∀r ∈ rs,r.length=K
 go:∀j r wr vs,rs[j]?=some r->Inv j wr->aL wr r vs->sV wr a (j*K) vs->Calls Tryz.prog G (#[mkv vs]++caps) wr fun e w'=>e=.returned (.bool (P j))/\wr.grownBy w' row/\(P j=(!s)->Inv (j+1) w')/\(P j=s->Q j w')
structure aQh (s:Bool) (n:Nat) (P:Nat->Bool) (Inv Q:Nat->World->Prop) (b:Bool) (w:World):Prop where
 yes:b=true->∃j,j<n/\P j=s/\(∀i,i<j->P i=(!s))/\Q j w
 no:b=false->(∀i,i<n->P i=(!s))/\Inv n w
def one (vs:List Value):Value:=vs[0]?.getD undef
def agg (vs:List Value):Value:=.agg vs.toArray
theorem qV{f:FuncId}{fn:Func}{c:Code}(hf : Tryz.prog.funcs[f]? = some fn)(hname : (fn.name == "runtime.NumGoroutine") = false)(hb : fn.body = some c) : Ent f := by
 intro args w;have h1 : fn.name ≠ "runtime.NumGoroutine" := by simpa using hname
 simp[callFunc,go_sem,hf,h1,hb]
theorem yB{n:Nat}{P:Nat->Bool}{Inv Q:Nat->World->Prop}{b:Bool}(h:aQh false n P Inv Q (!b) w):b=(List.range n).all P:=by
 cases b with
 | true=>
  have:=(h.no rfl).1
  symm;rw[zF3]
  intro x hx;simpa using this x (by simpa using hx)
 | false=>
  obtain⟨j,hj,hp,_⟩:=h.yes rfl
  symm;rw[List.all_eq_false]
  exact⟨j,by simpa using hj,by simp[hp]⟩
theorem aUf{α:Type}{l:List α}(h:l.length=1):∃v0,l=[v0]:=by
 match l,h with
 | [v0],_=>exact⟨v0,rfl⟩
theorem aUe{α:Type}{l:List α}(h:l.length=2):∃v0 v1,l=[v0,v1]:=by
 match l,h with
 | [v0,v1],_=>exact⟨v0,v1,rfl⟩
theorem aUd{α:Type}{l:List α}(h:l.length=3):∃v0 v1 v2,l=[v0,v1,v2]:=by
 match l,h with
 | [v0,v1,v2],_=>exact⟨v0,v1,v2,rfl⟩
theorem aUc{α:Type}{l:List α}(h:l.length=5):∃v0 v1 v2 v3 v4,l=[v0,v1,v2,v3,v4]:=by
 match l,h with
 | [v0,v1,v2,v3,v4],_=>exact⟨v0,v1,v2,v3,v4,rfl⟩
theorem aUb{α:Type}{l:List α}(h:l.length=6):∃v0 v1 v2 v3 v4 v5,l=[v0,v1,v2,v3,v4,v5]:=by
 match l,h with
 | [v0,v1,v2,v3,v4,v5],_=>exact⟨v0,v1,v2,v3,v4,v5,rfl⟩
def aVt (F K:Nat)(mkv:List Value->Value):Prop:=∀(C:Nat) (caps:Array Value) (row:Option Nat) (a:Option Addr) (n c:Nat) (rs:List (List Fl)) (P:Nat->Bool) (Inv Q:Nat->World->Prop) (w:World),aA1 true C caps row mkv a c K rs P Inv Q->rs.length=n->Inv 0 w →
 Calls Tryz.prog F #[.slice a n c,.func (.func C) #[] caps] w fun e w'=>∃r:Int,e=.returned (.int .i64 r)/\w.grownBy w' row/\aQh true n P Inv Q (decide (0<=r)) w'
def aQ1 (F K:Nat)(mkv:List Value->Value):Prop:=∀(C:Nat) (caps:Array Value) (row:Option Nat) (a:Option Addr) (n c:Nat) (rs:List (List Fl)) (P:Nat->Bool) (Inv Q:Nat->World->Prop) (w:World),aA1 true C caps row mkv a c K rs P Inv Q->rs.length=n->Inv 0 w →
 Calls Tryz.prog F #[.slice a n c,.func (.func C) #[] caps] w fun e w'=>∃r:Bool,e=.returned (.bool r)/\w.grownBy w' row/\aQh true n P Inv Q r w'
theorem aL7:∀p ∈ ([
  (120,1,one),
  (62,5,agg),
  (70,3,agg),
  ]:List (Nat × Nat × (List Value->Value))),aVt p.1 p.2.1 p.2.2:=by
 simp only[List.forall_mem_cons]
 repeat' apply And.intro
 all_goals first|(intro _ h;cases h;done)|skip
 all_goals
  intro C caps row a n c rs P Inv Q w H hn h0;refine M947 ?_;intro Hd HA hC Gh Qq H0;clear H h0;rcases zG0 n with h0|Dq
  .
   subst h0;clear Gh hn;first
   | go_enter Tryz.func120,Tryz.ntmps120| go_enter Tryz.func62,Tryz.ntmps62| go_enter Tryz.func70,Tryz.ntmps70
   go_wp2_with fail;refine zH1 1 ?_;rw[zE2];go_wp2;go_ret;exact⟨_,rfl,aP _ _,⟨by simp,fun _=>⟨by simp,H0.out⟩⟩⟩
  .
   obtain⟨b,off,rfl⟩:=Gh.addr (by rw[hn];exact Dq);clear Gh hn;first
   | go_enter Tryz.func120,Tryz.ntmps120| go_enter Tryz.func62,Tryz.ntmps62| go_enter Tryz.func70,Tryz.ntmps70
   go_wp2_with fail;go_loopw [5,8] (fun _ i wr=>∃j:Nat,j<=n/\i=.int .i64 j/\Hid (∀i,i<j->P i=false)/\Hid (w.grownBy wr row)/\Hid (Inv j wr)) (fun _ i _=>n-(intOf i).toNat)
   case atStart=>exact⟨0,zD1 _,rfl,by show ∀_,_;omega,aP _ _,H0⟩
   case round=>
    obtain⟨j,hj,rfl,Ai,Al,Jw⟩:=hrel;by_cases Ad:j<n
    .
     refine M944 ?_;intro r hr vs Ak Ab HC;have Ah:vs.length=_:=(Ak.len).trans (aA1.each HA.out r (zA3 hr));first
     | (obtain⟨v0,rfl⟩:=aUf Ah;have q0:wr.cell? ⟨b,off+j,none⟩=some v0:=(by have:=Ab 0 _ rfl;simpa using this))
     | (obtain⟨v0,v1,rfl⟩:=aUe Ah;have q0:wr.cell? ⟨b,off+j*2,none⟩=some v0:=Ab 0 _ rfl;have q1:wr.cell? ⟨b,off+j*2+1,none⟩=some v1:=Ab 1 _ rfl)| (obtain⟨v0,v1,v2,rfl⟩:=aUd Ah;have q0:wr.cell? ⟨b,off+j*3,none⟩=some v0:=Ab 0 _ rfl;have q1:wr.cell? ⟨b,off+j*3+1,none⟩=some v1:=Ab 1 _ rfl;have q2:wr.cell? ⟨b,off+j*3+2,none⟩=some v2:=Ab 2 _ rfl)| (obtain⟨v0,v1,v2,v3,v4,rfl⟩:=aUc Ah;have q0:wr.cell? ⟨b,off+j*5,none⟩=some v0:=Ab 0 _ rfl;have q1:wr.cell? ⟨b,off+j*5+1,none⟩=some v1:=Ab 1 _ rfl;have q2:wr.cell? ⟨b,off+j*5+2,none⟩=some v2:=Ab 2 _ rfl;have q3:wr.cell? ⟨b,off+j*5+3,none⟩=some v3:=Ab 3 _ rfl;have q4:wr.cell? ⟨b,off+j*5+4,none⟩=some v4:=Ab 4 _ rfl)| (obtain⟨v0,v1,v2,v3,v4,v5,rfl⟩:=aUb Ah;have q0:wr.cell? ⟨b,off+j*6,none⟩=some v0:=Ab 0 _ rfl;have q1:wr.cell? ⟨b,off+j*6+1,none⟩=some v1:=Ab 1 _ rfl;have q2:wr.cell? ⟨b,off+j*6+2,none⟩=some v2:=Ab 2 _ rfl;have q3:wr.cell? ⟨b,off+j*6+3,none⟩=some v3:=Ab 3 _ rfl;have q4:wr.cell? ⟨b,off+j*6+4,none⟩=some v4:=Ab 4 _ rfl;have q5:wr.cell? ⟨b,off+j*6+5,none⟩=some v5:=Ab 5 _ rfl)
     clear Ak hr;clear Ab;simp only[agg,one,List.getElem?_cons_zero,zI0]at HC;go_wp2_with fail;rw[hC,Oper.upon_enter];refine HC.mono ?_;rintro e w2 ⟨rfl,hg2,hn2,hy2⟩;have Bq:=hid (aC Al.out hg2);have HN:=hid hn2;have HY:=hid hy2;first|clear q0 q1 q2 q3 q4 q5|clear q0 q1 q2 q3 q4|clear q0 q1 q2|clear q0 q1|clear q0
     clear hg2 HC hn2 hy2;by_cases he:P j=true
     .
      rw[he];have HS:=hid he;clear he;go_wp2;go_ret;exact⟨_,rfl,Bq.out,⟨fun _=>⟨j,Ad,HS.out,Ai.out,HY.out HS.out⟩,by simp⟩⟩
     .
      have he:=Bool.not_eq_true _ ▸ he;rw[he];have HS:=hid he;clear he;go_wp2;go_roundw
      case rel=>exact⟨j+1,by omega,by go_num,(show ∀i,i<j+1->P i=false from fun i hi=>(zJ1 i j).elim (fun h=>Ai.out i h) (fun h=>(show j=i by omega) ▸ HS.out)),Bq,HN.out HS.out⟩
      case measure=>simp[intOf];omega
    .
     have:j=n:=by omega
     subst this;go_wp2;go_ret;exact⟨_,rfl,Al.out,⟨by simp,fun _=>⟨Ai.out,Jw.out⟩⟩⟩
theorem aP2:∀p ∈ ([
  (72,1,one),
  (30,5,agg),
  (66,3,agg),
  ]:List (Nat × Nat × (List Value->Value))),aQ1 p.1 p.2.1 p.2.2:=by
 simp only[List.forall_mem_cons]
 repeat' apply And.intro
 all_goals first|(intro _ h;cases h;done)|skip
 all_goals
  intro C caps row a n c rs P Inv Q w H hn h0;first
  | (go_enter Tryz.func72,Tryz.ntmps72;have HI:=aL7 (120,1,one) A8 C caps row a n c rs P Inv Q w H hn h0)| (go_enter Tryz.func30,Tryz.ntmps30;have HI:=aL7 (62,5,agg) A8 C caps row a n c rs P Inv Q w H hn h0)| (go_enter Tryz.func66,Tryz.ntmps66;have HI:=aL7 (70,3,agg) A8 C caps row a n c rs P Inv Q w H hn h0)
  clear H h0 hn;go_wp2_with fail;refine HI.mono ?_;rintro e w2 ⟨r,rfl,hr,hb⟩;go_wp2;go_ret;exact⟨_,rfl,hr,hb⟩
theorem xQ:aQ1 72 1 one:=aP2 (72,1,one) A8
theorem qC:aQ1 30 5 agg:=aP2 (30,5,agg) A8
def aM3 (A K:Nat)(mkv:List Value->Value)(X:TypeId):Prop:=∀(T:TypeId),T=X->∀(G:Nat) (caps:Array Value) (vs:List Value) (g:Nat) (P:Bool) (R:World->Prop) (w:World),vs.length=K->w.cell? ⟨g,0,none⟩=some (.func (.func G) #[] caps)->Ent G →
 (∀w1,w.grownBy w1 none->Calls Tryz.prog G (#[mkv vs]++caps) w1 fun e w'=>e=.returned (.bool P)/\R w')->Calls Tryz.prog A #[mkv vs,.pointer (some ⟨g,0,none⟩)] w fun e w'=>e=.returned (.bool (!P))/\R w'
def AlB (F B K:Nat)(mkv:List Value->Value):Prop:=∀(G:Nat) (caps:Array Value) (row:Option Nat) (a:Option Addr) (n c:Nat) (rs:List (List Fl)) (P:Nat->Bool) (Inv Q:Nat->World->Prop) (w:World),
 aA1 false G caps row mkv a c K rs P Inv Q->rs.length=n->Inv 0 w->(∀j w w',Inv j w->w.grownBy w' none->Inv j w')->(∀k,row=some k->k<w.heap.size)->Ent B →
 Calls Tryz.prog F #[.slice a n c,.func (.func G) #[] caps] w fun e w'=>∃r:Bool,e=.returned (.bool r)/\w.grownBy w' row/\aQh false n P Inv Q (!r) w'
def aVv (F A K C:Nat)(mkv:List Value->Value)(X FT:TypeId):Prop:=aQ1 C K mkv->aM3 A K mkv X->∀(T:TypeId) (B:Nat),T=FT->B=A->AlB F B K mkv
theorem aOc:∀p ∈ ([
  (31,5,39),
  ]:List (Nat × Nat × TypeId)),aM3 p.1 p.2.1 agg p.2.2:=by
 simp only[List.forall_mem_cons]
 repeat' apply And.intro
 all_goals first|(intro _ h;cases h;done)|skip
 all_goals
  intro T hT G caps vs g P R w hl hg hG H;first
  | (obtain⟨v0,v1,rfl⟩:=aUe hl;have H1:=H _ (aE w (.cells #[v0,v1] T (0,0)) none);have g1:=aB hg (show Below w.heap.size w (w.alloc (.cells #[v0,v1] T (0,0))) from(zD2 _ _).alloc (zB0 _) _);have q0:(w.alloc (.cells #[v0,v1] T (0,0))).cell? ⟨w.heap.size,0,none⟩=some v0:=aZ w T #[v0,v1] 0 _ rfl;have q1:(w.alloc (.cells #[v0,v1] T (0,0))).cell? ⟨w.heap.size,1,none⟩=some v1:=aZ w T #[v0,v1] 1 _ rfl;obtain⟨w1,Hn⟩:∃w1,w.alloc (.cells #[v0,v1] T (0,0))=w1:=⟨_,rfl⟩;rw[Hn]at H1 g1 q0 q1)| (obtain⟨v0,v1,v2,rfl⟩:=aUd hl;have H1:=H _ (aE w (.cells #[v0,v1,v2] T (0,0)) none);have g1:=aB hg (show Below w.heap.size w (w.alloc (.cells #[v0,v1,v2] T (0,0))) from(zD2 _ _).alloc (zB0 _) _);have q0:(w.alloc (.cells #[v0,v1,v2] T (0,0))).cell? ⟨w.heap.size,0,none⟩=some v0:=aZ w T #[v0,v1,v2] 0 _ rfl;have q1:(w.alloc (.cells #[v0,v1,v2] T (0,0))).cell? ⟨w.heap.size,1,none⟩=some v1:=aZ w T #[v0,v1,v2] 1 _ rfl;have q2:(w.alloc (.cells #[v0,v1,v2] T (0,0))).cell? ⟨w.heap.size,2,none⟩=some v2:=aZ w T #[v0,v1,v2] 2 _ rfl;obtain⟨w1,Hn⟩:∃w1,w.alloc (.cells #[v0,v1,v2] T (0,0))=w1:=⟨_,rfl⟩;rw[Hn]at H1 g1 q0 q1 q2)| (obtain⟨v0,v1,v2,v3,v4,rfl⟩:=aUc hl;have H1:=H _ (aE w (.cells #[v0,v1,v2,v3,v4] T (0,0)) none);have g1:=aB hg (show Below w.heap.size w (w.alloc (.cells #[v0,v1,v2,v3,v4] T (0,0))) from(zD2 _ _).alloc (zB0 _) _);have q0:(w.alloc (.cells #[v0,v1,v2,v3,v4] T (0,0))).cell? ⟨w.heap.size,0,none⟩=some v0:=aZ w T #[v0,v1,v2,v3,v4] 0 _ rfl;have q1:(w.alloc (.cells #[v0,v1,v2,v3,v4] T (0,0))).cell? ⟨w.heap.size,1,none⟩=some v1:=aZ w T #[v0,v1,v2,v3,v4] 1 _ rfl;have q2:(w.alloc (.cells #[v0,v1,v2,v3,v4] T (0,0))).cell? ⟨w.heap.size,2,none⟩=some v2:=aZ w T #[v0,v1,v2,v3,v4] 2 _ rfl;have q3:(w.alloc (.cells #[v0,v1,v2,v3,v4] T (0,0))).cell? ⟨w.heap.size,3,none⟩=some v3:=aZ w T #[v0,v1,v2,v3,v4] 3 _ rfl;have q4:(w.alloc (.cells #[v0,v1,v2,v3,v4] T (0,0))).cell? ⟨w.heap.size,4,none⟩=some v4:=aZ w T #[v0,v1,v2,v3,v4] 4 _ rfl;obtain⟨w1,Hn⟩:∃w1,w.alloc (.cells #[v0,v1,v2,v3,v4] T (0,0))=w1:=⟨_,rfl⟩;rw[Hn]at H1 g1 q0 q1 q2 q3 q4)
  | (obtain⟨v0,v1,v2,v3,v4,v5,rfl⟩:=aUb hl;have H1:=H _ (aE w (.cells #[v0,v1,v2,v3,v4,v5] T (0,0)) none);have g1:=aB hg (show Below w.heap.size w (w.alloc (.cells #[v0,v1,v2,v3,v4,v5] T (0,0))) from(zD2 _ _).alloc (zB0 _) _);have q0:(w.alloc (.cells #[v0,v1,v2,v3,v4,v5] T (0,0))).cell? ⟨w.heap.size,0,none⟩=some v0:=aZ w T #[v0,v1,v2,v3,v4,v5] 0 _ rfl;have q1:(w.alloc (.cells #[v0,v1,v2,v3,v4,v5] T (0,0))).cell? ⟨w.heap.size,1,none⟩=some v1:=aZ w T #[v0,v1,v2,v3,v4,v5] 1 _ rfl;have q2:(w.alloc (.cells #[v0,v1,v2,v3,v4,v5] T (0,0))).cell? ⟨w.heap.size,2,none⟩=some v2:=aZ w T #[v0,v1,v2,v3,v4,v5] 2 _ rfl;have q3:(w.alloc (.cells #[v0,v1,v2,v3,v4,v5] T (0,0))).cell? ⟨w.heap.size,3,none⟩=some v3:=aZ w T #[v0,v1,v2,v3,v4,v5] 3 _ rfl;have q4:(w.alloc (.cells #[v0,v1,v2,v3,v4,v5] T (0,0))).cell? ⟨w.heap.size,4,none⟩=some v4:=aZ w T #[v0,v1,v2,v3,v4,v5] 4 _ rfl;have q5:(w.alloc (.cells #[v0,v1,v2,v3,v4,v5] T (0,0))).cell? ⟨w.heap.size,5,none⟩=some v5:=aZ w T #[v0,v1,v2,v3,v4,v5] 5 _ rfl;obtain⟨w1,Hn⟩:∃w1,w.alloc (.cells #[v0,v1,v2,v3,v4,v5] T (0,0))=w1:=⟨_,rfl⟩;rw[Hn]at H1 g1 q0 q1 q2 q3 q4 q5)
  subst hT;clear H hg hl;simp only[agg]at H1 ⊢;first
  | go_enter Tryz.func31,Tryz.ntmps31
  go_upto_region 1 with fail;try rw[Hn]
  clear Hn;go_wp2_with fail;rw[hG,Oper.upon_enter];refine H1.mono ?_;rintro e w2 ⟨rfl,hR⟩;first|clear g1 q0 q1 q2 q3 q4 q5|clear g1 q0 q1 q2 q3 q4|clear g1 q0 q1 q2|clear g1 q0 q1
  go_wp2;go_ret;exact⟨rfl,hR⟩
theorem aKv:∀p ∈ ([
  (73,3),
  ]:List (Nat × TypeId)),aM3 p.1 1 one p.2:=by
 simp only[List.forall_mem_cons]
 repeat' apply And.intro
 all_goals first|(intro _ h;cases h;done)|skip
 all_goals
  intro T hT G caps vs g P R w hl hg hG H;obtain⟨v0,rfl⟩:=aUf hl;have H1:=H w (aP w none);clear H hl hT;simp only[one,List.getElem?_cons_zero,zI0]at H1 ⊢;first
  | go_enter Tryz.func73,Tryz.ntmps73
  go_wp2_with fail;rw[hG,Oper.upon_enter];refine H1.mono ?_;rintro e w2 ⟨rfl,hR⟩;clear hg;go_wp2;go_ret;exact⟨rfl,hR⟩
theorem aQc:∀p ∈ ([
  (45,73,1,72,one,3,112),
  (13,31,5,30,agg,39,59),
  ]:List (Nat × Nat × Nat × Nat × (List Value->Value) × TypeId × TypeId)),aVv p.1 p.2.1 p.2.2.1 p.2.2.2.1 p.2.2.2.2.1 p.2.2.2.2.2.1 p.2.2.2.2.2.2:=by
 simp only[List.forall_mem_cons]
 repeat' apply And.intro
 all_goals first|(intro _ h;cases h;done)|skip
 all_goals
  intro hcx Ge T B hT hB G caps row a n c rs P Inv Q w H hn h0 Dw Au hE;have x0:=aZ w T #[.func (.func G) #[] caps] 0 _ rfl;have hk:some w.heap.size ≠ row:=fun h=>Nat.lt_irrefl _ (Au _ h.symm);have HC:=hcx B #[.pointer (some ⟨w.heap.size,0,none⟩)] row a n c rs (fun j=>!P j) (fun j wr=>Inv j wr/\wr.cell? ⟨w.heap.size,0,none⟩=some (.func (.func G) #[] caps)) Q (w.alloc (.cells #[.func (.func G) #[] caps] T (0,0))) (by
   refine⟨hE,fun j wr h=>H.rows j wr h.1,H.each, ?_⟩;intro j r wr vs hr hi Ak hca;have Ah:=(Ak.len).trans (H.each r (zA3 hr));subst hB;have h1:=Ge _ rfl G caps vs w.heap.size (P j) (fun w'=>wr.grownBy w' row/\(P j=true->Inv (j+1) w'/\w'.cell? ⟨w.heap.size,0,none⟩=some (.func (.func G) #[] caps))/\(P j=false->Q j w')) wr Ah hi.2 H.ent ?_
   .
    refine h1.mono ?_;rintro e w' ⟨rfl,h2,h3,h4⟩;refine⟨rfl,h2,fun h=>h3 A57,fun h=>h4 A57⟩
   .
    intro w1 Hn;refine(H.go j r w1 vs hr (Dw _ _ _ hi.1 Hn) (Ak.below (aA Hn)) (hca.below (aA Hn))).mono ?_;rintro e w' ⟨rfl,h2,h3,h4⟩;have h5:=aC (cZ Hn row) h2;refine⟨rfl,h5,fun h=>⟨h3 h, ?_⟩,h4⟩;have Ad:=zI2 wr _ hi.2;rw[World.cell?_of_block (a:=⟨w.heap.size,0,none⟩) (h5.block _ Ad hk)];exact hi.2) hn ⟨Dw _ _ _ h0 (aE w _ none),x0⟩
  clear H Au Dw hn h0 hcx Ge;subst hT hB;first
  | go_enter Tryz.func45,Tryz.ntmps45| go_enter Tryz.func13,Tryz.ntmps13
  go_wp2_with fail;refine HC.mono ?_;rintro e w2 ⟨r,rfl,hg2,ht⟩;have ht2:aQh false n P Inv Q r w2:=⟨fun h=>by
    obtain⟨j,h1,h2,h3,h4⟩:=ht.yes h;exact⟨j,h1,by simpa using h2,fun i hi=>by simpa using h3 i hi,h4⟩,fun h=>⟨fun i hi=>by simpa using (ht.no h).1 i hi,(ht.no h).2.1⟩⟩
  clear ht HC;go_wp2;go_ret;exact⟨_,rfl,aC (aE w _ row) hg2,by simpa using ht2⟩
theorem aQa:AlB 45 73 1 one:=aQc (45,73,1,72,one,3,112) A8 xQ (aKv (73,3) A8) _ _ rfl rfl
theorem aFf:AlB 13 31 5 agg:=aQc (13,31,5,30,agg,39,59) A8 qC (aOc (31,5,39) A8) _ _ rfl rfl
end
theorem QA48{p:Prop}(h:p:=by
 have hr:(decide ((1:Int)<=(n:Int)) && decide ((n:Int)<=8))=false:=by simp;omega
 clear hc hl Bv
 go_enter Tryz.func32,Tryz.ntmps32
 go_wp2_with fail
 refine(iI _ _ _ _).mono ?_
 rintro e w ⟨rfl,rfl⟩
 rw[hr]
 go_wp2
 go_ret
 exact⟨aF hd.out.symm,rfl⟩):p:=h
theorem QA84{p:Prop}(h:p:=by
 go_wp2
 go_round
 case rel=>exact⟨j+1,by omega,by go_num,dV Bj.out HN.out⟩
 case measure=>simp[intOf];omega):p:=h
theorem QA110{p:Prop}(h:p:=by
 go_wp2
 go_ret
 exact⟨aF HD.out.symm,rfl⟩):p:=h
theorem iI (n lo hi:Int)(w:World):
  Calls Tryz.prog 12 #[.int .i64 n,.int .i64 lo,.int .i64 hi] w fun e w'=>e=.returned (.bool (decide (lo<=n) && decide (n<=hi)))/\w'=w:=by
 by_cases h1:lo<=n
 .
  go_enter Tryz.func12,Tryz.ntmps12;go_wp2;go_ret;exact⟨aF (by simp[h1]),rfl⟩
 .
  go_enter Tryz.func12,Tryz.ntmps12;go_wp2;go_ret;exact⟨aF A10,rfl⟩
theorem zT (x:Int)(w:World):Calls Tryz.prog 64 #[.int .u8 x] w fun e w'=>e=.returned (.bool (zG x))/\w'=w:=by
 by_cases h1:97<=x
 .
  go_enter Tryz.func64,Tryz.ntmps64;go_wp2;go_ret;exact⟨aF (by simp[zG,h1]),rfl⟩
 .
  go_enter Tryz.func64,Tryz.ntmps64;go_wp2;go_ret;exact⟨aF (by simp[zG];omega),rfl⟩
theorem aHk (x:Int)(w:World):Calls Tryz.prog 65 #[.int .u8 x] w fun e w'=>e=.returned (.bool (aJs x))/\w'=w:=by
 by_cases h1:48<=x
 .
  go_enter Tryz.func65,Tryz.ntmps65;go_wp2;go_ret;exact⟨aF (by simp[aJs,h1]),rfl⟩
 .
  go_enter Tryz.func65,Tryz.ntmps65;go_wp2;go_ret;exact⟨aF (by simp[aJs];omega),rfl⟩
theorem aHj (x:Int)(g:Bool)(w:World):Calls Tryz.prog 63 #[.int .u8 x,.bool g] w fun e w'=>e=.returned (.bool (if g then upB x else zG x))/\w'=w:=by
 cases g
 .
  go_enter Tryz.func63,Tryz.ntmps63;go_wp2_with fail;refine(zT _ _).mono ?_;rintro e w ⟨rfl,rfl⟩;go_wp2;go_ret;exact⟨rfl,rfl⟩
 .
  by_cases h1:65<=x
  .
   go_enter Tryz.func63,Tryz.ntmps63;go_wp2;go_ret;exact⟨aF (by simp[upB,h1]),rfl⟩
  .
   go_enter Tryz.func63,Tryz.ntmps63;go_wp2;go_ret;exact⟨aF (by simp[upB];omega),rfl⟩
set_option maxHeartbeats 4000000 in
theorem kQ (a:Option Addr)(n c:Nat)(l:List Int)(g:Bool)(w:World)(h:aV w a n l)(hn:n<=1073741824)(Fu:n<=c):
  Calls Tryz.prog 32 #[.slice a n c,.bool g] w fun e w'=>e=.returned (.bool (aN l g))/\w'=w:=by
 obtain⟨hl,Bv,hc⟩:=h;by_cases h0:n<1
 .
  have hd:Hid (aN l g=false):=cY A0;exact QA48
 by_cases h8:8<n
 .
  have hd:Hid (aN l g=false):=oT A0;exact QA48
 obtain⟨b,off,rfl,hd⟩:=hc A0;clear hc;have hr:(decide ((1:Int)<=(n:Int)) && decide ((n:Int)<=8))=true:=by simp;omega
 have Hl:=hid hl;clear hl;have Fj:w.cell? ⟨b,off,none⟩=some (.int .u8 (l[0]?.getD 0)):=by simpa using hd 0 A0
 have Tj:=kD Bv 0;have H0:Hid (pY l g 0=(if g then upB (l[0]?.getD 0) else zG (l[0]?.getD 0))):=by show pY l g 0=_;simp[pY]
 generalize hxx:l[0]?.getD 0=x at *;clear hxx;go_enter Tryz.func32,Tryz.ntmps32;go_wp2_with fail;refine(iI _ _ _ _).mono ?_;rintro e w ⟨rfl,rfl⟩;rw[hr];go_wp2_with fail;refine(aHj _ _ _).mono ?_;rintro e w ⟨rfl,rfl⟩;cases hf:(if g then upB x else zG x)
 .
  have HD:Hid (aN l g=false):=kK A46 (H0.out.trans hf);clear hf hd;exact QA110
 have HF:=hid (H0.out.trans hf);clear hf H0 hr Fj;by_cases hn1:n=1
 .
  have HD:Hid (aN l g=true):=mS A46 A46 (by
   rw[Hl.out,hn1];intro m hm;have:m=0:=A0;subst this;exact HF.out)
  subst hn1;clear hd HF Hl Bv;go_wp2;all_goals
   refine zH1 1 ?_;rw[zE2];exact QA110
 have Gk:¬c=1:=A0;go_wp2;go_loop [6,22] (fun _ i=>∃j:Nat,j+1<=n/\i=.int .i64 j/\Hid (∀m<j+1,pY l g m=true)) (fun _ i=>n-(intOf i).toNat)
 case atStart=>exact⟨0,by omega,rfl,by intro m hm;(have:m=0:=by omega);subst this;exact HF.out⟩
 case round=>
  obtain⟨j,hj,rfl,Bj⟩:=hrel;by_cases Ad:j+1<n
  .
   have hx:=hd (j+1) Ad;have Fi:w.cell? ⟨b,off+1+j,none⟩=some (.int .u8 (l[j+1]?.getD 0)):=by rw[<-hx];congr 2;omega
   have hb:=kD Bv (j+1);clear hd Bv hx;have HL:Hid (j+1<l.length):=by show j+1<l.length;rw[Hl.out];exact Ad
   generalize hxx:l[j+1]?.getD 0=y at *;have HX:Hid (pY l g (j+1)=(zG y || aJs y)):=by show pY l g (j+1)=_;simp[pY,hxx]
   clear hxx;go_wp2_with fail;refine(zT _ _).mono ?_;rintro e w ⟨rfl,rfl⟩;cases h1:zG y
   .
    go_wp2_with fail;refine(aHk _ _).mono ?_;rintro e w ⟨rfl,rfl⟩;cases h2:aJs y
    .
     have HD:Hid (aN l g=false):=kK HL.out (by rw[HX.out,h1,h2];rfl);clear h1 h2;exact QA110
    .
     have HN:Hid (pY l g (j+1)=true):=by show pY l g (j+1)=true;rw[HX.out,h1,h2];rfl
     clear h1 h2;exact QA84
   .
    have HN:Hid (pY l g (j+1)=true):=by show pY l g (j+1)=true;rw[HX.out,h1];rfl
    clear h1;exact QA84
  .
   clear hd;go_wp2;go_ret;have Mz:j+1=n:=A0;exact QA125
section
theorem QA65{p:Prop}(h:p:=by
 simp only[zC0,zE3]at this
 omega):p:=h
variable{x:Ex}{left:Int}{l:List Ex}{j:Nat}
def Ex.kind:Ex->Int|.mk k _ _ _ _=>k
def Ex.n:Ex->Int|.mk _ n _ _ _=>n
def Ex.mod:Ex->List Int|.mk _ _ m _ _=>m
def Ex.name:Ex->List Int|.mk _ _ _ a _=>a
def cX (k:Int):Int:=if k=2 then 1 else if k=3 then 2 else 0
def iM (k:Int):Int:=if k=2 then 1 else if k=3 then 2 else if k=6 then 4 else 0
def fV (k:Int):Int:=if k=0 then -2147483648 else 0
def dK (k:Int):Int:=if k=0 then 2147483647 else if k=3 then 5 else 0
def eC (k:Int):Bool:=decide (k=1) || decide (k=2) || decide (k=5) || decide (k=6) || decide (k=7)
def inB (x lo hi:Int):Bool:=decide (lo<=x) && decide (x<=hi)
def gZ (k n:Int)(mod name:List Int)(nk:Nat):Bool:=
 inB k 0 7 && (inB n (fV k) (dK k) && inB nk (cX k) (iM k) && (if eC k then aN name false else decide (name.length=0))) && (decide (mod.length=0) || decide (k=6) && aN mod true)
def lH (e:Ex):Bool:=decide (e.kind=7)
def iW (e:Ex):Bool:=decide (e.kind=6)
mutual
def tZ:Ex->Bool
 | .mk k n m a ks=>gZ k n m a ks.length && (decide (k=6) || !ks.any lH) && jO ks
def jO:List Ex->Bool
 | []=>true| e :: l=>tZ e && jO l
end
mutual
def cQ:Ex->Nat
 | .mk _ _ _ _ ks=>1+aD ks
def aD:List Ex->Nat
 | []=>0| e :: l=>cQ e+aD l
end
mutual
def aIe:Ex->Nat
 | .mk _ _ _ _ ks=>1+mC ks
def mC:List Ex->Nat
 | []=>0| e :: l=>max (aIe e) (mC l)
end
def cD (k:Int):Int:=if k=1 then 2 else if k=6 then 0 else 1
def cS (k:Int):Int:=if k=6 then 99 else 0
def eG (k:Int):Bool:=decide (k=0) || decide (k=1)
def iC (k:Int):Bool:=decide (k=2) || decide (k=3)
def oK (k n:Int)(name:List Int)(ks:List Ex)(nb ne:Nat):Bool:=
 inB k 0 7 && (inB n 0 (cS k) && inB ks.length (cD k) (cD k) && (if eG k then aN name false else decide (name.length=0))) && (decide (nb=0) || iC k) && (decide (ne=0) || decide (k=2)) && !ks.any lH && (!decide (k=7) || ks.any iW)
mutual
def aFr:St->Bool
 | .mk k n a ks bs es=>oK k n a ks bs.length es.length && jO ks && iP bs && iP es
def iP:List St->Bool
 | []=>true| s :: l=>aFr s && iP l
end
mutual
def gD:St->Nat
 | .mk _ _ _ ks bs es=>1+(aD ks+aK bs+aK es)
def aK:List St->Nat
 | []=>0| s :: l=>gD s+aK l
end
mutual
def aJr:St->Nat
 | .mk _ _ _ ks bs es=>1+max (mC ks) (max (lZ bs) (lZ es))
def lZ:List St->Nat
 | []=>0| s :: l=>max (aJr s) (lZ l)
end
theorem oQ (l:List Ex):jO l=l.all tZ:=by
 induction l with
 | nil=>rfl| cons x l ih=>simp[jO,ih]
theorem oP (l:List St):iP l=l.all aFr:=by
 induction l with
 | nil=>rfl| cons x l ih=>simp[iP,ih]
theorem jW (l m:List Ex):aD (l++m)=aD l+aD m:=by
 induction l with
 | nil=>simp[aD]| cons x l ih=>simp[aD,ih];omega
theorem lR (l m:List St):aK (l++m)=aK l+aK m:=by
 induction l with
 | nil=>simp[aK]| cons x l ih=>simp[aK,ih];omega
theorem bR(h:l[j]?=some x):aD (l.take (j+1))=aD (l.take j)+cQ x:=by
 obtain⟨hk,rfl⟩:=zC1.1 h;rw[zF1 hk,jW];simp[aD]
theorem eT{l:List St}{x:St}(h:l[j]?=some x):aK (l.take (j+1))=aK (l.take j)+gD x:=by
 obtain⟨hk,rfl⟩:=zC1.1 h;rw[zF1 hk,lR];simp[aK]
theorem aBi (l:List Ex)(j:Nat):aD (l.take j)<=aD l:=by
 have:=jW (l.take j) (l.drop j);rw[List.take_append_drop]at this;omega
theorem aBg (l:List St)(j:Nat):aK (l.take j)<=aK l:=by
 have:=lR (l.take j) (l.drop j);rw[List.take_append_drop]at this;omega
theorem aMp(h:x ∈ l):aIe x<=mC l:=by
 induction l with
 | nil=>simp at h| cons y l ih=>
  rcases zG3.1 h with rfl|h
  .
   simp[mC];omega
  .
   have:=ih h;simp[mC];omega
theorem aMo{l:List St}{x:St}(h:x ∈ l):aJr x<=lZ l:=by
 induction l with
 | nil=>simp at h| cons y l ih=>
  rcases zG3.1 h with rfl|h
  .
   simp[lZ];omega
  .
   have:=ih h;simp[lZ];omega
theorem aId{d:Nat}(h:∀x ∈ l,aIe x<=d):mC l<=d:=by
 induction l with
 | nil=>simp[mC]| cons y l ih=>
  have h1:=h y A8;have h2:=ih fun x hx=>h x (by simp[hx]);simp[mC];omega
theorem aIc{l:List St}{d:Nat}(h:∀x ∈ l,aJr x<=d):lZ l<=d:=by
 induction l with
 | nil=>simp[lZ]| cons y l ih=>
  have h1:=h y A8;have h2:=ih fun x hx=>h x (by simp[hx]);simp[lZ];omega
def jY (e:Ex)(d left:Int):Bool:=tZ e && decide ((cQ e:Int)<=left) && decide (d+(aIe e:Int)<=17)
def jN (l:List Ex)(d left:Int):Bool:=jO l && decide ((aD l:Int)<=left) && (decide (l.length=0) || decide (d+(mC l:Int)<=17))
def aY (e:St)(d left:Int):Bool:=aFr e && decide ((gD e:Int)<=left) && decide (d+(aJr e:Int)<=17)
def cI (l:List St)(d left:Int):Bool:=iP l && decide ((aK l:Int)<=left) && (decide (l.length=0) || decide (d+(lZ l:Int)<=17))
theorem aEo{d:Int}(h:l[j]?=some x)(hx:jY x d (left-(aD (l.take j):Int))=false):jN l d left=false:=by
 unfold jY at hx;have hm:=zA3 h;have h1:=bR h;have h2:=aBi l (j+1);have h3:=aMp hm;have h4:l.length ≠ 0:=by intro h0;have:=zE0 h0;subst this;simp at hm
 unfold jN;simp only[zH3,zH0,Bool.or_eq_false_iff]at hx ⊢;rcases hx with (hx|hx)|hx
 .
  left;left;rw[oQ,List.all_eq_false];exact⟨x,hm,by simp[hx]⟩
 .
  left;right;omega
 .
  right;exact⟨h4,by omega⟩
theorem aB6{d:Int}(h:∀j x,l[j]?=some x->jY x d (left-(aD (l.take j):Int))=true)(hl:0<=left):jN l d left=true:=by
 unfold jN;simp only[zC0,zE3,Bool.or_eq_true];have h1:jO l=true:=by
  rw[oQ,zF3];intro x hx;obtain⟨j,hj⟩:=List.getElem?_of_mem hx;have:=h j x hj;unfold jY at this;simp only[zC0]at this;exact this.1.1
 refine⟨⟨h1, ?_⟩, ?_⟩
 .
  rcases zG0 l.length with h0|hp
  .
   have:=zE0 h0;subst this;simpa [aD] using hl
  .
   have hj:l[l.length-1]?=some (l[l.length-1]' A0):=zA0 _;have:=h _ _ hj;have h2:=bR hj;rw[show l.length-1+1=l.length by omega,List.take_length]at h2;unfold jY at this;exact QA65
 .
  by_cases h0:l.length=0
  .
   exact .inl h0
  .
   right;have:mC l<=(17-d).toNat:=aId fun x hx=>by
    obtain⟨j,hj⟩:=List.getElem?_of_mem hx;have:=h j x hj;unfold jY at this;exact QA65
   have h3:0<=17-d:=by
    have hj:l[0]?=some (l[0]' A0):=zA0 _;have:=h _ _ hj;unfold jY at this;exact QA65
   omega
theorem aEm{l:List St}{d:Int}{x:St}(h:l[j]?=some x)(hx:aY x d (left-(aK (l.take j):Int))=false):cI l d left=false:=by
 unfold aY at hx;have hm:=zA3 h;have h1:=eT h;have h2:=aBg l (j+1);have h3:=aMo hm;have h4:l.length ≠ 0:=by intro h0;have:=zE0 h0;subst this;simp at hm
 unfold cI;simp only[zH3,zH0,Bool.or_eq_false_iff]at hx ⊢;rcases hx with (hx|hx)|hx
 .
  left;left;rw[oP,List.all_eq_false];exact⟨x,hm,by simp[hx]⟩
 .
  left;right;omega
 .
  right;exact⟨h4,by omega⟩
theorem aB2{l:List St}{d:Int}(h:∀j x,l[j]?=some x->aY x d (left-(aK (l.take j):Int))=true)(hl:0<=left):cI l d left=true:=by
 unfold cI;simp only[zC0,zE3,Bool.or_eq_true];have h1:iP l=true:=by
  rw[oP,zF3];intro x hx;obtain⟨j,hj⟩:=List.getElem?_of_mem hx;have:=h j x hj;unfold aY at this;simp only[zC0]at this;exact this.1.1
 refine⟨⟨h1, ?_⟩, ?_⟩
 .
  rcases zG0 l.length with h0|hp
  .
   have:=zE0 h0;subst this;simpa [aK] using hl
  .
   have hj:l[l.length-1]?=some (l[l.length-1]' A0):=zA0 _;have:=h _ _ hj;have h2:=eT hj;rw[show l.length-1+1=l.length by omega,List.take_length]at h2;unfold aY at this;exact QA65
 .
  by_cases h0:l.length=0
  .
   exact .inl h0
  .
   right;have:lZ l<=(17-d).toNat:=aIc fun x hx=>by
    obtain⟨j,hj⟩:=List.getElem?_of_mem hx;have:=h j x hj;unfold aY at this;exact QA65
   have h3:0<=17-d:=by
    have hj:l[0]?=some (l[0]' A0):=zA0 _;have:=h _ _ hj;unfold aY at this;exact QA65
   omega
end
def e0:Ex:=.mk 0 0 [] [] []
theorem eL (x:Ex):x.fl.length=5:=by cases x;simp[Ex.fl]
theorem aKd (x:St):x.fl.length=6:=by cases x;simp[St.fl]
def exT (k n:Int)(mod name:List Int)(ks:List Ex):Bool:=gZ k n mod name ks.length && (decide (k=6) || !ks.any lH)
def stT (k n:Int)(name:List Int)(ks:List Ex)(nb ne:Nat):Bool:=oK k n name ks nb ne
theorem aS8 {k:Int}(h:inB k 0 7=true):k=0\/k=1\/k=2\/k=3\/k=4\/k=5\/k=6\/k=7:=by
 simp[inB]at h;omega
theorem aAd (k n:Int)(mod name:List Int)(ks:List Ex):exT k n mod name ks=(gZ k n mod name ks.length && (decide (k=6) || !ks.any lH)):=rfl
theorem tD (k n:Int)(name:List Int)(ks:List Ex)(nb ne:Nat):stT k n name ks nb ne=oK k n name ks nb ne:=rfl
section
variable{g i:Nat}{v:Value}{w w':World}
theorem uO:w.grownBy (w.setCell ⟨g,i,none⟩ v) (some g):=
 ⟨rfl,rfl,rfl,by simp,fun k hk Ae=>heap_setCell_other w ⟨g,i,none⟩ k v (fun e=>Ae (by simp at e;rw[e]))⟩
theorem bW{w0:World}(h:Below w0.heap.size w0 w)(hg:w.grownBy w' (some g))(hB:w0.heap.size<=g):Below w0.heap.size w0 w':=
 h.grown hg h.size (fun k hk=>by cases hk;exact hB)
theorem Blk.grown{k:Nat}{T:TypeId}{vs:List Value}(h:Blk w g T vs)(hg:w.grownBy w' (some k))(Ae:g ≠ k):Blk w' g T vs:=
 (hg.block g h.lt (fun e=>Ae (by cases e;rfl))).trans h
theorem cG{k:Nat}(h:w.cell? ⟨g,i,none⟩=some v)(hg:w.grownBy w' (some k))(Ae:g ≠ k):w'.cell? ⟨g,i,none⟩=some v:=by
 rw[World.cell?_of_block (a:=⟨g,i,none⟩) (hg.block g (zI2 w _ h) (fun e=>Ae (by cases e;rfl)))];exact h
theorem aH3{x:Ex}{d left:Int}(h:jY x d left=true):(cQ x:Int)<=left:=by
 unfold jY at h;simp only[zC0,zE3]at h;exact h.1.2
end
theorem aB7 {x:Ex}{d left:Int}(h:left<1\/16<d):jY x d left=false:=by
 unfold jY;simp only[zH3,zH0];have h1:1<=cQ x:=by cases x;simp[cQ]
 have h2:1<=aIe x:=by cases x;simp[aIe]
 rcases h with h|h
 .
  left;right;omega
 .
  right;omega
theorem aB9 {k n:Int}{mod name:List Int}{ks:List Ex}{d left:Int}(h:exT k n mod name ks=false):jY (.mk k n mod name ks) d left=false:=by
 unfold jY;rw[show tZ (.mk k n mod name ks)=(exT k n mod name ks && jO ks) by rw[aAd,tZ],h];rfl
theorem aB8 {k n:Int}{mod name:List Int}{ks:List Ex}{d left:Int}(h:exT k n mod name ks=true)(hl:1<=left)(hd:d<=16):jY (.mk k n mod name ks) d left=jN ks (d+1) (left-1):=by
 unfold jY jN;rw[show tZ (.mk k n mod name ks)=(exT k n mod name ks && jO ks) by rw[aAd,tZ],h,Bool.true_and];have e1:decide ((cQ (.mk k n mod name ks):Int)<=left)=decide ((aD ks:Int)<=left-1):=by
  rw[decide_eq_decide];simp only[cQ];omega
 rw[e1];congr 1;by_cases h0:ks.length=0
 .
  have:=zE0 h0;subst this;rw[zB3 (show d+(aIe (.mk k n mod name []):Int)<=17 by simp only[aIe,mC];omega)];simp
 .
  rw[zC2 h0,Bool.false_or,decide_eq_decide];simp only[aIe];omega
section
variable{left:Int}{ks:List Ex}{es:List St}{x:St}
def s0:St:=.mk 0 0 [] [] [] []
theorem aH2{d:Int}(h:aY x d left=true):(gD x:Int)<=left:=by
 unfold aY at h;simp only[zC0,zE3]at h;exact h.1.2
theorem qS{d:Int}(h:left<1\/16<d):aY x d left=false:=by
 unfold aY;simp only[zH3,zH0];have h1:1<=gD x:=by cases x;simp[gD]
 have h2:1<=aJr x:=by cases x;simp[aJr]
 rcases h with h|h
 .
  left;right;omega
 .
  right;omega
theorem aDm (k n:Int)(name:List Int)(ks:List Ex)(bs es:List St):aFr (.mk k n name ks bs es)=(stT k n name ks bs.length es.length && jO ks && iP bs && iP es):=by rw[tD,aFr]
theorem mW{k n:Int}{name:List Int}{bs:List St}{d:Int}(h:stT k n name ks bs.length es.length=false):aY (.mk k n name ks bs es) d left=false:=by
 unfold aY;rw[aDm,h];rfl
def aPs (ks:List Ex)(bs es:List St)(d left:Int):Bool:=jN ks d left && cI bs d (left-(aD ks:Int)) && cI es d (left-(aD ks:Int)-(aK bs:Int))
theorem qW {l:List St}(h:l.length=0):lZ l=0:=by rw[zE0 h];rfl
theorem aCf {l:List Ex}(h:l.length=0):mC l=0:=by rw[zE0 h];rfl
theorem aB3{k n:Int}{name:List Int}{bs:List St}{d:Int}(h:stT k n name ks bs.length es.length=true)(hl:1<=left)(hd:d<=16):aY (.mk k n name ks bs es) d left=aPs ks bs es (d+1) (left-1):=by
 unfold aY aPs jN cI;rw[aDm,h,Bool.true_and,Bool.eq_iff_iff];have e1:gD (.mk k n name ks bs es)=1+(aD ks+aK bs+aK es):=by simp only[gD]
 have e2:aJr (.mk k n name ks bs es)=1+max (mC ks) (max (lZ bs) (lZ es)):=by simp only[aJr]
 rw[e1,e2];clear e1 e2;simp only[zC0,zE3,Bool.or_eq_true];have a1:=@aCf ks;have a2:=@qW bs;have a3:=@qW es;constructor
 .
  rintro⟨⟨⟨⟨h1,h2⟩,h3⟩,h4⟩,h5⟩;exact⟨⟨⟨⟨h1,by omega⟩,.inr A0⟩,⟨h2,by omega⟩,.inr A0⟩,⟨h3,by omega⟩,.inr A0⟩
 .
  rintro⟨⟨⟨⟨h1,b1⟩,c1⟩,⟨h2,b2⟩,c2⟩,⟨h3,b3⟩,c3⟩;refine⟨⟨⟨⟨h1,h2⟩,h3⟩,by omega⟩, ?_⟩;rcases c1 with c1|c1 <;> rcases c2 with c2|c2 <;> rcases c3 with c3|c3 <;> omega
theorem eK{l:List St}{d:Int}(h:cI l d left=true):(aK l:Int)<=left:=by
 unfold cI at h;simp only[zC0,zE3]at h;exact h.1.2
theorem aEp{l:List Ex}{d:Int}(h:jN l d left=true):(aD l:Int)<=left:=by
 unfold jN at h;simp only[zC0,zE3]at h;exact h.1.2
end
section
variable{Bh:Bool}{x:Ex}{left:Int}{ks l:List Ex}{nk:Nat}
def eN (k:Int)(nk:Nat):Int:=if k=0 then 0 else if k=1 then 0 else if k=4 then 0 else if k=5 then 0 else if k=7 then 0 else if k=2 then 1 else if k=3 then 2 else if k=6 then (if nk<=4 then nk else -1) else -1
theorem tG (k:Int)(nk:Nat):eN k nk=nk ↔ (inB k 0 7=true/\cX k<=nk/\(nk:Int)<=iM k):=by
 unfold eN cX iM inB;simp only[zC0,zE3];constructor
 .
  intro h;split at h
  .
   rename_i h0;subst h0;simp;omega
  split at h
  .
   rename_i h0;subst h0;simp;omega
  split at h
  .
   rename_i h0;subst h0;simp;omega
  split at h
  .
   rename_i h0;subst h0;simp;omega
  split at h
  .
   rename_i h0;subst h0;simp;omega
  split at h
  .
   rename_i h0;subst h0;simp;omega
  split at h
  .
   rename_i h0;subst h0;simp;omega
  split at h
  .
   rename_i h0;subst h0;split at h
   .
    simp;omega
   .
    omega
  .
   omega
 .
  rintro⟨⟨h1,h2⟩,h3,h4⟩;have h8:k=0\/k=1\/k=2\/k=3\/k=4\/k=5\/k=6\/k=7:=by omega
  rcases h8 with rfl|rfl|rfl|rfl|rfl|rfl|rfl|rfl <;> simp at h3 h4 ⊢ <;> omega
theorem cM{k n:Int}{mod name:List Int}(h:inB k 0 7=false\/inB nk (cX k) (iM k)=false\/inB n (fV k) (dK k)=false\/(eC k=true/\aN name false=false)\/(eC k=false/\¬name.length=0)\/(¬mod.length=0/\¬k=6)\/(¬mod.length=0/\aN mod true=false)):gZ k n mod name nk=false:=by
 unfold gZ;rcases h with h|h|h|⟨h1,h2⟩|⟨h1,h2⟩|⟨h1,h2⟩|⟨h1,h2⟩
 .
  rw[h];rfl
 .
  rw[h];simp
 .
  rw[h];simp
 .
  rw[h1,if_pos rfl,h2];simp
 .
  rw[h1,zC2 h2];simp
 .
  rw[zC2 h1,zC2 h2];simp
 .
  rw[zC2 h1,h2];simp
theorem jF{k n:Int}{mod name:List Int}(h1:inB k 0 7=true)(h2:inB nk (cX k) (iM k)=true)(h3:inB n (fV k) (dK k)=true)(h4:(if eC k then aN name false else decide (name.length=0))=true)(h5:(decide (mod.length=0) || decide (k=6) && aN mod true)=true):gZ k n mod name nk=true:=by
 unfold gZ;rw[h1,h2,h3,h4,h5];rfl
def cT (x:Ex)(d:Int)(Bh:Bool)(left:Int):Bool:=(!lH x || Bh) && jY x d left
def dY (l:List Ex)(d:Int)(Bh:Bool)(left:Int):Bool:=(Bh || !l.any lH) && jN l d left
theorem eA{d:Int}{j:Nat}(h:l[j]?=some x)(hx:cT x d Bh (left-(aD (l.take j):Int))=false):dY l d Bh left=false:=by
 unfold cT at hx;unfold dY;rw[zH3]at hx ⊢;rcases hx with hx|hx
 .
  left;rw[Bool.or_eq_false_iff]at hx ⊢;refine⟨hx.2, ?_⟩;have h1:lH x=true:=by simpa using hx.1
  have:l.any lH=true:=by rw[List.any_eq_true];exact⟨x,zA3 h,h1⟩
  rw[this];rfl
 .
  right;exact aEo h hx
theorem dJ{d:Int}(h:∀j x,l[j]?=some x->cT x d Bh (left-(aD (l.take j):Int))=true)(hl:0<=left):dY l d Bh left=true:=by
 unfold dY;rw[zC0];refine⟨?_,aB6 (fun j x hx=>by have:=h j x hx;unfold cT at this;rw[zC0]at this;exact this.2) hl⟩;cases Bh
 .
  rw[Bool.false_or];have:l.any lH=false:=by
   rw[List.any_eq_false];intro x hx;obtain⟨j,hj⟩:=List.getElem?_of_mem hx;have:=h j x hj;unfold cT at this;simp only[zC0,Bool.or_eq_true,Bool.not_eq_true',Bool.false_eq_true,or_false]at this;simpa using this.1
  rw[this];rfl
 .
  rfl
theorem fU{d:Int}(h:cT x d Bh left=true):(cQ x:Int)<=left:=by
 unfold cT at h;rw[zC0]at h;exact aH3 h.2
theorem tE{d:Int}(h:left<1\/16<d):cT x d Bh left=false:=by
 unfold cT;rw[aB7 h];simp
theorem bK{k n:Int}{mod name:List Int}{d:Int}(h:gZ k n mod name ks.length=false):cT (.mk k n mod name ks) d Bh left=false:=by
 unfold cT jY tZ;rw[h];simp
theorem aF9{n:Int}{mod name:List Int}{d:Int}:cT (.mk 7 n mod name ks) d false left=false:=by
 unfold cT lH Ex.kind;simp
theorem eH{k n:Int}{mod name:List Int}{d:Int}(h:gZ k n mod name ks.length=true)(ha:¬k=7\/Bh=true)(hl:1<=left)(hd:d<=16):cT (.mk k n mod name ks) d Bh left=dY ks (d+1) (decide (k=6)) (left-1):=by
 have h1:(!lH (.mk k n mod name ks) || Bh)=true:=by
  rcases ha with ha|ha
  .
   simp[lH,Ex.kind,ha]
  .
   rw[ha];simp
 unfold cT dY;rw[h1,Bool.true_and];cases hx:(decide (k=6) || !ks.any lH)
 .
  rw[Bool.false_and];refine aB9 ?_;rw[aAd,hx];simp
 .
  rw[Bool.true_and];exact aB8 (by rw[aAd,h,hx];rfl) hl hd
theorem jX{k:Int}(h:inB (ks.length:Int) (cX k) (iM k)=true)(hk:iM k=0):ks.length=0:=by
 unfold inB at h;rw[hk]at h;simp only[zC0,zE3]at h;omega
theorem jS{d m:Int}(h:0<=m):dY [] d Bh m=true:=by
 simp[dY,jN,jO,aD,h]
end
theorem QA29{p:Prop}(h:p:=by
 go_wp2
 go_ret
 exact⟨hz.out _ hv.out,y0⟩):p:=h
set_option maxHeartbeats 1000000 in
theorem aLd (k n:Int)(v2 v3:Value)(a:Option Addr)(nk c:Nat)(w:World)(hk:nk<=9223372036854775807):
  Calls Tryz.prog 193 #[.agg #[.int .i64 k,.int .i64 n,v2,v3,.slice a nk c]] w fun e w'=>e=.returned (.int .i64 (eN k nk))/\w.grownBy w' none:=by
 have y0:=aE w (.cells #[.int .i64 k,.int .i64 n,v2,v3,.slice a nk c] 176 (0,0)) none;have q0:=aZ w 176 #[.int .i64 k,.int .i64 n,v2,v3,.slice a nk c] 0 _ rfl;have q4:=aZ w 176 #[.int .i64 k,.int .i64 n,v2,v3,.slice a nk c] 4 _ rfl;have hz:Hid (∀x:Int,eN k nk=x->Ending.returned (.int .i64 x)=.returned (.int .i64 (eN k nk))):=fun x h=>by rw[h]
 go_enter Tryz.func193,Tryz.ntmps193;go_upto_region 1 with fail;generalize w.alloc (.cells #[.int .i64 k,.int .i64 n,v2,v3,.slice a nk c] 176 (0,0))=w1 at *;by_cases k0:k=0
 .
  subst k0;have hv:Hid (eN 0 nk=0):=by show _=_;simp[eN]
  exact QA29
 have g0:(k == 0)=false:=by simpa using k0
 by_cases k1:k=1
 .
  subst k1;have hv:Hid (eN 1 nk=0):=by show _=_;simp[eN]
  exact QA29
 have g1:(k == 1)=false:=by simpa using k1
 by_cases k4:k=4
 .
  subst k4;have hv:Hid (eN 4 nk=0):=by show _=_;simp[eN]
  exact QA29
 have g4:(k == 4)=false:=by simpa using k4
 by_cases k5:k=5
 .
  subst k5;have hv:Hid (eN 5 nk=0):=by show _=_;simp[eN]
  exact QA29
 have g5:(k == 5)=false:=by simpa using k5
 by_cases k7:k=7
 .
  subst k7;have hv:Hid (eN 7 nk=0):=by show _=_;simp[eN]
  exact QA29
 have g7:(k == 7)=false:=by simpa using k7
 by_cases k2:k=2
 .
  subst k2;have hv:Hid (eN 2 nk=1):=by show _=_;simp[eN]
  exact QA29
 have g2:(k == 2)=false:=by simpa using k2
 by_cases k3:k=3
 .
  subst k3;have hv:Hid (eN 3 nk=2):=by show _=_;simp[eN]
  exact QA29
 have g3:(k == 3)=false:=by simpa using k3
 by_cases k6:k=6
 .
  subst k6;by_cases h4:nk<=4
  .
   have Ps:(nk:Int)<=4:=by omega
   have hv:Hid (eN 6 nk=nk):=by show _=_;simp[eN,h4]
   exact QA29
  .
   have Ps:¬(nk:Int)<=4:=by omega
   have hv:Hid (eN 6 nk = -1):=by show _=_;simp[eN,h4]
   exact QA29
 have g6:(k == 6)=false:=by simpa using k6
 have hv:Hid (eN k nk = -1):=by show _=_;simp[eN,k0,k1,k2,k3,k4,k5,k6,k7]
 clear k0 k1 k2 k3 k4 k5 k6 k7;exact QA29
end Go.Proofs.YtcbhdhmhidpdgaaGreatDoor

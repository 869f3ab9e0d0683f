import Derived.Test.YtcbhdhmhidpdgaaGreatTree
import Derived.Deep.Cut
import Derived.Deep.CutRange
import Derived.Deep.RegionHeld3
import Derived.Test.YtcbhdhmhidpdgaaGreatName
namespace Go.Proofs.YtcbhdhmhidpdgaaGreat
open Go.RowKit
set_option linter.unusedVariables false
set_option linter.unusedSimpArgs false
set_option maxRecDepth 100000
set_option maxHeartbeats 40000000
def SzV (w:World)(F:Nat)(v:Value)(N:Nat):Prop:=
 ∀(w1:World) (k:Int),Below w.heap.size w w1->0<=k->k<=1048576->Calls Tryz.prog F #[v,.int .i64 k] w1 fun e w'=>e=.returned (.int .i64 (szL k N))/\Below w1.heap.size w1 w'
theorem aB {w w':World}{g i:Nat}{v:Value}(h:w.cell? ⟨g,i,none⟩=some v)(hb:Below w.heap.size w w'):w'.cell? ⟨g,i,none⟩=some v:=by
 rw[hb.cell (zI2 w _ h)];exact h
theorem bA (w:World)(t:TypeId)(vs:Array Value)(i:Nat)(v:Value)(h:vs[i]?=some v):(w.alloc (.cells vs t (0,0))).cell? ⟨w.heap.size,i,none⟩=some v:=by
 rw[cell_of_row _ w.heap.size i vs t (0,0) (zJ0 w _)];exact h
theorem jT.vals {w:World}{b:Nat}{r:List Fl}:∀{off:Nat},jT w b off r->∃vs,aL w r vs/\∀i v,vs[i]?=some v->w.cell? ⟨b,off+i,none⟩=some v:=by
 induction r with
 | nil=>intro off _;exact⟨[],rfl,by simp⟩
 | cons f r ih=>
  intro off h;obtain⟨⟨v,hc,hv⟩,h2⟩:=h;obtain⟨vs,h3,h4⟩:=ih h2;refine⟨v :: vs,⟨v,vs,rfl,hv,h3⟩,fun i u hu=>?_⟩;cases i with
  | zero=>simp only[List.getElem?_cons_zero,zG2]at hu;subst hu;exact hc| succ i=>
   rw[List.getElem?_cons_succ]at hu;have:=h4 i u hu;rw[show off+(i+1)=off+1+i by omega];exact this
theorem SzV.on {w w1:World}{F N:Nat}{v:Value}(h:SzV w F v N)(hb:Below w.heap.size w w1):SzV w1 F v N:=
 fun w2 k hb2 hk hk2=>h w2 k (hb.trans (hb2.mono hb.size)) hk hk2
section
theorem A87{p:Prop}(h:p:=by rw[Hd.out];exact Ad):p:=h
theorem M945{p q:Prop}(k:q)(h:Kx q->p:=by
 intro kQ
 obtain⟨r,hr⟩:∃r,rs[j]?=some r:=⟨rs[j]' A87,zA0 _⟩
 obtain⟨vs,Al,Ab⟩:=((aBd.rows HA.out j wr Kc.out).el hr).vals
 have HC:=aBd.go HA.out j r wr vs hr Kc.out Al ⟨b,off,rfl,Ab⟩
 revert HC;revert Ab;revert Al;revert vs;revert hr;revert r
 exact kQ.o):p:=h ⟨k⟩
theorem M948{p q:Prop}(k:q)(h:Kx q->p:=by
 intro kQ
 have Hd:=hid hn
 have HA:=hid H
 have hC:=H.ent
 have Gl:=H.rows 0 w h0
 have Rb:n<=9223372036854775807:=by have h1:=Gl.cap;have h2:=Gl.most;unfold maxLen at h2;omega
 have H0:=hid h0
 revert H0;revert Rb;revert Gl;revert hC;revert HA;revert Hd
 exact kQ.o):p:=h ⟨k⟩
variable{a w:World}
theorem aL.len:∀{r:List Fl} {vs:List Value},aL w r vs->vs.length=r.length:=by
 intro r;induction r with
 | nil=>intro vs h;rw[show vs=[] from h];rfl| cons f r ih=>intro vs h;obtain⟨v,us,rfl,_,h2⟩:=h;simp[ih h2]
theorem aQ (w:World)(row:Option Nat):w.grownBy w row:=⟨rfl,rfl,rfl,zB0 _,fun _ _ _=>rfl⟩
theorem aC{b c:World}{row:Option Nat}(h:a.grownBy b row)(k:b.grownBy c row):a.grownBy c row:=
 ⟨k.os.trans h.os,k.tape.trans h.tape,k.output.trans h.output,zF2 h.size k.size,fun i hi hr=>(k.block i (Nat.lt_of_lt_of_le hi h.size) hr).trans (h.block i hi hr)⟩
theorem aA{b:World}(h:a.grownBy b none):Below a.heap.size a b:=⟨h.os,h.tape,h.output,h.size,fun k hk=>h.block k hk A9⟩
theorem aN{b:World}(h:Below a.heap.size a b)(row:Option Nat):a.grownBy b row:=⟨h.os,h.tape,h.output,h.size,fun k hk _=>h.block k hk⟩
theorem aE (w:World)(x:Obj)(row:Option Nat):w.grownBy (w.alloc x) row:=aN ((zD2 _ _).alloc (zB0 _) x) row
theorem dC{b:World}(h:a.grownBy b none)(row:Option Nat):a.grownBy b row:=⟨h.os,h.tape,h.output,h.size,fun k hk _=>h.block k hk A9⟩
def Ent (C:Nat):Prop:=∀args w,Sem.run Tryz.prog (callFunc C args) w=.ok (.enter C args) w
def tC (w:World)(a:Option Addr)(o:Nat)(vs:List Value):Prop:=∃b off,a=some ⟨b,off,none⟩/\∀i v,vs[i]?=some v->w.cell? ⟨b,off+o+i,none⟩=some v
theorem tC.below{w':World}{a:Option Addr}{o:Nat}{vs:List Value}(h:tC w a o vs)(hb:Below w.heap.size w w'):tC w' a o vs:=by
 obtain⟨b,off,e,hc⟩:=h;exact⟨b,off,e,fun i v hv=>aB (hc i v hv) hb⟩
structure aBd (s:Bool) (G:Nat) (caps:Array Value) (row:Option Nat) (mkv:List Value->Value) (a:Option Addr) (c K:Nat) (rs:List (List Fl)) (P:Nat->Bool) (Inv Q:Nat->World->Prop):Prop where
 ent:Ent G
 rows:∀j wr,Inv j wr->aX wr a c K rs
 each:∀r ∈ rs,r.length=K
 go:∀j r wr vs,rs[j]?=some r->Inv j wr->aL wr r vs->tC wr a (j*K) vs->Calls Tryz.prog G (#[mkv vs]++caps) wr fun e w'=>e=.returned (.bool (P j))/\wr.grownBy w' row/\(P j=(!s)->Inv (j+1) w')/\(P j=s->Q j w')
structure aRe (s:Bool) (n:Nat) (P:Nat->Bool) (Inv Q:Nat->World->Prop) (b:Bool) (w:World):Prop where
 yes:b=true->∃j,j<n/\P j=s/\(∀i,i<j->P i=(!s))/\Q j w
 no:b=false->(∀i,i<n->P i=(!s))/\Inv n w
def one (vs:List Value):Value:=vs[0]?.getD undef
def agg (vs:List Value):Value:=.agg vs.toArray
theorem aAt{f:FuncId}{fn:Func}{c:Code}(hf : Tryz.prog.funcs[f]? = some fn)(hname : (fn.name == "runtime.NumGoroutine") = false)(hb : fn.body = some c) : Ent f := by
 intro args w;have h1 : fn.name ≠ "runtime.NumGoroutine" := by simpa using hname
 simp[callFunc,go_sem,hf,h1,hb]
theorem aGl{n:Nat}{P:Nat->Bool}{Inv Q:Nat->World->Prop}{b:Bool}(h:aRe false n P Inv Q (!b) w):b=(List.range n).all P:=by
 cases b with
 | true=>
  have:=(h.no rfl).1
  symm;rw[zF3]
  intro x hx;simpa using this x (by simpa using hx)
 | false=>
  obtain⟨j,hj,hp,_⟩:=h.yes rfl
  symm;rw[List.all_eq_false]
  exact⟨j,by simpa using hj,by simp[hp]⟩
theorem aWz{α:Type}{l:List α}(h:l.length=1):∃v0,l=[v0]:=by
 match l,h with
 | [v0],_=>exact⟨v0,rfl⟩
theorem aVi{α:Type}{l:List α}(h:l.length=2):∃v0 v1,l=[v0,v1]:=by
 match l,h with
 | [v0,v1],_=>exact⟨v0,v1,rfl⟩
theorem aVh{α:Type}{l:List α}(h:l.length=3):∃v0 v1 v2,l=[v0,v1,v2]:=by
 match l,h with
 | [v0,v1,v2],_=>exact⟨v0,v1,v2,rfl⟩
theorem aVg{α:Type}{l:List α}(h:l.length=5):∃v0 v1 v2 v3 v4,l=[v0,v1,v2,v3,v4]:=by
 match l,h with
 | [v0,v1,v2,v3,v4],_=>exact⟨v0,v1,v2,v3,v4,rfl⟩
theorem aVf{α:Type}{l:List α}(h:l.length=6):∃v0 v1 v2 v3 v4 v5,l=[v0,v1,v2,v3,v4,v5]:=by
 match l,h with
 | [v0,v1,v2,v3,v4,v5],_=>exact⟨v0,v1,v2,v3,v4,v5,rfl⟩
def aW0 (F K:Nat)(mkv:List Value->Value):Prop:=∀(C:Nat) (caps:Array Value) (row:Option Nat) (a:Option Addr) (n c:Nat) (rs:List (List Fl)) (P:Nat->Bool) (Inv Q:Nat->World->Prop) (w:World),aBd true C caps row mkv a c K rs P Inv Q->rs.length=n->Inv 0 w →
 Calls Tryz.prog F #[.slice a n c,.func (.func C) #[] caps] w fun e w'=>∃r:Int,e=.returned (.int .i64 r)/\w.grownBy w' row/\aRe true n P Inv Q (decide (0<=r)) w'
def aUz (F K:Nat)(mkv:List Value->Value):Prop:=∀(C:Nat) (caps:Array Value) (row:Option Nat) (a:Option Addr) (n c:Nat) (rs:List (List Fl)) (P:Nat->Bool) (Inv Q:Nat->World->Prop) (w:World),aBd true C caps row mkv a c K rs P Inv Q->rs.length=n->Inv 0 w →
 Calls Tryz.prog F #[.slice a n c,.func (.func C) #[] caps] w fun e w'=>∃r:Bool,e=.returned (.bool r)/\w.grownBy w' row/\aRe true n P Inv Q r w'
theorem aQc:∀p ∈ ([
  (55,5,agg),
  (63,3,agg),
  ]:List (Nat × Nat × (List Value->Value))),aW0 p.1 p.2.1 p.2.2:=by
 simp only[List.forall_mem_cons]
 repeat' apply And.intro
 all_goals first|(intro _ h;cases h;done)|skip
 all_goals
  intro C caps row a n c rs P Inv Q w H hn h0;refine M948 ?_;intro Hd HA hC Gl Rb H0;clear H h0;rcases zG0 n with h0|Dj
  .
   subst h0;clear Gl hn;first
   | go_enter Tryz.func55,Tryz.ntmps55| go_enter Tryz.func63,Tryz.ntmps63
   go_wp2_with fail;refine zH1 1 ?_;rw[zE2];go_wp2;go_ret;exact⟨_,rfl,aQ _ _,⟨by simp,fun _=>⟨by simp,H0.out⟩⟩⟩
  .
   obtain⟨b,off,rfl⟩:=Gl.addr (by rw[hn];exact Dj);clear Gl hn;first
   | go_enter Tryz.func55,Tryz.ntmps55| go_enter Tryz.func63,Tryz.ntmps63
   go_wp2_with fail;go_loopw [5,8] (fun _ i wr=>∃j:Nat,j<=n/\i=.int .i64 j/\Hid (∀i,i<j->P i=false)/\Hid (w.grownBy wr row)/\Hid (Inv j wr)) (fun _ i _=>n-(intOf i).toNat)
   case atStart=>exact⟨0,zD1 _,rfl,by show ∀_,_;omega,aQ _ _,H0⟩
   case round=>
    obtain⟨j,hj,rfl,Aj,Am,Kc⟩:=hrel;by_cases Ad:j<n
    .
     refine M945 ?_;intro r hr vs Al Ab HC;have Af:vs.length=_:=(Al.len).trans (aBd.each HA.out r (zA3 hr));first
     | (obtain⟨v0,rfl⟩:=aWz Af;have q0:wr.cell? ⟨b,off+j,none⟩=some v0:=(by have:=Ab 0 _ rfl;simpa using this))
     | (obtain⟨v0,v1,rfl⟩:=aVi Af;have q0:wr.cell? ⟨b,off+j*2,none⟩=some v0:=Ab 0 _ rfl;have q1:wr.cell? ⟨b,off+j*2+1,none⟩=some v1:=Ab 1 _ rfl)| (obtain⟨v0,v1,v2,rfl⟩:=aVh Af;have q0:wr.cell? ⟨b,off+j*3,none⟩=some v0:=Ab 0 _ rfl;have q1:wr.cell? ⟨b,off+j*3+1,none⟩=some v1:=Ab 1 _ rfl;have q2:wr.cell? ⟨b,off+j*3+2,none⟩=some v2:=Ab 2 _ rfl)| (obtain⟨v0,v1,v2,v3,v4,rfl⟩:=aVg Af;have q0:wr.cell? ⟨b,off+j*5,none⟩=some v0:=Ab 0 _ rfl;have q1:wr.cell? ⟨b,off+j*5+1,none⟩=some v1:=Ab 1 _ rfl;have q2:wr.cell? ⟨b,off+j*5+2,none⟩=some v2:=Ab 2 _ rfl;have q3:wr.cell? ⟨b,off+j*5+3,none⟩=some v3:=Ab 3 _ rfl;have q4:wr.cell? ⟨b,off+j*5+4,none⟩=some v4:=Ab 4 _ rfl)| (obtain⟨v0,v1,v2,v3,v4,v5,rfl⟩:=aVf Af;have q0:wr.cell? ⟨b,off+j*6,none⟩=some v0:=Ab 0 _ rfl;have q1:wr.cell? ⟨b,off+j*6+1,none⟩=some v1:=Ab 1 _ rfl;have q2:wr.cell? ⟨b,off+j*6+2,none⟩=some v2:=Ab 2 _ rfl;have q3:wr.cell? ⟨b,off+j*6+3,none⟩=some v3:=Ab 3 _ rfl;have q4:wr.cell? ⟨b,off+j*6+4,none⟩=some v4:=Ab 4 _ rfl;have q5:wr.cell? ⟨b,off+j*6+5,none⟩=some v5:=Ab 5 _ rfl)
     clear Al hr;clear Ab;simp only[agg,one,List.getElem?_cons_zero,zI0]at HC;go_wp2_with fail;rw[hC,Oper.upon_enter];refine HC.mono ?_;rintro e w2 ⟨rfl,hg2,Dl,hy2⟩;have Bp:=hid (aC Am.out hg2);have HN:=hid Dl;have HY:=hid hy2;first|clear q0 q1 q2 q3 q4 q5|clear q0 q1 q2 q3 q4|clear q0 q1 q2|clear q0 q1|clear q0
     clear hg2 HC Dl hy2;by_cases he:P j=true
     .
      rw[he];have HS:=hid he;clear he;go_wp2;go_ret;exact⟨_,rfl,Bp.out,⟨fun _=>⟨j,Ad,HS.out,Aj.out,HY.out HS.out⟩,by simp⟩⟩
     .
      have he:=Bool.not_eq_true _ ▸ he;rw[he];have HS:=hid he;clear he;go_wp2;go_roundw
      case rel=>exact⟨j+1,by omega,by go_num,(show ∀i,i<j+1->P i=false from fun i hi=>(zJ2 i j).elim (fun h=>Aj.out i h) (fun h=>(show j=i by omega) ▸ HS.out)),Bp,HN.out HS.out⟩
      case measure=>simp[intOf];omega
    .
     have:j=n:=by omega
     subst this;go_wp2;go_ret;exact⟨_,rfl,Am.out,⟨by simp,fun _=>⟨Aj.out,Kc.out⟩⟩⟩
theorem aUd:∀p ∈ ([
  (27,5,agg),
  (59,3,agg),
  ]:List (Nat × Nat × (List Value->Value))),aUz p.1 p.2.1 p.2.2:=by
 simp only[List.forall_mem_cons]
 repeat' apply And.intro
 all_goals first|(intro _ h;cases h;done)|skip
 all_goals
  intro C caps row a n c rs P Inv Q w H hn h0;first
  | (go_enter Tryz.func27,Tryz.ntmps27;have HI:=aQc (55,5,agg) A9 C caps row a n c rs P Inv Q w H hn h0)| (go_enter Tryz.func59,Tryz.ntmps59;have HI:=aQc (63,3,agg) A9 C caps row a n c rs P Inv Q w H hn h0)
  clear H h0 hn;go_wp2_with fail;refine HI.mono ?_;rintro e w2 ⟨r,rfl,hr,hb⟩;go_wp2;go_ret;exact⟨_,rfl,hr,hb⟩
theorem qL:aUz 27 5 agg:=aUd (27,5,agg) A9
def aRh (A K:Nat)(mkv:List Value->Value)(X:TypeId):Prop:=∀(T:TypeId),T=X->∀(G:Nat) (caps:Array Value) (vs:List Value) (g:Nat) (P:Bool) (R:World->Prop) (w:World),vs.length=K->w.cell? ⟨g,0,none⟩=some (.func (.func G) #[] caps)->Ent G →
 (∀w1,w.grownBy w1 none->Calls Tryz.prog G (#[mkv vs]++caps) w1 fun e w'=>e=.returned (.bool P)/\R w')->Calls Tryz.prog A #[mkv vs,.pointer (some ⟨g,0,none⟩)] w fun e w'=>e=.returned (.bool (!P))/\R w'
def AlB (F B K:Nat)(mkv:List Value->Value):Prop:=∀(G:Nat) (caps:Array Value) (row:Option Nat) (a:Option Addr) (n c:Nat) (rs:List (List Fl)) (P:Nat->Bool) (Inv Q:Nat->World->Prop) (w:World),
 aBd false G caps row mkv a c K rs P Inv Q->rs.length=n->Inv 0 w->(∀j w w',Inv j w->w.grownBy w' none->Inv j w')->(∀k,row=some k->k<w.heap.size)->Ent B →
 Calls Tryz.prog F #[.slice a n c,.func (.func G) #[] caps] w fun e w'=>∃r:Bool,e=.returned (.bool r)/\w.grownBy w' row/\aRe false n P Inv Q (!r) w'
def aW2 (F A K C:Nat)(mkv:List Value->Value)(X FT:TypeId):Prop:=aUz C K mkv->aRh A K mkv X->∀(T:TypeId) (B:Nat),T=FT->B=A->AlB F B K mkv
theorem aO7:∀p ∈ ([
  (28,5,36),
  ]:List (Nat × Nat × TypeId)),aRh p.1 p.2.1 agg p.2.2:=by
 simp only[List.forall_mem_cons]
 repeat' apply And.intro
 all_goals first|(intro _ h;cases h;done)|skip
 all_goals
  intro T hT G caps vs g P R w hl hg hG H;first
  | (obtain⟨v0,v1,rfl⟩:=aVi hl;have H1:=H _ (aE w (.cells #[v0,v1] T (0,0)) none);have g1:=aB hg (show Below w.heap.size w (w.alloc (.cells #[v0,v1] T (0,0))) from(zD2 _ _).alloc (zB0 _) _);have q0:(w.alloc (.cells #[v0,v1] T (0,0))).cell? ⟨w.heap.size,0,none⟩=some v0:=bA w T #[v0,v1] 0 _ rfl;have q1:(w.alloc (.cells #[v0,v1] T (0,0))).cell? ⟨w.heap.size,1,none⟩=some v1:=bA w T #[v0,v1] 1 _ rfl;obtain⟨w1,Ge⟩:∃w1,w.alloc (.cells #[v0,v1] T (0,0))=w1:=⟨_,rfl⟩;rw[Ge]at H1 g1 q0 q1)| (obtain⟨v0,v1,v2,rfl⟩:=aVh hl;have H1:=H _ (aE w (.cells #[v0,v1,v2] T (0,0)) none);have g1:=aB hg (show Below w.heap.size w (w.alloc (.cells #[v0,v1,v2] T (0,0))) from(zD2 _ _).alloc (zB0 _) _);have q0:(w.alloc (.cells #[v0,v1,v2] T (0,0))).cell? ⟨w.heap.size,0,none⟩=some v0:=bA w T #[v0,v1,v2] 0 _ rfl;have q1:(w.alloc (.cells #[v0,v1,v2] T (0,0))).cell? ⟨w.heap.size,1,none⟩=some v1:=bA w T #[v0,v1,v2] 1 _ rfl;have q2:(w.alloc (.cells #[v0,v1,v2] T (0,0))).cell? ⟨w.heap.size,2,none⟩=some v2:=bA w T #[v0,v1,v2] 2 _ rfl;obtain⟨w1,Ge⟩:∃w1,w.alloc (.cells #[v0,v1,v2] T (0,0))=w1:=⟨_,rfl⟩;rw[Ge]at H1 g1 q0 q1 q2)| (obtain⟨v0,v1,v2,v3,v4,rfl⟩:=aVg hl;have H1:=H _ (aE w (.cells #[v0,v1,v2,v3,v4] T (0,0)) none);have g1:=aB hg (show Below w.heap.size w (w.alloc (.cells #[v0,v1,v2,v3,v4] T (0,0))) from(zD2 _ _).alloc (zB0 _) _);have q0:(w.alloc (.cells #[v0,v1,v2,v3,v4] T (0,0))).cell? ⟨w.heap.size,0,none⟩=some v0:=bA w T #[v0,v1,v2,v3,v4] 0 _ rfl;have q1:(w.alloc (.cells #[v0,v1,v2,v3,v4] T (0,0))).cell? ⟨w.heap.size,1,none⟩=some v1:=bA w T #[v0,v1,v2,v3,v4] 1 _ rfl;have q2:(w.alloc (.cells #[v0,v1,v2,v3,v4] T (0,0))).cell? ⟨w.heap.size,2,none⟩=some v2:=bA w T #[v0,v1,v2,v3,v4] 2 _ rfl;have q3:(w.alloc (.cells #[v0,v1,v2,v3,v4] T (0,0))).cell? ⟨w.heap.size,3,none⟩=some v3:=bA w T #[v0,v1,v2,v3,v4] 3 _ rfl;have q4:(w.alloc (.cells #[v0,v1,v2,v3,v4] T (0,0))).cell? ⟨w.heap.size,4,none⟩=some v4:=bA w T #[v0,v1,v2,v3,v4] 4 _ rfl;obtain⟨w1,Ge⟩:∃w1,w.alloc (.cells #[v0,v1,v2,v3,v4] T (0,0))=w1:=⟨_,rfl⟩;rw[Ge]at H1 g1 q0 q1 q2 q3 q4)
  | (obtain⟨v0,v1,v2,v3,v4,v5,rfl⟩:=aVf hl;have H1:=H _ (aE w (.cells #[v0,v1,v2,v3,v4,v5] T (0,0)) none);have g1:=aB hg (show Below w.heap.size w (w.alloc (.cells #[v0,v1,v2,v3,v4,v5] T (0,0))) from(zD2 _ _).alloc (zB0 _) _);have q0:(w.alloc (.cells #[v0,v1,v2,v3,v4,v5] T (0,0))).cell? ⟨w.heap.size,0,none⟩=some v0:=bA w T #[v0,v1,v2,v3,v4,v5] 0 _ rfl;have q1:(w.alloc (.cells #[v0,v1,v2,v3,v4,v5] T (0,0))).cell? ⟨w.heap.size,1,none⟩=some v1:=bA w T #[v0,v1,v2,v3,v4,v5] 1 _ rfl;have q2:(w.alloc (.cells #[v0,v1,v2,v3,v4,v5] T (0,0))).cell? ⟨w.heap.size,2,none⟩=some v2:=bA w T #[v0,v1,v2,v3,v4,v5] 2 _ rfl;have q3:(w.alloc (.cells #[v0,v1,v2,v3,v4,v5] T (0,0))).cell? ⟨w.heap.size,3,none⟩=some v3:=bA w T #[v0,v1,v2,v3,v4,v5] 3 _ rfl;have q4:(w.alloc (.cells #[v0,v1,v2,v3,v4,v5] T (0,0))).cell? ⟨w.heap.size,4,none⟩=some v4:=bA w T #[v0,v1,v2,v3,v4,v5] 4 _ rfl;have q5:(w.alloc (.cells #[v0,v1,v2,v3,v4,v5] T (0,0))).cell? ⟨w.heap.size,5,none⟩=some v5:=bA w T #[v0,v1,v2,v3,v4,v5] 5 _ rfl;obtain⟨w1,Ge⟩:∃w1,w.alloc (.cells #[v0,v1,v2,v3,v4,v5] T (0,0))=w1:=⟨_,rfl⟩;rw[Ge]at H1 g1 q0 q1 q2 q3 q4 q5)
  subst hT;clear H hg hl;simp only[agg]at H1 ⊢;first
  | go_enter Tryz.func28,Tryz.ntmps28
  go_upto_region 1 with fail;try rw[Ge]
  clear Ge;go_wp2_with fail;rw[hG,Oper.upon_enter];refine H1.mono ?_;rintro e w2 ⟨rfl,hR⟩;first|clear g1 q0 q1 q2 q3 q4 q5|clear g1 q0 q1 q2 q3 q4|clear g1 q0 q1 q2|clear g1 q0 q1
  go_wp2;go_ret;exact⟨rfl,hR⟩
theorem aUw:∀p ∈ ([
  (13,28,5,27,agg,36,58),
  ]:List (Nat × Nat × Nat × Nat × (List Value->Value) × TypeId × TypeId)),aW2 p.1 p.2.1 p.2.2.1 p.2.2.2.1 p.2.2.2.2.1 p.2.2.2.2.2.1 p.2.2.2.2.2.2:=by
 simp only[List.forall_mem_cons]
 repeat' apply And.intro
 all_goals first|(intro _ h;cases h;done)|skip
 all_goals
  intro hcx Gj T B hT hB G caps row a n c rs P Inv Q w H hn h0 Dy An hE;have x0:=bA w T #[.func (.func G) #[] caps] 0 _ rfl;have hk:some w.heap.size ≠ row:=fun h=>Nat.lt_irrefl _ (An _ h.symm);have HC:=hcx B #[.pointer (some ⟨w.heap.size,0,none⟩)] row a n c rs (fun j=>!P j) (fun j wr=>Inv j wr/\wr.cell? ⟨w.heap.size,0,none⟩=some (.func (.func G) #[] caps)) Q (w.alloc (.cells #[.func (.func G) #[] caps] T (0,0))) (by
   refine⟨hE,fun j wr h=>H.rows j wr h.1,H.each, ?_⟩;intro j r wr vs hr hi Al hca;have Af:=(Al.len).trans (H.each r (zA3 hr));subst hB;have h1:=Gj _ rfl G caps vs w.heap.size (P j) (fun w'=>wr.grownBy w' row/\(P j=true->Inv (j+1) w'/\w'.cell? ⟨w.heap.size,0,none⟩=some (.func (.func G) #[] caps))/\(P j=false->Q j w')) wr Af hi.2 H.ent ?_
   .
    refine h1.mono ?_;rintro e w' ⟨rfl,h2,h3,h4⟩;refine⟨rfl,h2,fun h=>h3 A62,fun h=>h4 A62⟩
   .
    intro w1 Ge;refine(H.go j r w1 vs hr (Dy _ _ _ hi.1 Ge) (Al.below (aA Ge)) (hca.below (aA Ge))).mono ?_;rintro e w' ⟨rfl,h2,h3,h4⟩;have h5:=aC (dC Ge row) h2;refine⟨rfl,h5,fun h=>⟨h3 h, ?_⟩,h4⟩;have Ad:=zI2 wr _ hi.2;rw[World.cell?_of_block (a:=⟨w.heap.size,0,none⟩) (h5.block _ Ad hk)];exact hi.2) hn ⟨Dy _ _ _ h0 (aE w _ none),x0⟩
  clear H An Dy hn h0 hcx Gj;subst hT hB;first
  | go_enter Tryz.func13,Tryz.ntmps13
  go_wp2_with fail;refine HC.mono ?_;rintro e w2 ⟨r,rfl,hg2,ht⟩;have ht2:aRe false n P Inv Q r w2:=⟨fun h=>by
    obtain⟨j,h1,h2,h3,h4⟩:=ht.yes h;exact⟨j,h1,by simpa using h2,fun i hi=>by simpa using h3 i hi,h4⟩,fun h=>⟨fun i hi=>by simpa using (ht.no h).1 i hi,(ht.no h).2.1⟩⟩
  clear ht HC;go_wp2;go_ret;exact⟨_,rfl,aC (aE w _ row) hg2,by simpa using ht2⟩
theorem aFw:AlB 13 28 5 agg:=aUw (13,28,5,27,agg,36,58) A9 qL (aO7 (28,5,36) A9) _ _ rfl rfl
end
section
theorem A83{p:Prop}(h:p:=by simpa using hg):p:=h
theorem QA97{p:Prop}(h:p:=by
 unfold Fl.Has at h ⊢
 obtain⟨g,e,h1,h2,h3,r⟩:=h
 exact⟨g,e,h1,h2,(hs g h1 h2).trans h3,r⟩):p:=h
theorem QA106{p:Prop}(h:p:=by
 unfold Fl.Has at h ⊢
 obtain⟨g,e,h1,h2,h3,r⟩:=h
 exact⟨g,e,by omega,by omega,h3,r⟩):p:=h
variable{f:Fl}{r:List Fl}{us:List Value}{g hi hi' lo lo':Nat}{v:Value}{w w':World}
theorem sF{base:Nat}{l:List Int}(hg:w.heap[g]?=some (.cells (l.map (Value.int .i64)).toArray 3 (0,0)))(hb:base<=g)(hm:l.length<=maxLen)(Bu:∀x ∈ l, -9223372036854775808<=x/\x<=9223372036854775807):
  aF6 w (some ⟨g,0,none⟩) l.length l:=by
 refine⟨rfl,Bu,fun hn=>⟨g,0,rfl,fun i hi=>?_⟩⟩;rw[zJ1,cell_of_row w g i _ _ (0,0) hg];simp[hi]
mutual
def Fl.Has (w:World):Nat->Nat->Fl->Value->Prop
 | lo,hi,.b l,v=>∃g,v=.slice (some ⟨g,0,none⟩) l.length l.length/\lo<=g/\g<hi/\w.heap[g]?=some (.cells (l.map (Value.int .u8)).toArray 5 (0,0))/\(∀x ∈ l,0<=x/\x<=255)/\l.length<=maxLen| lo,hi,.i l,v=>∃g,v=.slice (some ⟨g,0,none⟩) l.length l.length/\lo<=g/\g<hi/\w.heap[g]?=some (.cells (l.map (Value.int .i64)).toArray 3 (0,0))/\(∀x ∈ l, -9223372036854775808<=x/\x<=9223372036854775807)/\l.length<=maxLen| lo,hi,.n x,v=>v=.int .i64 x| lo,hi,.t x,v=>v=.bool x| lo,hi,.l k rs,v=>∃g vs T,v=.slice (some ⟨g,0,none⟩) rs.length rs.length/\lo<=g/\g<hi/\w.heap[g]?=some (.cells (List.toArray vs) T (0,0))/\rs.length<=maxLen/\bF w k (g+1) hi rs vs
def bT (w:World):Nat->Nat->List Fl->List Value->Prop
 | lo,hi,[],us=>us=[]| lo,hi,f :: r,us=>∃u us' mid,us=u :: us'/\lo<=mid/\mid<=hi/\Fl.Has w lo mid f u/\bT w mid hi r us'
def bF (w:World)(k:Nat):Nat->Nat->List (List Fl)->List Value->Prop
 | lo,hi,[],vs=>vs=[]| lo,hi,r :: rs,vs=>∃us vs' mid,vs=us++vs'/\us.length=k/\lo<=mid/\mid<=hi/\bT w lo mid r us/\bF w k mid hi rs vs'
end
def fH (lo hi:Nat)(w w':World):Prop:=∀g,lo<=g->g<hi->w'.heap[g]?=w.heap[g]?
theorem fH.mono(h:fH lo hi w w')(h1:lo<=lo')(h2:hi'<=hi):fH lo' hi' w w':=fun g a b=>h g A0 A0
theorem fH.of(h:Below w.heap.size w w')(hh:hi<=w.heap.size):fH lo hi w w':=fun g _ b=>h.block g A0
theorem fH.put{k i:Nat}(h:k<lo\/hi<=k):fH lo hi w (w.setCell ⟨k,i,none⟩ v):=
 fun g a b=>heap_setCell_other w ⟨k,i,none⟩ g v A12
theorem fH.trans {lo hi:Nat}{a b c:World}(h:fH lo hi a b)(k:fH lo hi b c):fH lo hi a c:=fun g x y=>(k g x y).trans (h g x y)
mutual
theorem Fl.Has.stays' {w w':World}:∀(f:Fl) (lo hi:Nat) (v:Value),fH lo hi w w'->f.Has w lo hi v->f.Has w' lo hi v
 | .b l,lo,hi,v,hs,h=>by
  exact QA97
 | .i l,lo,hi,v,hs,h=>by
  exact QA97
 | .n x,lo,hi,v,hs,h=>by unfold Fl.Has at h ⊢;exact h
 | .t x,lo,hi,v,hs,h=>by unfold Fl.Has at h ⊢;exact h
 | .l k rs,lo,hi,v,hs,h=>by
  unfold Fl.Has at h ⊢;obtain⟨g,vs,T,e,h1,h2,h3,h4,h5⟩:=h;exact⟨g,vs,T,e,h1,h2,(hs g h1 h2).trans h3,h4,bF.stays' k rs (g+1) hi vs (hs.mono A0 (zB0 _)) h5⟩
theorem bT.stays' {w w':World}:∀(r:List Fl) (lo hi:Nat) (us:List Value),fH lo hi w w'->bT w lo hi r us->bT w' lo hi r us
 | [],lo,hi,us,hs,h=>by unfold bT at h ⊢;exact h
 | f :: r,lo,hi,us,hs,h=>by
  unfold bT at h ⊢;obtain⟨u,us',mid,e,h1,h2,h3,h4⟩:=h;exact⟨u,us',mid,e,h1,h2,Fl.Has.stays' f lo mid u (hs.mono (zB0 _) h2) h3,bT.stays' r mid hi us' (hs.mono h1 (zB0 _)) h4⟩
theorem bF.stays' {w w':World}(k:Nat):∀(rs:List (List Fl)) (lo hi:Nat) (vs:List Value),fH lo hi w w'->bF w k lo hi rs vs->bF w' k lo hi rs vs
 | [],lo,hi,vs,hs,h=>by unfold bF at h ⊢;exact h
 | r :: rs,lo,hi,vs,hs,h=>by
  unfold bF at h ⊢;obtain⟨us,vs',mid,e,hl,h1,h2,h3,h4⟩:=h;exact⟨us,vs',mid,e,hl,h1,h2,bT.stays' r lo mid us (hs.mono (zB0 _) h2) h3,bF.stays' k rs mid hi vs' (hs.mono h1 (zB0 _)) h4⟩
end
theorem Fl.Has.stays(h:f.Has w lo hi v)(hs:fH lo hi w w'):f.Has w' lo hi v:=Fl.Has.stays' f lo hi v hs h
theorem bT.stays(h:bT w lo hi r us)(hs:fH lo hi w w'):bT w' lo hi r us:=bT.stays' r lo hi us hs h
theorem bF.stays{k:Nat}{rs:List (List Fl)}{lo hi:Nat}{vs:List Value}(h:bF w k lo hi rs vs)(hs:fH lo hi w w'):bF w' k lo hi rs vs:=bF.stays' k rs lo hi vs hs h
mutual
theorem Fl.Has.wide' {w:World}:∀(f:Fl) (lo hi lo' hi':Nat) (v:Value),lo'<=lo->hi<=hi'->f.Has w lo hi v->f.Has w lo' hi' v
 | .b l,lo,hi,lo',hi',v,a,b,h=>by
  exact QA106
 | .i l,lo,hi,lo',hi',v,a,b,h=>by
  exact QA106
 | .n x,lo,hi,lo',hi',v,a,b,h=>by unfold Fl.Has at h ⊢;exact h
 | .t x,lo,hi,lo',hi',v,a,b,h=>by unfold Fl.Has at h ⊢;exact h
 | .l k rs,lo,hi,lo',hi',v,a,b,h=>by
  unfold Fl.Has at h ⊢;obtain⟨g,vs,T,e,h1,h2,h3,h4,h5⟩:=h;exact⟨g,vs,T,e,by omega,by omega,h3,h4,bF.wide' k rs (g+1) hi (g+1) hi' vs (zB0 _) b h5⟩
theorem bT.wide' {w:World}:∀(r:List Fl) (lo hi lo' hi':Nat) (us:List Value),lo'<=lo->hi<=hi'->bT w lo hi r us->bT w lo' hi' r us
 | [],lo,hi,lo',hi',us,a,b,h=>by unfold bT at h ⊢;exact h
 | f :: r,lo,hi,lo',hi',us,a,b,h=>by
  unfold bT at h ⊢;obtain⟨u,us',mid,e,h1,h2,h3,h4⟩:=h;exact⟨u,us',mid,e,by omega,by omega,Fl.Has.wide' f lo mid lo' mid u a (zB0 _) h3,bT.wide' r mid hi mid hi' us' (zB0 _) b h4⟩
theorem bF.wide' {w:World}(k:Nat):∀(rs:List (List Fl)) (lo hi lo' hi':Nat) (vs:List Value),lo'<=lo->hi<=hi'->bF w k lo hi rs vs->bF w k lo' hi' rs vs
 | [],lo,hi,lo',hi',vs,a,b,h=>by unfold bF at h ⊢;exact h
 | r :: rs,lo,hi,lo',hi',vs,a,b,h=>by
  unfold bF at h ⊢;obtain⟨us,vs',mid,e,hl,h1,h2,h3,h4⟩:=h;exact⟨us,vs',mid,e,hl,by omega,by omega,bT.wide' r lo mid lo' mid us a (zB0 _) h3,bF.wide' k rs mid hi mid hi' vs' (zB0 _) b h4⟩
end
theorem Fl.Has.wide(h:f.Has w lo hi v)(a:lo'<=lo)(b:hi<=hi'):f.Has w lo' hi' v:=Fl.Has.wide' f lo hi lo' hi' v a b h
theorem bT.wide(h:bT w lo hi r us)(a:lo'<=lo)(b:hi<=hi'):bT w lo' hi' r us:=bT.wide' r lo hi lo' hi' us a b h
theorem bF.wide{k:Nat}{rs:List (List Fl)}{lo hi lo' hi':Nat}{vs:List Value}(h:bF w k lo hi rs vs)(a:lo'<=lo)(b:hi<=hi'):bF w k lo' hi' rs vs:=bF.wide' k rs lo hi lo' hi' vs a b h
theorem bF.len{k:Nat}:∀{rs:List (List Fl)} {lo hi:Nat} {vs:List Value},bF w k lo hi rs vs->vs.length=rs.length*k:=by
 intro rs;induction rs with
 | nil=>intro lo hi vs h;unfold bF at h;subst h;simp| cons r rs ih=>
  intro lo hi vs h;unfold bF at h;obtain⟨us,vs',mid,rfl,hl,_,_,_,h4⟩:=h;rw[zA1,hl,ih h4,zB1,Nat.add_mul];omega
theorem bF.snoc{k:Nat}:∀{rs:List (List Fl)} {lo mid hi:Nat} {vs us:List Value} {r:List Fl},bF w k lo mid rs vs->bT w mid hi r us->us.length=k->lo<=mid->mid<=hi->bF w k lo hi (rs++[r]) (vs++us):=by
 intro rs;induction rs with
 | nil=>
  intro lo mid hi vs us r h h2 hl a b;unfold bF at h;subst h;rw[List.nil_append,List.nil_append];unfold bF;refine⟨us,[],hi,by simp,hl,by omega,zB0 _,h2.wide a (zB0 _), ?_⟩;unfold bF;rfl
 | cons x rs ih=>
  intro lo mid hi vs us r h h2 hl a b;unfold bF at h;obtain⟨us0,vs',m,rfl,Gl,h1,h3,h4,h5⟩:=h;have:=ih h5 h2 hl A0 b;rw[List.cons_append,zD0];unfold bF;exact⟨us0,vs'++us,m,rfl,Gl,h1,by omega,h4,this⟩
theorem aI1{T:TypeId}{pre:List Value}{u:Value}(h:w.heap[g]?=some (.cells (pre++u :: us).toArray T (0,0))):w.cell? ⟨g,pre.length,none⟩=some u:=by
 rw[cell_of_row w g pre.length _ T (0,0) h];simp
mutual
theorem Fl.Has.rd' {w:World}:∀(f:Fl) (lo hi:Nat) (v:Value),f.Has w lo hi v->f.Rd w v
 | .b l,lo,hi,v,h=>by
  unfold Fl.Has at h;obtain⟨g,rfl,h1,h2,h3,h4,h5⟩:=h;exact⟨_,_,rfl,(iK h3 (zD1 _) h5 h4).row,zB0 _,h5,by simp⟩
 | .i l,lo,hi,v,h=>by
  unfold Fl.Has at h;obtain⟨g,rfl,h1,h2,h3,h4,h5⟩:=h;exact⟨_,_,rfl,(sF h3 (zD1 _) h5 h4),zB0 _,h5,by simp⟩
 | .n x,lo,hi,v,h=>by unfold Fl.Has at h;exact h
 | .t x,lo,hi,v,h=>by unfold Fl.Has at h;exact h
 | .l k rs,lo,hi,v,h=>by
  unfold Fl.Has at h;obtain⟨g,vs,T,rfl,h1,h2,h3,h4,h5⟩:=h;exact⟨_,_,rfl,zB0 _,h4,by simp,fun _=>⟨g,0,rfl,bF.rd' k g T rs (g+1) hi [] vs [] (by simpa using h3) h5⟩⟩
theorem bT.rd' {w:World}(g:Nat)(T:TypeId):∀(r:List Fl) (lo hi:Nat) (pre us post:List Value),w.heap[g]?=some (.cells (pre++us++post).toArray T (0,0))->bT w lo hi r us->jT w g pre.length r
 | [],lo,hi,pre,us,post,hg,h=>trivial| f :: r,lo,hi,pre,us,post,hg,h=>by
  unfold bT at h;obtain⟨u,us',mid,rfl,h1,h2,h3,h4⟩:=h;have e:pre++u :: us'++post=pre++u :: (us'++post):=by simp
  refine⟨⟨u,aI1 (e ▸ hg),Fl.Has.rd' f lo mid u h3⟩, ?_⟩;have:=bT.rd' g T r mid hi (pre++[u]) us' post A83 h4;simpa using this
theorem bF.rd' {w:World}(k g:Nat)(T:TypeId):∀(rs:List (List Fl)) (lo hi:Nat) (pre vs post:List Value),w.heap[g]?=some (.cells (pre++vs++post).toArray T (0,0))->bF w k lo hi rs vs->dG w g k pre.length rs
 | [],lo,hi,pre,vs,post,hg,h=>trivial| r :: rs,lo,hi,pre,vs,post,hg,h=>by
  unfold bF at h;obtain⟨us,vs',mid,rfl,hl,h1,h2,h3,h4⟩:=h;refine⟨bT.rd' g T r lo mid pre us (vs'++post) A83 h3, ?_⟩;have:=bF.rd' k g T rs mid hi (pre++us) vs' post A83 h4;rw[zA1,hl]at this;exact this
end
theorem Fl.Has.rd(h:f.Has w lo hi v):f.Rd w v:=Fl.Has.rd' f lo hi v h
theorem bT.vals:∀{r:List Fl} {lo hi:Nat} {us:List Value},bT w lo hi r us->aL w r us:=by
 intro r;induction r with
 | nil=>intro lo hi us h;unfold bT at h;exact h| cons f r ih=>
  intro lo hi us h;unfold bT at h;obtain⟨u,us',mid,e,h1,h2,h3,h4⟩:=h;exact⟨u,us',e,h3.rd,ih h4⟩
end
section
variable{f:Fl}{l vs:List Value}{g:Nat}{T:TypeId}{u v0 v1 v2 v3 v4:Value}{w:World}
def ToV (w:World)(F:Nat)(f:Fl)(v:Value):Prop:=
 ∀w1:World,Below w.heap.size w w1->Calls Tryz.prog F #[v] w1 fun e w'=>∃g n,e=.returned (.slice (some ⟨g,0,none⟩) n n)/\f.Has w' w1.heap.size w'.heap.size (.slice (some ⟨g,0,none⟩) n n)/\Below w1.heap.size w1 w'
def Blk (w:World)(g:Nat)(T:TypeId)(vs:List Value):Prop:=w.heap[g]?=some (.cells vs.toArray T (0,0))
theorem Blk.cell {w:World}{g i:Nat}{T:TypeId}{vs:List Value}{v:Value}(h:Blk w g T vs)(hi:vs[i]?=some v):w.cell? ⟨g,i,none⟩=some v:=by
 rw[cell_of_row w g i _ T (0,0) h];simpa using hi
theorem Blk.k(h:Blk w g T vs)(i:Nat){u:Value}(hu:vs[i]?=some u:=by rfl):w.cell? ⟨g,i,none⟩=some u:=h.cell hu
theorem Blk.c2(h:Blk w g T (v0 :: v1 :: l)):w.cell? ⟨g,0,none⟩=some v0/\w.cell? ⟨g,1,none⟩=some v1:=⟨h.k 0,h.k 1⟩
theorem Blk.c3(h:Blk w g T (v0 :: v1 :: v2 :: l)):w.cell? ⟨g,0,none⟩=some v0/\w.cell? ⟨g,1,none⟩=some v1/\w.cell? ⟨g,2,none⟩=some v2:=⟨h.k 0,h.k 1,h.k 2⟩
theorem Blk.c4(h:Blk w g T (v0 :: v1 :: v2 :: v3 :: l)):w.cell? ⟨g,0,none⟩=some v0/\w.cell? ⟨g,1,none⟩=some v1/\w.cell? ⟨g,2,none⟩=some v2/\w.cell? ⟨g,3,none⟩=some v3:=⟨h.k 0,h.k 1,h.k 2,h.k 3⟩
theorem Blk.c5(h:Blk w g T (v0 :: v1 :: v2 :: v3 :: v4 :: l)):w.cell? ⟨g,0,none⟩=some v0/\w.cell? ⟨g,1,none⟩=some v1/\w.cell? ⟨g,2,none⟩=some v2/\w.cell? ⟨g,3,none⟩=some v3/\w.cell? ⟨g,4,none⟩=some v4:=⟨h.k 0,h.k 1,h.k 2,h.k 3,h.k 4⟩
theorem Blk.c6{v5:Value}(h:Blk w g T (v0 :: v1 :: v2 :: v3 :: v4 :: v5 :: l)):w.cell? ⟨g,0,none⟩=some v0/\w.cell? ⟨g,1,none⟩=some v1/\w.cell? ⟨g,2,none⟩=some v2/\w.cell? ⟨g,3,none⟩=some v3/\w.cell? ⟨g,4,none⟩=some v4/\w.cell? ⟨g,5,none⟩=some v5:=⟨h.k 0,h.k 1,h.k 2,h.k 3,h.k 4,h.k 5⟩
theorem Blk.free(h:Blk w g T vs)(i:Nat):w.frozen? ⟨g,i,none⟩=false:=frozen_of_row w g i _ _ h
theorem Blk.below{w':World}{B:Nat}(h:Blk w g T vs)(hb:Below B w w')(hg:g<B):Blk w' g T vs:=(hb.block g hg).trans h
theorem Blk.lt(h:Blk w g T vs):g<w.heap.size:=(zI3.1 h).1
theorem Blk.new (w:World)(T:TypeId)(vs:List Value):Blk (w.alloc (.cells vs.toArray T (0,0))) w.heap.size T vs:=zJ0 w _
theorem Blk.old{o:Obj}(h:Blk w g T vs):Blk (w.alloc o) g T vs:=
 ((((zD2 w.heap.size w).alloc (zB0 _) o).block g (zI3.1 h).1)).trans h
theorem Blk.other{k i:Nat}{v:Value}(h:Blk w g T vs)(Ae:g ≠ k):Blk (w.setCell ⟨k,i,none⟩ v) g T vs:=(heap_setCell_other w ⟨k,i,none⟩ g v Ae).trans h
theorem Blk.set {w:World}{g i:Nat}{T:TypeId}{vs:List Value}(h:Blk w g T vs)(v:Value):Blk (w.setCell ⟨g,i,none⟩ v) g T (vs.set i v):=by
 unfold Blk;rw[heap_setCell_same w g i _ _ _ h];simp
theorem bT.snoc:∀{r:List Fl} {lo mid hi:Nat} {us:List Value},bT w lo mid r us->Fl.Has w mid hi f u->lo<=mid->mid<=hi->bT w lo hi (r++[f]) (us++[u]):=by
 intro r;induction r with
 | nil=>
  intro lo mid hi us h h2 a b;unfold bT at h;subst h;rw[List.nil_append,List.nil_append];unfold bT;refine⟨u,[],hi,rfl,by omega,zB0 _,h2.wide a (zB0 _), ?_⟩;unfold bT;rfl
 | cons x r ih=>
  intro lo mid hi us h h2 a b;unfold bT at h;obtain⟨u0,us',m,rfl,h1,h3,h4,h5⟩:=h;have:=ih h5 h2 A0 b;rw[List.cons_append,List.cons_append];unfold bT;exact⟨u0,us'++[u],m,rfl,h1,by omega,h4,this⟩
structure TS (w W:World) (TA TR:TypeId) (A Z cur:List Value) (r:List Fl) (us:List Value):Prop where
 a:Blk W w.heap.size TA A
 z:Blk W (w.heap.size+1) TR Z
 o:Blk W (w.heap.size+1+1) TR cur
 y:Below w.heap.size w W
 s:w.heap.size+3<=W.heap.size
 h:bT W (w.heap.size+3) W.heap.size r us
theorem TS.start (w:World)(TA TR:TypeId)(A Z:List Value):TS w (((w.alloc (.cells A.toArray TA (0,0))).alloc (.cells Z.toArray TR (0,0))).alloc (.cells Z.toArray TR (0,0))) TA TR A Z Z [] []:=by
 have y1:Below w.heap.size w (w.alloc (.cells A.toArray TA (0,0))):=(zD2 _ _).alloc (zB0 _) _;have y2:=y1.alloc y1.size (.cells Z.toArray TR (0,0));have y3:=y2.alloc y2.size (.cells Z.toArray TR (0,0));refine⟨(Blk.new w TA A).old.old, ?_, ?_,y3,by simp,by unfold bT;rfl⟩
 .
  have:=(Blk.new (w.alloc (.cells A.toArray TA (0,0))) TR Z).old (o:=.cells Z.toArray TR (0,0));simpa using this
 .
  have:=Blk.new ((w.alloc (.cells A.toArray TA (0,0))).alloc (.cells Z.toArray TR (0,0))) TR Z;simpa using this
theorem TS.call{W W1:World}{TA TR:TypeId}{A Z cur:List Value}{r:List Fl}{us:List Value}(t:TS w W TA TR A Z cur r us)(h:f.Has W1 W.heap.size W1.heap.size u)(hb:Below W.heap.size W W1):
  TS w W1 TA TR A Z cur (r++[f]) (us++[u]):=
 ⟨t.a.below hb t.a.lt,t.z.below hb t.z.lt,t.o.below hb t.o.lt,t.y.trans (hb.mono t.y.size),zF2 t.s hb.size,
  (t.h.stays (fH.of hb (zB0 _))).snoc h t.s hb.size⟩
theorem TS.put {w W:World}{TA TR:TypeId}{A Z cur:List Value}{r:List Fl}{us:List Value}(t:TS w W TA TR A Z cur r us)(i:Nat)(v:Value):
  TS w (W.setCell ⟨w.heap.size+1+1,i,none⟩ v) TA TR A Z (cur.set i v) r us:=by
 have e:(W.setCell ⟨w.heap.size+1+1,i,none⟩ v).heap.size=W.heap.size:=by simp
 refine⟨t.a.other A0,t.z.other A0,t.o.set v,t.y.setCell A12 v,by rw[e];exact t.s, ?_⟩;rw[e];exact t.h.stays (fH.put (.inl A0))
def setAll (W:World)(g:Nat):Nat->List Value->World
 | _,[]=>W| i,v :: l=>setAll (W.setCell ⟨g,i,none⟩ v) g (i+1) l
theorem wJ (g:Nat):∀(l:List Value) (W:World) (i:Nat),(setAll W g i l).heap.size=W.heap.size:=by
 intro l;induction l with
 | nil=>intro W i;rfl| cons v l ih=>intro W i;rw[setAll,ih];simp
end
theorem QA47{p:Prop}(h:p:=by
 have hr:(decide ((1:Int)<=(n:Int)) && decide ((n:Int)<=8))=false:=by simp;omega
 clear hc hl Bu
 go_enter Tryz.func29,Tryz.ntmps29
 go_wp2_with fail
 refine(iO _ _ _ _).mono ?_
 rintro e w ⟨rfl,rfl⟩
 rw[hr]
 go_wp2
 go_ret
 exact⟨aF hd.out.symm,rfl⟩):p:=h
theorem QA84{p:Prop}(h:p:=by
 go_wp2
 go_round
 case rel=>exact⟨j+1,by omega,by go_num,dY Bl.out HN.out⟩
 case measure=>simp[intOf];omega):p:=h
theorem QA110{p:Prop}(h:p:=by
 go_wp2
 go_ret
 exact⟨aF HD.out.symm,rfl⟩):p:=h
theorem iO (n lo hi:Int)(w:World):
  Calls Tryz.prog 12 #[.int .i64 n,.int .i64 lo,.int .i64 hi] w fun e w'=>e=.returned (.bool (decide (lo<=n) && decide (n<=hi)))/\w'=w:=by
 by_cases h1:lo<=n
 .
  go_enter Tryz.func12,Tryz.ntmps12;go_wp2;go_ret;exact⟨aF (by simp[h1]),rfl⟩
 .
  go_enter Tryz.func12,Tryz.ntmps12;go_wp2;go_ret;exact⟨aF A12,rfl⟩
theorem aAf (x:Int)(w:World):Calls Tryz.prog 57 #[.int .u8 x] w fun e w'=>e=.returned (.bool (zV x))/\w'=w:=by
 by_cases h1:97<=x
 .
  go_enter Tryz.func57,Tryz.ntmps57;go_wp2;go_ret;exact⟨aF (by simp[zV,h1]),rfl⟩
 .
  go_enter Tryz.func57,Tryz.ntmps57;go_wp2;go_ret;exact⟨aF (by simp[zV];omega),rfl⟩
theorem aH3 (x:Int)(w:World):Calls Tryz.prog 58 #[.int .u8 x] w fun e w'=>e=.returned (.bool (aKk x))/\w'=w:=by
 by_cases h1:48<=x
 .
  go_enter Tryz.func58,Tryz.ntmps58;go_wp2;go_ret;exact⟨aF (by simp[aKk,h1]),rfl⟩
 .
  go_enter Tryz.func58,Tryz.ntmps58;go_wp2;go_ret;exact⟨aF (by simp[aKk];omega),rfl⟩
theorem aH1 (x:Int)(g:Bool)(w:World):Calls Tryz.prog 56 #[.int .u8 x,.bool g] w fun e w'=>e=.returned (.bool (if g then upB x else zV x))/\w'=w:=by
 cases g
 .
  go_enter Tryz.func56,Tryz.ntmps56;go_wp2_with fail;refine(aAf _ _).mono ?_;rintro e w ⟨rfl,rfl⟩;go_wp2;go_ret;exact⟨rfl,rfl⟩
 .
  by_cases h1:65<=x
  .
   go_enter Tryz.func56,Tryz.ntmps56;go_wp2;go_ret;exact⟨aF (by simp[upB,h1]),rfl⟩
  .
   go_enter Tryz.func56,Tryz.ntmps56;go_wp2;go_ret;exact⟨aF (by simp[upB];omega),rfl⟩
set_option maxHeartbeats 4000000 in
theorem lA (a:Option Addr)(n c:Nat)(l:List Int)(g:Bool)(w:World)(h:aV w a n l)(hn:n<=1073741824)(Fu:n<=c):
  Calls Tryz.prog 29 #[.slice a n c,.bool g] w fun e w'=>e=.returned (.bool (aO l g))/\w'=w:=by
 obtain⟨hl,Bu,hc⟩:=h;by_cases h0:n<1
 .
  have hd:Hid (aO l g=false):=dB A0;exact QA47
 by_cases h8:8<n
 .
  have hd:Hid (aO l g=false):=pD A0;exact QA47
 obtain⟨b,off,rfl,hd⟩:=hc A0;clear hc;have hr:(decide ((1:Int)<=(n:Int)) && decide ((n:Int)<=8))=true:=by simp;omega
 have Hl:=hid hl;clear hl;have Gg:w.cell? ⟨b,off,none⟩=some (.int .u8 (l[0]?.getD 0)):=by simpa using hd 0 A0
 have Pq:=kM Bu 0;have H0:Hid (qG l g 0=(if g then upB (l[0]?.getD 0) else zV (l[0]?.getD 0))):=by show qG l g 0=_;simp[qG]
 generalize hxx:l[0]?.getD 0=x at *;clear hxx;go_enter Tryz.func29,Tryz.ntmps29;go_wp2_with fail;refine(iO _ _ _ _).mono ?_;rintro e w ⟨rfl,rfl⟩;rw[hr];go_wp2_with fail;refine(aH1 _ _ _).mono ?_;rintro e w ⟨rfl,rfl⟩;cases hf:(if g then upB x else zV x)
 .
  have HD:Hid (aO l g=false):=kW A50 (H0.out.trans hf);clear hf hd;exact QA110
 have HF:=hid (H0.out.trans hf);clear hf H0 hr Gg;by_cases Jk:n=1
 .
  have HD:Hid (aO l g=true):=nB A50 A50 (by
   rw[Hl.out,Jk];intro m hm;have:m=0:=A0;subst this;exact HF.out)
  subst Jk;clear hd HF Hl Bu;go_wp2;all_goals
   refine zH1 1 ?_;rw[zE2];exact QA110
 have Hr:¬c=1:=A0;go_wp2;go_loop [6,22] (fun _ i=>∃j:Nat,j+1<=n/\i=.int .i64 j/\Hid (∀m<j+1,qG l g m=true)) (fun _ i=>n-(intOf i).toNat)
 case atStart=>exact⟨0,by omega,rfl,by intro m hm;(have:m=0:=by omega);subst this;exact HF.out⟩
 case round=>
  obtain⟨j,hj,rfl,Bl⟩:=hrel;by_cases Ad:j+1<n
  .
   have hx:=hd (j+1) Ad;have Gd:w.cell? ⟨b,off+1+j,none⟩=some (.int .u8 (l[j+1]?.getD 0)):=by rw[<-hx];congr 2;omega
   have hb:=kM Bu (j+1);clear hd Bu hx;have HL:Hid (j+1<l.length):=by show j+1<l.length;rw[Hl.out];exact Ad
   generalize hxx:l[j+1]?.getD 0=y at *;have HX:Hid (qG l g (j+1)=(zV y || aKk y)):=by show qG l g (j+1)=_;simp[qG,hxx]
   clear hxx;go_wp2_with fail;refine(aAf _ _).mono ?_;rintro e w ⟨rfl,rfl⟩;cases h1:zV y
   .
    go_wp2_with fail;refine(aH3 _ _).mono ?_;rintro e w ⟨rfl,rfl⟩;cases h2:aKk y
    .
     have HD:Hid (aO l g=false):=kW HL.out (by rw[HX.out,h1,h2];rfl);clear h1 h2;exact QA110
    .
     have HN:Hid (qG l g (j+1)=true):=by show qG l g (j+1)=true;rw[HX.out,h1,h2];rfl
     clear h1 h2;exact QA84
   .
    have HN:Hid (qG l g (j+1)=true):=by show qG l g (j+1)=true;rw[HX.out,h1];rfl
    clear h1;exact QA84
  .
   clear hd;go_wp2;go_ret;have Ni:j+1=n:=A0;exact QA125
section
theorem QA64{p:Prop}(h:p:=by
 simp only[zC0,zE3]at this
 omega):p:=h
variable{x:Ex}{left:Int}{l:List Ex}{j:Nat}
def Ex.kind:Ex->Int|.mk k _ _ _ _=>k
def Ex.n:Ex->Int|.mk _ n _ _ _=>n
def Ex.mod:Ex->List Int|.mk _ _ m _ _=>m
def Ex.name:Ex->List Int|.mk _ _ _ a _=>a
def dA (k:Int):Int:=if k=2 then 1 else if k=3 then 2 else 0
def iT (k:Int):Int:=if k=2 then 1 else if k=3 then 2 else if k=6 then 4 else 0
def gD (k:Int):Int:=if k=0 then -2147483648 else 0
def dM (k:Int):Int:=if k=0 then 2147483647 else if k=3 then 5 else 0
def eF (k:Int):Bool:=decide (k=1) || decide (k=2) || decide (k=5) || decide (k=6) || decide (k=7)
def inB (x lo hi:Int):Bool:=decide (lo<=x) && decide (x<=hi)
def iF (k n:Int)(mod name:List Int)(nk:Nat):Bool:=
 inB k 0 7 && (inB n (gD k) (dM k) && inB nk (dA k) (iT k) && (if eF k then aO name false else decide (name.length=0))) && (decide (mod.length=0) || decide (k=6) && aO mod true)
def lP (e:Ex):Bool:=decide (e.kind=7)
def jE (e:Ex):Bool:=decide (e.kind=6)
mutual
def uI:Ex->Bool
 | .mk k n m a ks=>iF k n m a ks.length && (decide (k=6) || !ks.any lP) && jW ks
def jW:List Ex->Bool
 | []=>true| e :: l=>uI e && jW l
end
mutual
def cU:Ex->Nat
 | .mk _ _ _ _ ks=>1+aD ks
def aD:List Ex->Nat
 | []=>0| e :: l=>cU e+aD l
end
mutual
def aIz:Ex->Nat
 | .mk _ _ _ _ ks=>1+mM ks
def mM:List Ex->Nat
 | []=>0| e :: l=>max (aIz e) (mM l)
end
def cD (k:Int):Int:=if k=1 then 2 else if k=6 then 0 else 1
def cX (k:Int):Int:=if k=6 then 99 else 0
def eK (k:Int):Bool:=decide (k=0) || decide (k=1)
def iH (k:Int):Bool:=decide (k=2) || decide (k=3)
def oU (k n:Int)(name:List Int)(ks:List Ex)(nb ne:Nat):Bool:=
 inB k 0 7 && (inB n 0 (cX k) && inB ks.length (cD k) (cD k) && (if eK k then aO name false else decide (name.length=0))) && (decide (nb=0) || iH k) && (decide (ne=0) || decide (k=2)) && !ks.any lP && (!decide (k=7) || ks.any jE)
mutual
def aF9:St->Bool
 | .mk k n a ks bs es=>oU k n a ks bs.length es.length && jW ks && iY bs && iY es
def iY:List St->Bool
 | []=>true| s :: l=>aF9 s && iY l
end
mutual
def gG:St->Nat
 | .mk _ _ _ ks bs es=>1+(aD ks+aK bs+aK es)
def aK:List St->Nat
 | []=>0| s :: l=>gG s+aK l
end
mutual
def aKj:St->Nat
 | .mk _ _ _ ks bs es=>1+max (mM ks) (max (mL bs) (mL es))
def mL:List St->Nat
 | []=>0| s :: l=>max (aKj s) (mL l)
end
theorem pA (l:List Ex):jW l=l.all uI:=by
 induction l with
 | nil=>rfl| cons x l ih=>simp[jW,ih]
theorem oZ (l:List St):iY l=l.all aF9:=by
 induction l with
 | nil=>rfl| cons x l ih=>simp[iY,ih]
theorem kH (l m:List Ex):aD (l++m)=aD l+aD m:=by
 induction l with
 | nil=>simp[aD]| cons x l ih=>simp[aD,ih];omega
theorem lZ (l m:List St):aK (l++m)=aK l+aK m:=by
 induction l with
 | nil=>simp[aK]| cons x l ih=>simp[aK,ih];omega
theorem bU(h:l[j]?=some x):aD (l.take (j+1))=aD (l.take j)+cU x:=by
 obtain⟨hk,rfl⟩:=zC1.1 h;rw[zF1 hk,kH];simp[aD]
theorem fD{l:List St}{x:St}(h:l[j]?=some x):aK (l.take (j+1))=aK (l.take j)+gG x:=by
 obtain⟨hk,rfl⟩:=zC1.1 h;rw[zF1 hk,lZ];simp[aK]
theorem aBt (l:List Ex)(j:Nat):aD (l.take j)<=aD l:=by
 have:=kH (l.take j) (l.drop j);rw[List.take_append_drop]at this;omega
theorem aBr (l:List St)(j:Nat):aK (l.take j)<=aK l:=by
 have:=lZ (l.take j) (l.drop j);rw[List.take_append_drop]at this;omega
theorem aNl(h:x ∈ l):aIz x<=mM l:=by
 induction l with
 | nil=>simp at h| cons y l ih=>
  rcases zG3.1 h with rfl|h
  .
   simp[mM];omega
  .
   have:=ih h;simp[mM];omega
theorem aNk{l:List St}{x:St}(h:x ∈ l):aKj x<=mL l:=by
 induction l with
 | nil=>simp at h| cons y l ih=>
  rcases zG3.1 h with rfl|h
  .
   simp[mL];omega
  .
   have:=ih h;simp[mL];omega
theorem aIy{d:Nat}(h:∀x ∈ l,aIz x<=d):mM l<=d:=by
 induction l with
 | nil=>simp[mM]| cons y l ih=>
  have h1:=h y A9;have h2:=ih fun x hx=>h x (by simp[hx]);simp[mM];omega
theorem aIx{l:List St}{d:Nat}(h:∀x ∈ l,aKj x<=d):mL l<=d:=by
 induction l with
 | nil=>simp[mL]| cons y l ih=>
  have h1:=h y A9;have h2:=ih fun x hx=>h x (by simp[hx]);simp[mL];omega
def kJ (e:Ex)(d left:Int):Bool:=uI e && decide ((cU e:Int)<=left) && decide (d+(aIz e:Int)<=17)
def jU (l:List Ex)(d left:Int):Bool:=jW l && decide ((aD l:Int)<=left) && (decide (l.length=0) || decide (d+(mM l:Int)<=17))
def aZ (e:St)(d left:Int):Bool:=aF9 e && decide ((gG e:Int)<=left) && decide (d+(aKj e:Int)<=17)
def cJ (l:List St)(d left:Int):Bool:=iY l && decide ((aK l:Int)<=left) && (decide (l.length=0) || decide (d+(mL l:Int)<=17))
theorem aE6{d:Int}(h:l[j]?=some x)(hx:kJ x d (left-(aD (l.take j):Int))=false):jU l d left=false:=by
 unfold kJ at hx;have hm:=zA3 h;have h1:=bU h;have h2:=aBt l (j+1);have h3:=aNl hm;have h4:l.length ≠ 0:=by intro h0;have:=zE0 h0;subst this;simp at hm
 unfold jU;simp only[zH3,zH0,Bool.or_eq_false_iff]at hx ⊢;rcases hx with (hx|hx)|hx
 .
  left;left;rw[pA,List.all_eq_false];exact⟨x,hm,by simp[hx]⟩
 .
  left;right;omega
 .
  right;exact⟨h4,by omega⟩
theorem aCh{d:Int}(h:∀j x,l[j]?=some x->kJ x d (left-(aD (l.take j):Int))=true)(hl:0<=left):jU l d left=true:=by
 unfold jU;simp only[zC0,zE3,Bool.or_eq_true];have h1:jW l=true:=by
  rw[pA,zF3];intro x hx;obtain⟨j,hj⟩:=List.getElem?_of_mem hx;have:=h j x hj;unfold kJ at this;simp only[zC0]at this;exact this.1.1
 refine⟨⟨h1, ?_⟩, ?_⟩
 .
  rcases zG0 l.length with h0|hp
  .
   have:=zE0 h0;subst this;simpa [aD] using hl
  .
   have hj:l[l.length-1]?=some (l[l.length-1]' A0):=zA0 _;have:=h _ _ hj;have h2:=bU hj;rw[show l.length-1+1=l.length by omega,List.take_length]at h2;unfold kJ at this;exact QA64
 .
  by_cases h0:l.length=0
  .
   exact .inl h0
  .
   right;have:mM l<=(17-d).toNat:=aIy fun x hx=>by
    obtain⟨j,hj⟩:=List.getElem?_of_mem hx;have:=h j x hj;unfold kJ at this;exact QA64
   have h3:0<=17-d:=by
    have hj:l[0]?=some (l[0]' A0):=zA0 _;have:=h _ _ hj;unfold kJ at this;exact QA64
   omega
theorem aE4{l:List St}{d:Int}{x:St}(h:l[j]?=some x)(hx:aZ x d (left-(aK (l.take j):Int))=false):cJ l d left=false:=by
 unfold aZ at hx;have hm:=zA3 h;have h1:=fD h;have h2:=aBr l (j+1);have h3:=aNk hm;have h4:l.length ≠ 0:=by intro h0;have:=zE0 h0;subst this;simp at hm
 unfold cJ;simp only[zH3,zH0,Bool.or_eq_false_iff]at hx ⊢;rcases hx with (hx|hx)|hx
 .
  left;left;rw[oZ,List.all_eq_false];exact⟨x,hm,by simp[hx]⟩
 .
  left;right;omega
 .
  right;exact⟨h4,by omega⟩
theorem aCd{l:List St}{d:Int}(h:∀j x,l[j]?=some x->aZ x d (left-(aK (l.take j):Int))=true)(hl:0<=left):cJ l d left=true:=by
 unfold cJ;simp only[zC0,zE3,Bool.or_eq_true];have h1:iY l=true:=by
  rw[oZ,zF3];intro x hx;obtain⟨j,hj⟩:=List.getElem?_of_mem hx;have:=h j x hj;unfold aZ at this;simp only[zC0]at this;exact this.1.1
 refine⟨⟨h1, ?_⟩, ?_⟩
 .
  rcases zG0 l.length with h0|hp
  .
   have:=zE0 h0;subst this;simpa [aK] using hl
  .
   have hj:l[l.length-1]?=some (l[l.length-1]' A0):=zA0 _;have:=h _ _ hj;have h2:=fD hj;rw[show l.length-1+1=l.length by omega,List.take_length]at h2;unfold aZ at this;exact QA64
 .
  by_cases h0:l.length=0
  .
   exact .inl h0
  .
   right;have:mL l<=(17-d).toNat:=aIx fun x hx=>by
    obtain⟨j,hj⟩:=List.getElem?_of_mem hx;have:=h j x hj;unfold aZ at this;exact QA64
   have h3:0<=17-d:=by
    have hj:l[0]?=some (l[0]' A0):=zA0 _;have:=h _ _ hj;unfold aZ at this;exact QA64
   omega
end
def e0:Ex:=.mk 0 0 [] [] []
theorem eQ (x:Ex):x.fl.length=5:=by cases x;simp[Ex.fl]
theorem aK6 (x:St):x.fl.length=6:=by cases x;simp[St.fl]
def exT (k n:Int)(mod name:List Int)(ks:List Ex):Bool:=iF k n mod name ks.length && (decide (k=6) || !ks.any lP)
def stT (k n:Int)(name:List Int)(ks:List Ex)(nb ne:Nat):Bool:=oU k n name ks nb ne
theorem aUa {k:Int}(h:inB k 0 7=true):k=0\/k=1\/k=2\/k=3\/k=4\/k=5\/k=6\/k=7:=by
 simp[inB]at h;omega
theorem aAo (k n:Int)(mod name:List Int)(ks:List Ex):exT k n mod name ks=(iF k n mod name ks.length && (decide (k=6) || !ks.any lP)):=rfl
theorem tM (k n:Int)(name:List Int)(ks:List Ex)(nb ne:Nat):stT k n name ks nb ne=oU k n name ks nb ne:=rfl
section
variable{g i:Nat}{v:Value}{w w':World}
theorem uY:w.grownBy (w.setCell ⟨g,i,none⟩ v) (some g):=
 ⟨rfl,rfl,rfl,by simp,fun k hk Ae=>heap_setCell_other w ⟨g,i,none⟩ k v (fun e=>Ae (by simp at e;rw[e]))⟩
theorem bY{w0:World}(h:Below w0.heap.size w0 w)(hg:w.grownBy w' (some g))(hB:w0.heap.size<=g):Below w0.heap.size w0 w':=
 h.grown hg h.size (fun k hk=>by cases hk;exact hB)
theorem Blk.grown{k:Nat}{T:TypeId}{vs:List Value}(h:Blk w g T vs)(hg:w.grownBy w' (some k))(Ae:g ≠ k):Blk w' g T vs:=
 (hg.block g h.lt (fun e=>Ae (by cases e;rfl))).trans h
theorem cG{k:Nat}(h:w.cell? ⟨g,i,none⟩=some v)(hg:w.grownBy w' (some k))(Ae:g ≠ k):w'.cell? ⟨g,i,none⟩=some v:=by
 rw[World.cell?_of_block (a:=⟨g,i,none⟩) (hg.block g (zI2 w _ h) (fun e=>Ae (by cases e;rfl)))];exact h
theorem aIo{x:Ex}{d left:Int}(h:kJ x d left=true):(cU x:Int)<=left:=by
 unfold kJ at h;simp only[zC0,zE3]at h;exact h.1.2
end
theorem aCi {x:Ex}{d left:Int}(h:left<1\/16<d):kJ x d left=false:=by
 unfold kJ;simp only[zH3,zH0];have h1:1<=cU x:=by cases x;simp[cU]
 have h2:1<=aIz x:=by cases x;simp[aIz]
 rcases h with h|h
 .
  left;right;omega
 .
  right;omega
theorem aCk {k n:Int}{mod name:List Int}{ks:List Ex}{d left:Int}(h:exT k n mod name ks=false):kJ (.mk k n mod name ks) d left=false:=by
 unfold kJ;rw[show uI (.mk k n mod name ks)=(exT k n mod name ks && jW ks) by rw[aAo,uI],h];rfl
theorem aCj {k n:Int}{mod name:List Int}{ks:List Ex}{d left:Int}(h:exT k n mod name ks=true)(hl:1<=left)(hd:d<=16):kJ (.mk k n mod name ks) d left=jU ks (d+1) (left-1):=by
 unfold kJ jU;rw[show uI (.mk k n mod name ks)=(exT k n mod name ks && jW ks) by rw[aAo,uI],h,Bool.true_and];have e1:decide ((cU (.mk k n mod name ks):Int)<=left)=decide ((aD ks:Int)<=left-1):=by
  rw[decide_eq_decide];simp only[cU];omega
 rw[e1];congr 1;by_cases h0:ks.length=0
 .
  have:=zE0 h0;subst this;rw[zB3 (show d+(aIz (.mk k n mod name []):Int)<=17 by simp only[aIz,mM];omega)];simp
 .
  rw[zC2 h0,Bool.false_or,decide_eq_decide];simp only[aIz];omega
section
variable{left:Int}{ks:List Ex}{es:List St}{x:St}
def s0:St:=.mk 0 0 [] [] [] []
theorem aIn{d:Int}(h:aZ x d left=true):(gG x:Int)<=left:=by
 unfold aZ at h;simp only[zC0,zE3]at h;exact h.1.2
theorem rC{d:Int}(h:left<1\/16<d):aZ x d left=false:=by
 unfold aZ;simp only[zH3,zH0];have h1:1<=gG x:=by cases x;simp[gG]
 have h2:1<=aKj x:=by cases x;simp[aKj]
 rcases h with h|h
 .
  left;right;omega
 .
  right;omega
theorem aD1 (k n:Int)(name:List Int)(ks:List Ex)(bs es:List St):aF9 (.mk k n name ks bs es)=(stT k n name ks bs.length es.length && jW ks && iY bs && iY es):=by rw[tM,aF9]
theorem nE{k n:Int}{name:List Int}{bs:List St}{d:Int}(h:stT k n name ks bs.length es.length=false):aZ (.mk k n name ks bs es) d left=false:=by
 unfold aZ;rw[aD1,h];rfl
def aQs (ks:List Ex)(bs es:List St)(d left:Int):Bool:=jU ks d left && cJ bs d (left-(aD ks:Int)) && cJ es d (left-(aD ks:Int)-(aK bs:Int))
theorem rF {l:List St}(h:l.length=0):mL l=0:=by rw[zE0 h];rfl
theorem aCr {l:List Ex}(h:l.length=0):mM l=0:=by rw[zE0 h];rfl
theorem aCe{k n:Int}{name:List Int}{bs:List St}{d:Int}(h:stT k n name ks bs.length es.length=true)(hl:1<=left)(hd:d<=16):aZ (.mk k n name ks bs es) d left=aQs ks bs es (d+1) (left-1):=by
 unfold aZ aQs jU cJ;rw[aD1,h,Bool.true_and,Bool.eq_iff_iff];have e1:gG (.mk k n name ks bs es)=1+(aD ks+aK bs+aK es):=by simp only[gG]
 have e2:aKj (.mk k n name ks bs es)=1+max (mM ks) (max (mL bs) (mL es)):=by simp only[aKj]
 rw[e1,e2];clear e1 e2;simp only[zC0,zE3,Bool.or_eq_true];have a1:=@aCr ks;have a2:=@rF bs;have a3:=@rF es;constructor
 .
  rintro⟨⟨⟨⟨h1,h2⟩,h3⟩,h4⟩,h5⟩;exact⟨⟨⟨⟨h1,by omega⟩,.inr A0⟩,⟨h2,by omega⟩,.inr A0⟩,⟨h3,by omega⟩,.inr A0⟩
 .
  rintro⟨⟨⟨⟨h1,b1⟩,c1⟩,⟨h2,b2⟩,c2⟩,⟨h3,b3⟩,c3⟩;refine⟨⟨⟨⟨h1,h2⟩,h3⟩,by omega⟩, ?_⟩;rcases c1 with c1|c1 <;> rcases c2 with c2|c2 <;> rcases c3 with c3|c3 <;> omega
theorem eP{l:List St}{d:Int}(h:cJ l d left=true):(aK l:Int)<=left:=by
 unfold cJ at h;simp only[zC0,zE3]at h;exact h.1.2
theorem aE7{l:List Ex}{d:Int}(h:jU l d left=true):(aD l:Int)<=left:=by
 unfold jU at h;simp only[zC0,zE3]at h;exact h.1.2
end
section
variable{Bi:Bool}{x:Ex}{left:Int}{ks l:List Ex}{nk:Nat}
def eT (k:Int)(nk:Nat):Int:=if k=0 then 0 else if k=1 then 0 else if k=4 then 0 else if k=5 then 0 else if k=7 then 0 else if k=2 then 1 else if k=3 then 2 else if k=6 then (if nk<=4 then nk else -1) else -1
theorem tP (k:Int)(nk:Nat):eT k nk=nk ↔ (inB k 0 7=true/\dA k<=nk/\(nk:Int)<=iT k):=by
 unfold eT dA iT inB;simp only[zC0,zE3];constructor
 .
  intro h;split at h
  .
   rename_i h0;subst h0;simp;omega
  split at h
  .
   rename_i h0;subst h0;simp;omega
  split at h
  .
   rename_i h0;subst h0;simp;omega
  split at h
  .
   rename_i h0;subst h0;simp;omega
  split at h
  .
   rename_i h0;subst h0;simp;omega
  split at h
  .
   rename_i h0;subst h0;simp;omega
  split at h
  .
   rename_i h0;subst h0;simp;omega
  split at h
  .
   rename_i h0;subst h0;split at h
   .
    simp;omega
   .
    omega
  .
   omega
 .
  rintro⟨⟨h1,h2⟩,h3,h4⟩;have h8:k=0\/k=1\/k=2\/k=3\/k=4\/k=5\/k=6\/k=7:=by omega
  rcases h8 with rfl|rfl|rfl|rfl|rfl|rfl|rfl|rfl <;> simp at h3 h4 ⊢ <;> omega
theorem cR{k n:Int}{mod name:List Int}(h:inB k 0 7=false\/inB nk (dA k) (iT k)=false\/inB n (gD k) (dM k)=false\/(eF k=true/\aO name false=false)\/(eF k=false/\¬name.length=0)\/(¬mod.length=0/\¬k=6)\/(¬mod.length=0/\aO mod true=false)):iF k n mod name nk=false:=by
 unfold iF;rcases h with h|h|h|⟨h1,h2⟩|⟨h1,h2⟩|⟨h1,h2⟩|⟨h1,h2⟩
 .
  rw[h];rfl
 .
  rw[h];simp
 .
  rw[h];simp
 .
  rw[h1,if_pos rfl,h2];simp
 .
  rw[h1,zC2 h2];simp
 .
  rw[zC2 h1,zC2 h2];simp
 .
  rw[zC2 h1,h2];simp
theorem jO{k n:Int}{mod name:List Int}(h1:inB k 0 7=true)(h2:inB nk (dA k) (iT k)=true)(h3:inB n (gD k) (dM k)=true)(h4:(if eF k then aO name false else decide (name.length=0))=true)(h5:(decide (mod.length=0) || decide (k=6) && aO mod true)=true):iF k n mod name nk=true:=by
 unfold iF;rw[h1,h2,h3,h4,h5];rfl
def cY (x:Ex)(d:Int)(Bi:Bool)(left:Int):Bool:=(!lP x || Bi) && kJ x d left
def eC (l:List Ex)(d:Int)(Bi:Bool)(left:Int):Bool:=(Bi || !l.any lP) && jU l d left
theorem eE{d:Int}{j:Nat}(h:l[j]?=some x)(hx:cY x d Bi (left-(aD (l.take j):Int))=false):eC l d Bi left=false:=by
 unfold cY at hx;unfold eC;rw[zH3]at hx ⊢;rcases hx with hx|hx
 .
  left;rw[Bool.or_eq_false_iff]at hx ⊢;refine⟨hx.2, ?_⟩;have h1:lP x=true:=by simpa using hx.1
  have:l.any lP=true:=by rw[List.any_eq_true];exact⟨x,zA3 h,h1⟩
  rw[this];rfl
 .
  right;exact aE6 h hx
theorem dL{d:Int}(h:∀j x,l[j]?=some x->cY x d Bi (left-(aD (l.take j):Int))=true)(hl:0<=left):eC l d Bi left=true:=by
 unfold eC;rw[zC0];refine⟨?_,aCh (fun j x hx=>by have:=h j x hx;unfold cY at this;rw[zC0]at this;exact this.2) hl⟩;cases Bi
 .
  rw[Bool.false_or];have:l.any lP=false:=by
   rw[List.any_eq_false];intro x hx;obtain⟨j,hj⟩:=List.getElem?_of_mem hx;have:=h j x hj;unfold cY at this;simp only[zC0,Bool.or_eq_true,Bool.not_eq_true',Bool.false_eq_true,or_false]at this;simpa using this.1
  rw[this];rfl
 .
  rfl
theorem fZ{d:Int}(h:cY x d Bi left=true):(cU x:Int)<=left:=by
 unfold cY at h;rw[zC0]at h;exact aIo h.2
theorem tN{d:Int}(h:left<1\/16<d):cY x d Bi left=false:=by
 unfold cY;rw[aCi h];simp
theorem bN{k n:Int}{mod name:List Int}{d:Int}(h:iF k n mod name ks.length=false):cY (.mk k n mod name ks) d Bi left=false:=by
 unfold cY kJ uI;rw[h];simp
theorem aGt{n:Int}{mod name:List Int}{d:Int}:cY (.mk 7 n mod name ks) d false left=false:=by
 unfold cY lP Ex.kind;simp
theorem eM{k n:Int}{mod name:List Int}{d:Int}(h:iF k n mod name ks.length=true)(ha:¬k=7\/Bi=true)(hl:1<=left)(hd:d<=16):cY (.mk k n mod name ks) d Bi left=eC ks (d+1) (decide (k=6)) (left-1):=by
 have h1:(!lP (.mk k n mod name ks) || Bi)=true:=by
  rcases ha with ha|ha
  .
   simp[lP,Ex.kind,ha]
  .
   rw[ha];simp
 unfold cY eC;rw[h1,Bool.true_and];cases hx:(decide (k=6) || !ks.any lP)
 .
  rw[Bool.false_and];refine aCk ?_;rw[aAo,hx];simp
 .
  rw[Bool.true_and];exact aCj (by rw[aAo,h,hx];rfl) hl hd
theorem kI{k:Int}(h:inB (ks.length:Int) (dA k) (iT k)=true)(hk:iT k=0):ks.length=0:=by
 unfold inB at h;rw[hk]at h;simp only[zC0,zE3]at h;omega
theorem kD{d m:Int}(h:0<=m):eC [] d Bi m=true:=by
 simp[eC,jU,jW,aD,h]
end
theorem QA29{p:Prop}(h:p:=by
 go_wp2
 go_ret
 exact⟨hz.out _ hv.out,y0⟩):p:=h
set_option maxHeartbeats 1000000 in
theorem aL6 (k n:Int)(v2 v3:Value)(a:Option Addr)(nk c:Nat)(w:World)(hk:nk<=9223372036854775807):
  Calls Tryz.prog 128 #[.agg #[.int .i64 k,.int .i64 n,v2,v3,.slice a nk c]] w fun e w'=>e=.returned (.int .i64 (eT k nk))/\w.grownBy w' none:=by
 have y0:=aE w (.cells #[.int .i64 k,.int .i64 n,v2,v3,.slice a nk c] 147 (0,0)) none;have q0:=bA w 147 #[.int .i64 k,.int .i64 n,v2,v3,.slice a nk c] 0 _ rfl;have q4:=bA w 147 #[.int .i64 k,.int .i64 n,v2,v3,.slice a nk c] 4 _ rfl;have hz:Hid (∀x:Int,eT k nk=x->Ending.returned (.int .i64 x)=.returned (.int .i64 (eT k nk))):=fun x h=>by rw[h]
 go_enter Tryz.func128,Tryz.ntmps128;go_upto_region 1 with fail;generalize w.alloc (.cells #[.int .i64 k,.int .i64 n,v2,v3,.slice a nk c] 147 (0,0))=w1 at *;by_cases k0:k=0
 .
  subst k0;have hv:Hid (eT 0 nk=0):=by show _=_;simp[eT]
  exact QA29
 have g0:(k == 0)=false:=by simpa using k0
 by_cases k1:k=1
 .
  subst k1;have hv:Hid (eT 1 nk=0):=by show _=_;simp[eT]
  exact QA29
 have g1:(k == 1)=false:=by simpa using k1
 by_cases k4:k=4
 .
  subst k4;have hv:Hid (eT 4 nk=0):=by show _=_;simp[eT]
  exact QA29
 have g4:(k == 4)=false:=by simpa using k4
 by_cases k5:k=5
 .
  subst k5;have hv:Hid (eT 5 nk=0):=by show _=_;simp[eT]
  exact QA29
 have g5:(k == 5)=false:=by simpa using k5
 by_cases k7:k=7
 .
  subst k7;have hv:Hid (eT 7 nk=0):=by show _=_;simp[eT]
  exact QA29
 have g7:(k == 7)=false:=by simpa using k7
 by_cases k2:k=2
 .
  subst k2;have hv:Hid (eT 2 nk=1):=by show _=_;simp[eT]
  exact QA29
 have g2:(k == 2)=false:=by simpa using k2
 by_cases k3:k=3
 .
  subst k3;have hv:Hid (eT 3 nk=2):=by show _=_;simp[eT]
  exact QA29
 have g3:(k == 3)=false:=by simpa using k3
 by_cases k6:k=6
 .
  subst k6;by_cases h4:nk<=4
  .
   have Qh:(nk:Int)<=4:=by omega
   have hv:Hid (eT 6 nk=nk):=by show _=_;simp[eT,h4]
   exact QA29
  .
   have Qh:¬(nk:Int)<=4:=by omega
   have hv:Hid (eT 6 nk = -1):=by show _=_;simp[eT,h4]
   exact QA29
 have g6:(k == 6)=false:=by simpa using k6
 have hv:Hid (eT k nk = -1):=by show _=_;simp[eT,k0,k1,k2,k3,k4,k5,k6,k7]
 clear k0 k1 k2 k3 k4 k5 k6 k7;exact QA29
end Go.Proofs.YtcbhdhmhidpdgaaGreat

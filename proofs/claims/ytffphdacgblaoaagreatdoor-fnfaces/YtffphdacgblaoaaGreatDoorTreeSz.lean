import Derived.Test.YtffphdacgblaoaaGreatDoorPackB
import Derived.Deep.Cut
import Derived.Deep.CutRange
namespace Go.Proofs.YtffphdacgblaoaaGreatDoor
open Go.RowKit
set_option linter.unusedVariables false
set_option linter.unusedSimpArgs false
set_option maxRecDepth 100000
def SzV (w:World)(F:Nat)(v:Value)(N:Nat):Prop:=
 ∀(w1:World) (k:Int),Below w.heap.size w w1->0<=k->k<=1048576->Calls Tryz.prog F #[v,.int .i64 k] w1 fun e w'=>e=.returned (.int .i64 (szL k N))/\Below w1.heap.size w1 w'
theorem aC {w w':World}{g i:Nat}{v:Value}(h:w.cell? ⟨g,i,none⟩=some v)(hb:Below w.heap.size w w'):w'.cell? ⟨g,i,none⟩=some v:=by
 rw[hb.cell (zI3 w _ h)];exact h
theorem aN (w:World)(t:TypeId)(vs:Array Value)(i:Nat)(v:Value)(h:vs[i]?=some v):(w.alloc (.cells vs t (0,0))).cell? ⟨w.heap.size,i,none⟩=some v:=by
 rw[cell_of_row _ w.heap.size i vs t (0,0) (zJ1 w _)];exact h
theorem lR.vals {w:World}{b:Nat}{r:List Fl}:∀{off:Nat},lR w b off r->∃vs,cC w r vs/\∀i v,vs[i]?=some v->w.cell? ⟨b,off+i,none⟩=some v:=by
 induction r with
 | nil=>intro off _;exact⟨[],rfl,by simp⟩
 | cons f r ih=>
  intro off h;obtain⟨⟨v,hc,hv⟩,h2⟩:=h;obtain⟨vs,h3,h4⟩:=ih h2
  refine⟨v :: vs,⟨v,vs,rfl,hv,h3⟩,fun i u hu=>?_⟩
  cases i with
  | zero=>simp only[List.getElem?_cons_zero,zG2]at hu;subst hu;exact hc
  | succ i=>
   rw[List.getElem?_cons_succ]at hu
   have:=h4 i u hu
   rw[show off+(i+1)=off+1+i by omega];exact this
theorem SzV.on {w w1:World}{F N:Nat}{v:Value}(h:SzV w F v N)(hb:Below w.heap.size w w1):SzV w1 F v N:=
 fun w2 k hb2 hk hk2=>h w2 k (hb.trans (hb2.mono hb.size)) hk hk2
end Go.Proofs.YtffphdacgblaoaaGreatDoor

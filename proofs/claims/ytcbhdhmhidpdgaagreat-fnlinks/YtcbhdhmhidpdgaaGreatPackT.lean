import Derived.Test.YtcbhdhmhidpdgaaGreatPackJ
import Derived.Test.YtcbhdhmhidpdgaaGreatWords
import Derived.Deep.RegionHeld3
namespace Go.Proofs.YtcbhdhmhidpdgaaGreat
open Go.RowKit
set_option linter.unusedVariables false
theorem aC0.el {w:World}{b off n:Nat}{l:List WdM}(h:aC0 w (some ⟨b,off,none⟩) n l){k:Nat}(hk:k<n):∃x,l[k]?=some x/\w.cell? ⟨b,off+k*7,none⟩=some (.bool x.t)/\w.cell? ⟨b,off+k*7+1,none⟩=some (.int .i64 x.n)/\w.cell? ⟨b,off+k*7+2,none⟩=some (.int .i64 x.l)/\w.cell? ⟨b,off+k*7+3,none⟩=some (.int .i64 x.h)/\w.cell? ⟨b,off+k*7+4,none⟩=some (.int .i64 x.a)/\w.cell? ⟨b,off+k*7+5,none⟩=some (.int .i64 x.p)/\w.cell? ⟨b,off+k*7+6,none⟩=some (.int .i64 x.s):=by
 obtain⟨b',Lg,e,hc⟩:=h.2 A0;simp only[zG2,Addr.mk.injEq,and_true]at e;obtain⟨rfl,rfl⟩:=e;exact⟨_,zA0 (by rw[h.1];exact hk),aG2 hc (zA0 (by rw[h.1];exact hk))⟩
theorem uF {w:World}{k:Nat}{t:TypeId}{u:Value}(h:w.heap[k]?=some (.cells #[u] t (0,0))):w.cell? ⟨k,0,none⟩=some u/\w.frozen? ⟨k,0,none⟩=false:=
 ⟨by rw[cell_of_row w k 0 _ _ (0,0) h];rfl,frozen_of_row w k 0 _ _ h⟩
end Go.Proofs.YtcbhdhmhidpdgaaGreat

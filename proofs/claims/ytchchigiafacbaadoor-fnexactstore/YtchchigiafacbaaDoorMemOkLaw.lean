/- The law of MemoryOk returns true at every memory, and writes nothing that was there. -/
import Derived.Test.YtchchigiafacbaaDoorMemImpl
import Derived.Test.YtchchigiafacbaaDoorMemOpen
namespace Go.Proofs.YtchchigiafacbaaDoor
open Go.RowKit
set_option linter.unusedVariables false
set_option linter.unusedSimpArgs false

theorem WRow.drew {w : World} {a : Option Addr} {n : Nat} {l : List Wd} (h : WRow w a n l) : WRow w.drew a n l :=
  ⟨h.1, fun hn => by obtain ⟨b, off, e, hc⟩ := h.2 hn; exact ⟨b, off, e, fun k v hv => hc k v hv⟩⟩

theorem WRow.len {w : World} {a : Option Addr} {n : Nat} {l : List Wd} (h : WRow w a n l) : l.length = n := h.1

theorem in64W {n : Int} (h : (Lit.int .i64 n).wf = true) : In64 n := by
  have := (bounds_i64 h); exact ⟨this.1, this.2⟩

end Go.Proofs.YtchchigiafacbaaDoor

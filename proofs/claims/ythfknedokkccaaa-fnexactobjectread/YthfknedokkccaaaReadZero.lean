/- The object of nothing. No function is walked here. -/
import Derived.Test.YthfknedokkccaaaReadPure
import Derived.Test.YthfknedokkccaaaReadOwn
namespace Go.Proofs.Ythfknedokkccaaa
open Go.RowKit
set_option linter.unusedVariables false

theorem OOwn.zero (w : World) (base : Nat) : OOwn w base ⟨.slice none 0 0, .slice none 0 0, .slice none 0 0, .int .i64 0, .slice none 0 0⟩ ob0 [] [] :=
  ⟨⟨none, 0, rfl, ⟨World.ownsRow_nil _ _ _ _, by intro x hx; cases hx⟩⟩, ⟨World.ownsRow_nil _ _ _ _, rfl, rfl, by simp⟩, ⟨World.ownsRow_nil _ _ _ _, rfl, rfl, by simp⟩, rfl, ⟨none, 0, rfl, ⟨World.ownsRow_nil _ _ _ _, by intro x hx; cases hx⟩⟩,
    ⟨by simp [Value.ownBlock, owners], by simp [Value.ownBlock, owners]⟩⟩
theorem OOwn.mono {w : World} {base base' : Nat} {o : O5} {b : Ob} {lE lI : List R3} (h : OOwn w base o b lE lI) (hb : base' ≤ base) : OOwn w base' o b lE lI :=
  ⟨h.nm.mono hb, h.ex.mono hb, h.im.mono hb, h.dt, h.cd.mono hb, h.bk.low hb⟩
def n7 (l : List Int) : Nat := (r7 l).1.toNat
def n4 (l : List Int) : Nat := (r4 l).1.toNat
def n2 (l : List Int) : Nat := (r2 l).1.toNat
end Go.Proofs.Ythfknedokkccaaa

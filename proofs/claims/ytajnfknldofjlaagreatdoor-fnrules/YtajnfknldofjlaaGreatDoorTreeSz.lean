/- Contracts of the laws' own helpers that count how large a module is. By mktreesz.py. -/
import Derived.Test.YtajnfknldofjlaaGreatDoorTree
import Derived.Deep.Cut
import Derived.Deep.CutRange
namespace Go.Proofs.YtajnfknldofjlaaGreatDoor
open Go.RowKit
set_option linter.unusedVariables false
set_option linter.unusedSimpArgs false
set_option maxRecDepth 100000

/-- Whatever is left, the helper F counts N for this value, in w and behind it. -/
def SzV (w : World) (F : Nat) (v : Value) (N : Nat) : Prop :=
  ∀ (w1 : World) (k : Int), Below w.heap.size w w1 → 0 ≤ k → k ≤ 1048576 → Calls Tryz.prog F #[v, .int .i64 k] w1 fun e w' => e = .returned (.int .i64 (szL k N)) ∧ Below w1.heap.size w1 w'

def SzF (F : Nat) (f : Fl) : Prop := ∀ (w : World) (v : Value), f.Rd w v → SzV w F v f.len
def SzR (F : Nat) (r : List Fl) : Prop := ∀ (w : World) (vs : List Value), RdVals w r vs → SzV w F (.agg vs.toArray) (recLen r)

/-- Cells of a block that stays. -/
theorem cell_on {w w' : World} {g i : Nat} {v : Value} (h : w.cell? ⟨g, i, none⟩ = some v) (hb : Below w.heap.size w w') : w'.cell? ⟨g, i, none⟩ = some v := by
  rw [hb.cell (World.block_lt_of_cell? w _ h)]; exact h
theorem cell_new (w : World) (t : TypeId) (vs : Array Value) (i : Nat) (v : Value) (h : vs[i]? = some v) : (w.alloc (.cells vs t (0, 0))).cell? ⟨w.heap.size, i, none⟩ = some v := by
  rw [cell_of_row _ w.heap.size i vs t (0, 0) (heap_alloc_new w _)]; exact h

theorem RdRec.vals {w : World} {b : Nat} {r : List Fl} : ∀ {off : Nat}, RdRec w b off r → ∃ vs, RdVals w r vs ∧ ∀ i v, vs[i]? = some v → w.cell? ⟨b, off + i, none⟩ = some v := by
  induction r with
  | nil => intro off _; exact ⟨[], rfl, by simp⟩
  | cons f r ih =>
    intro off h
    obtain ⟨⟨v, hc, hv⟩, h2⟩ := h
    obtain ⟨vs, h3, h4⟩ := ih h2
    refine ⟨v :: vs, ⟨v, vs, rfl, hv, h3⟩, fun i u hu => ?_⟩
    cases i with
    | zero => simp only [List.getElem?_cons_zero, Option.some.injEq] at hu; subst hu; exact hc
    | succ i =>
      rw [List.getElem?_cons_succ] at hu
      have := h4 i u hu
      rw [show off + (i + 1) = off + 1 + i by omega]; exact this

theorem lst2 {l : List Value} (h : l.length = 2) : ∃ y0 y1, l = [y0, y1] := by match l, h with | [y0, y1], _ => exact ⟨_, _, rfl⟩
theorem lst3 {l : List Value} (h : l.length = 3) : ∃ y0 y1 y2, l = [y0, y1, y2] := by match l, h with | [y0, y1, y2], _ => exact ⟨_, _, _, rfl⟩
theorem lst4 {l : List Value} (h : l.length = 4) : ∃ y0 y1 y2 y3, l = [y0, y1, y2, y3] := by match l, h with | [y0, y1, y2, y3], _ => exact ⟨_, _, _, _, rfl⟩
theorem lst5 {l : List Value} (h : l.length = 5) : ∃ y0 y1 y2 y3 y4, l = [y0, y1, y2, y3, y4] := by match l, h with | [y0, y1, y2, y3, y4], _ => exact ⟨_, _, _, _, _, rfl⟩
theorem lst6 {l : List Value} (h : l.length = 6) : ∃ y0 y1 y2 y3 y4 y5, l = [y0, y1, y2, y3, y4, y5] := by match l, h with | [y0, y1, y2, y3, y4, y5], _ => exact ⟨_, _, _, _, _, _, rfl⟩
theorem RdVals.lenS {w : World} : ∀ {r : List Fl} {vs : List Value}, RdVals w r vs → vs.length = r.length := by
  intro r
  induction r with
  | nil => intro vs h; rw [show vs = [] from h]; rfl
  | cons f r ih => intro vs h; obtain ⟨v, us, rfl, _, h2⟩ := h; simp [ih h2]

theorem SzV.on {w w1 : World} {F N : Nat} {v : Value} (h : SzV w F v N) (hb : Below w.heap.size w w1) : SzV w1 F v N :=
  fun w2 k hb2 hk hk2 => h w2 k (hb.trans (hb2.mono hb.size)) hk hk2

end Go.Proofs.YtajnfknldofjlaaGreatDoor

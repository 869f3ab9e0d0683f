/- Searches with a function handed over, by type of element, whatever the function is. By mkall.py. -/
import Derived.Test.YtpkbeeicffoaoaaTreeSz
import Derived.Deep.Cut
import Derived.Deep.CutRange
namespace Go.Proofs.Ytpkbeeicffoaoaa
open Go.RowKit
set_option linter.unusedVariables false
set_option linter.unusedSimpArgs false
set_option maxRecDepth 100000

theorem RdVals.len {w : World} : ∀ {r : List Fl} {vs : List Value}, RdVals w r vs → vs.length = r.length := by
  intro r
  induction r with
  | nil => intro vs h; rw [show vs = [] from h]; rfl
  | cons f r ih => intro vs h; obtain ⟨v, us, rfl, _, h2⟩ := h; simp [ih h2]

theorem grown_refl (w : World) (row : Option Nat) : w.grownBy w row := ⟨rfl, rfl, rfl, Nat.le_refl _, fun _ _ _ => rfl⟩
theorem grown_trans {a b c : World} {row : Option Nat} (h : a.grownBy b row) (k : b.grownBy c row) : a.grownBy c row :=
  ⟨k.os.trans h.os, k.tape.trans h.tape, k.output.trans h.output, Nat.le_trans h.size k.size, fun i hi hr => (k.block i (Nat.lt_of_lt_of_le hi h.size) hr).trans (h.block i hi hr)⟩
theorem below_grown {a b : World} (h : a.grownBy b none) : Below a.heap.size a b := ⟨h.os, h.tape, h.output, h.size, fun k hk => h.block k hk (by simp)⟩
theorem grown_below {a b : World} (h : Below a.heap.size a b) (row : Option Nat) : a.grownBy b row := ⟨h.os, h.tape, h.output, h.size, fun k hk _ => h.block k hk⟩
theorem grown_alloc (w : World) (x : Obj) (row : Option Nat) : w.grownBy (w.alloc x) row := grown_below ((Below.refl _ _).alloc (Nat.le_refl _) x) row
theorem grown_any {a b : World} (h : a.grownBy b none) (row : Option Nat) : a.grownBy b row := ⟨h.os, h.tape, h.output, h.size, fun k hk _ => h.block k hk (by simp)⟩

/-- The function is one with a body. -/
def Ent (C : Nat) : Prop := ∀ args w, Sem.run Try.prog (callFunc C args) w = .ok (.enter C args) w

/-- These values lie there. -/
def CellsAt (w : World) (a : Option Addr) (o : Nat) (vs : List Value) : Prop := ∃ b off, a = some ⟨b, off, none⟩ ∧ ∀ i v, vs[i]? = some v → w.cell? ⟨b, off + o + i, none⟩ = some v

theorem CellsAt.below {w w' : World} {a : Option Addr} {o : Nat} {vs : List Value} (h : CellsAt w a o vs) (hb : Below w.heap.size w w') : CellsAt w' a o vs := by
  obtain ⟨b, off, e, hc⟩ := h
  exact ⟨b, off, e, fun i v hv => cell_on (hc i v hv) hb⟩

/-- What lies there now and lay there ahead is the same. -/
theorem vals_back {w0 wr : World} {a : Option Addr} {c K j : Nat} {rs : List (List Fl)} {r : List Fl} {vs : List Value} (hr : LRow w0 a c K rs) (hb : Below w0.heap.size w0 wr) (hj : rs[j]? = some r) (hlen : vs.length = r.length) (hc : CellsAt wr a (j * K) vs) : RdVals w0 r vs := by
  obtain ⟨b, off, rfl, hc⟩ := hc
  obtain ⟨vs0, h0, hc0⟩ := (hr.el hj).vals
  have hl0 : vs0.length = r.length := h0.len
  have : vs = vs0 := by
    apply List.ext_getElem?
    intro i
    by_cases hi : i < r.length
    · have h1 := hc0 i _ (List.getElem?_eq_getElem (by omega : i < vs0.length))
      have h2 := hc i _ (List.getElem?_eq_getElem (by omega : i < vs.length))
      have h3 := cell_on h1 hb
      rw [h2] at h3
      rw [List.getElem?_eq_getElem (by omega : i < vs.length), List.getElem?_eq_getElem (by omega : i < vs0.length)]
      exact h3
    · rw [List.getElem?_eq_none (by omega), List.getElem?_eq_none (by omega)]
  rw [this]; exact h0

/-- The function G, with caps behind its argument, says P of each record, one behind the other; as long as it does not say s, Inv goes on; where it says s, Q. -/
structure Asks (s : Bool) (G : Nat) (caps : Array Value) (row : Option Nat) (mkv : List Value → Value) (a : Option Addr) (c K : Nat) (rs : List (List Fl)) (P : Nat → Bool) (Inv Q : Nat → World → Prop) : Prop where
  ent : Ent G
  rows : ∀ j wr, Inv j wr → LRow wr a c K rs
  each : ∀ r ∈ rs, r.length = K
  go : ∀ j r wr vs, rs[j]? = some r → Inv j wr → RdVals wr r vs → CellsAt wr a (j * K) vs → Calls Try.prog G (#[mkv vs] ++ caps) wr fun e w' => e = .returned (.bool (P j)) ∧ wr.grownBy w' row ∧ (P j = (!s) → Inv (j + 1) w') ∧ (P j = s → Q j w')

/-- What is told by a search: where something was found, the first of it. -/
structure Told (s : Bool) (n : Nat) (P : Nat → Bool) (Inv Q : Nat → World → Prop) (b : Bool) (w : World) : Prop where
  yes : b = true → ∃ j, j < n ∧ P j = s ∧ (∀ i, i < j → P i = (!s)) ∧ Q j w
  no : b = false → (∀ i, i < n → P i = (!s)) ∧ Inv n w

def one (vs : List Value) : Value := vs[0]?.getD undef
def agg (vs : List Value) : Value := .agg vs.toArray

theorem ent_of {f : FuncId} {fn : Func} {c : Code} (hf : Try.prog.funcs[f]? = some fn) (hname : (fn.name == "runtime.NumGoroutine") = false) (hb : fn.body = some c) : Ent f := by
  intro args w
  have h1 : fn.name ≠ "runtime.NumGoroutine" := by simpa using hname
  simp [callFunc, go_sem, hf, h1, hb]

theorem told_any {n : Nat} {P : Nat → Bool} {Inv Q : Nat → World → Prop} {b : Bool} {w : World} (h : Told true n P Inv Q b w) : b = (List.range n).any P := by
  cases b with
  | true =>
    obtain ⟨j, hj, hp, _⟩ := h.yes rfl
    symm; rw [List.any_eq_true]
    exact ⟨j, by simpa using hj, hp⟩
  | false =>
    have := (h.no rfl).1
    symm; rw [List.any_eq_false]
    intro x hx
    simpa using this x (by simpa using hx)
theorem told_all {n : Nat} {P : Nat → Bool} {Inv Q : Nat → World → Prop} {b : Bool} {w : World} (h : Told false n P Inv Q (!b) w) : b = (List.range n).all P := by
  cases b with
  | true =>
    have := (h.no rfl).1
    symm; rw [List.all_eq_true]
    intro x hx
    simpa using this x (by simpa using hx)
  | false =>
    obtain ⟨j, hj, hp, _⟩ := h.yes rfl
    symm; rw [List.all_eq_false]
    exact ⟨j, by simpa using hj, by simp [hp]⟩
theorem range_any {α : Type} (l : List α) (d : α) (p : α → Bool) : ((List.range l.length).any fun j => p (l[j]?.getD d)) = l.any p := by
  rw [Bool.eq_iff_iff, List.any_eq_true, List.any_eq_true]
  constructor
  · rintro ⟨j, hj, hp⟩
    have hj : j < l.length := by simpa using hj
    rw [List.getElem?_eq_getElem hj] at hp
    exact ⟨l[j], List.getElem_mem hj, hp⟩
  · rintro ⟨x, hx, hp⟩
    obtain ⟨j, hj, rfl⟩ := List.mem_iff_getElem.1 hx
    exact ⟨j, by simpa using hj, by rw [List.getElem?_eq_getElem hj]; exact hp⟩
theorem range_all {α : Type} (l : List α) (d : α) (p : α → Bool) : ((List.range l.length).all fun j => p (l[j]?.getD d)) = l.all p := by
  rw [Bool.eq_iff_iff, List.all_eq_true, List.all_eq_true]
  constructor
  · intro h x hx
    obtain ⟨j, hj, rfl⟩ := List.mem_iff_getElem.1 hx
    have := h j (by simpa using hj)
    rwa [List.getElem?_eq_getElem hj] at this
  · intro h j hj
    have hj : j < l.length := by simpa using hj
    rw [List.getElem?_eq_getElem hj]
    exact h _ (List.getElem_mem hj)


end Go.Proofs.Ytpkbeeicffoaoaa

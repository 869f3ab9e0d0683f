/- What the specification tells of a memory. -/
import Derived.Test.YtjojildjnafgiaaMemLaw2
import Derived.Test.YtjojildjnafgiaaWords3
namespace Go.Proofs.Ytjojildjnafgiaa
open Go.RowKit
set_option linter.unusedVariables false
set_option linter.unusedSimpArgs false

def okW (x : Wd) : Bool := okB x.t x.n x.l x.h x.a x.p x.s
def dataW (x : Wd) : Bool := x.t && (x.s == 0)
/-- May word x stand in a memory of n words? -/
def fitW (n : Nat) (x : Wd) : Bool := okW x && !(dataW x && decide ((n : Int) < x.h))
def memB (l : List Wd) : Bool := decide (l.length ≤ 4000) && l.all (fitW l.length)

theorem memB_no {l : List Wd} {k : Nat} {x : Wd} (hx : l[k]? = some x) (hf : fitW l.length x = false) : memB l = false := by
  rw [memB, Bool.and_eq_false_iff]
  right
  rw [Bool.eq_false_iff]
  intro h
  have := List.all_eq_true.1 h x (List.mem_of_getElem? hx)
  rw [hf] at this
  exact absurd this (by decide)

theorem memB_yes {l : List Wd} {n : Nat} (hl : l.length = n) (h4 : n ≤ 4000) (hf : ∀ j, j < n → ∀ x, l[j]? = some x → fitW n x = true) : memB l = true := by
  rw [memB, hl, Bool.and_eq_true]
  refine ⟨by simpa using h4, List.all_eq_true.2 fun x hx => ?_⟩
  obtain ⟨j, hj, e⟩ := List.mem_iff_getElem.1 hx
  exact hf j (by omega) x (by rw [List.getElem?_eq_getElem hj, e])

theorem fit_next {l : List Wd} {n k : Nat} {x : Wd} (hx : l[k]? = some x) (hf : fitW n x = true) (h : ∀ j, j < k → ∀ x, l[j]? = some x → fitW n x = true) : ∀ j, j < k + 1 → ∀ x, l[j]? = some x → fitW n x = true := by
  intro j hj y hy
  by_cases e : j = k
  · subst e; rw [hx] at hy; obtain rfl := Option.some.inj hy; exact hf
  · exact h j (by omega) y hy

theorem dataB (xt : Bool) (xn xl xh xa xp xs : Int) (w : World) :
    Calls Try.prog 16 #[.agg #[.bool xt, .int .i64 xn, .int .i64 xl, .int .i64 xh, .int .i64 xa, .int .i64 xp, .int .i64 xs]] w fun e w' => e = .returned (.bool (xt && (xs == 0))) ∧ Below w.heap.size w w' := by
  refine (dataM xt xn xl xh xa xp xs w).mono ?_
  rintro e w' ⟨rfl, rfl⟩
  exact ⟨rfl, (Below.refl _ _).alloc (Nat.le_refl _) _⟩

end Go.Proofs.Ytjojildjnafgiaa

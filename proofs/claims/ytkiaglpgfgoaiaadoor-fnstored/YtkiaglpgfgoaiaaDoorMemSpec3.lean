/- What is loaded, by the specification. -/
import Derived.Test.YtkiaglpgfgoaiaaDoorMemSpec2
import Derived.Test.YtkiaglpgfgoaiaaDoorPut7
import Derived.Deep.Cut
namespace Go.Proofs.YtkiaglpgfgoaiaaDoor
open Go.RowKit
set_option linter.unusedVariables false
set_option linter.unusedSimpArgs false

def seeB (xp : Int) (v : Wd) : Bool := v.t && (bits .and .i64 xp 4 == 0)
/-- What is loaded: the trap, and the word. -/
def loadT (l : List Wd) (xt : Bool) (xn xl xh xa xp xs : Int) (by_ : Int) : Int :=
  bif trapV l.length xt xn xl xh xa xp xs by_ 1 == 0 then (bif seeB xp (l[(xa + by_).toNat]?.getD zeroW) then 3 else 0) else trapV l.length xt xn xl xh xa xp xs by_ 1
def loadV (l : List Wd) (xt : Bool) (xn xl xh xa xp xs : Int) (by_ : Int) : Wd := bif loadT l xt xn xl xh xa xp xs by_ == 0 then l[(xa + by_).toNat]?.getD zeroW else zeroW

theorem hit_of {n : Nat} (xt : Bool) (xn xl xh xa xp xs : Int) {by_ perm : Int} (h : trapV n xt xn xl xh xa xp xs by_ perm = 0) : (xt && (xs == 0)) = true ∧ xl ≤ xa + by_ ∧ xa + by_ < xh ∧ xa + by_ < (n : Int) := by
  cases hd : (xt && (xs == 0))
  · rw [trapV, hd] at h; simp at h
  · cases hp : (bits .and .i64 xp perm == perm)
    · rw [trapV, hd, hp] at h; simp at h
    · cases hh : hitB n xl xh xa by_
      · rw [trapV, hd, hp, hh] at h; simp at h
      · simp [hitB, inR] at hh
        exact ⟨rfl, hh.2.1, hh.2.2.1, hh.2.2.2⟩

/-- What a call leaves behind two blocks: the box of a word, the result. -/
theorem two_kept {w w1 : World} {x0 x1 x2 x3 x4 x5 x6 : Value} {z0 z1 z2 z3 z4 z5 z6 : Value} {wA : World} (e : wA = (w.alloc (.cells #[x0, x1, x2, x3, x4, x5, x6] 27)).alloc (.cells #[z0, z1, z2, z3, z4, z5, z6] 27)) (hb : Below wA.heap.size wA w1) :
    w1.heap[w.heap.size]? = some (.cells #[x0, x1, x2, x3, x4, x5, x6] 27 (0, 0)) ∧ w1.heap[w.heap.size + 1]? = some (.cells #[z0, z1, z2, z3, z4, z5, z6] 27 (0, 0)) ∧ Below w.heap.size w w1 ∧ w.heap.size + 2 ≤ w1.heap.size := by
  subst e
  have h1 : ((w.alloc (.cells #[x0, x1, x2, x3, x4, x5, x6] 27)).alloc (.cells #[z0, z1, z2, z3, z4, z5, z6] 27)).heap[w.heap.size]? = some (.cells #[x0, x1, x2, x3, x4, x5, x6] 27 (0, 0)) := by
    rw [old_block (by simp)]; exact heap_alloc_new w _
  have h2 : ((w.alloc (.cells #[x0, x1, x2, x3, x4, x5, x6] 27)).alloc (.cells #[z0, z1, z2, z3, z4, z5, z6] 27)).heap[w.heap.size + 1]? = some (.cells #[z0, z1, z2, z3, z4, z5, z6] 27 (0, 0)) := by
    have := heap_alloc_new (w.alloc (.cells #[x0, x1, x2, x3, x4, x5, x6] 27)) (.cells #[z0, z1, z2, z3, z4, z5, z6] 27)
    simpa using this
  have hs := hb.size
  simp at hs
  exact ⟨(hb.block _ (by simp; omega)).trans h1, (hb.block _ (by simp)).trans h2, (((Below.refl _ _).alloc (Nat.le_refl _) _).alloc (by simp) _).trans (hb.mono (by simp; omega)), by omega⟩

theorem put7_below {B : Nat} {a w : World} (h : Below B a w) {k : Nat} (hk : B ≤ k) (v0 v1 v2 v3 v4 v5 v6 : Value) : Below B a (put7 w k v0 v1 v2 v3 v4 v5 v6) := by
  unfold put7
  exact (((((((h.setCell hk _).setCell hk _).setCell hk _).setCell hk _).setCell hk _).setCell hk _).setCell hk _)

end Go.Proofs.YtkiaglpgfgoaiaaDoor

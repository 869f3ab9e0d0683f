/- Instructions as values: what may be one, by what is built and by its model. -/
import Derived.Test.YtcidckmocmdijaaDoorRows
import Derived.WalkKit
import Derived.ProofKit
import Derived.Deep.QuietTactic
import Derived.BigQuiet
import Derived.OpenShut
import Derived.Deep.Cut
namespace Go.Proofs.YtcidckmocmdijaaDoor
open Go.RowKit
set_option linter.unusedVariables false
set_option linter.unusedSimpArgs false
set_option maxRecDepth 100000

theorem rb {a b : Bool} (h : a = b) : Ending.returned (.bool a) = .returned (.bool b) := by rw [h]
theorem ri {k : IntKind} {a b : Int} (h : a = b) : Ending.returned (.int k a) = .returned (.int k b) := by rw [h]
theorem below_drewN {B : Nat} {a w : World} (h : Below B a w) (d : Nat) : Below B a (w.drewN d) := ⟨h.os, h.tape, h.output, h.size, h.block⟩

def wr (n : Int) : Int := wrap64 (wrap32 n)
def inR (n a b : Int) : Bool := decide (a ≤ n) && decide (n ≤ b)
def regB (n : Int) : Bool := inR n 0 7
def insB (xo xa xb xc xn xm : Int) : Bool := inR xo 1 22 && (regB xa && (regB xb && (regB xc && ((xn == wr xn) && (xm == wr xm)))))

/-- The table of ops reads as the program lays it. -/
def Ops (w : World) : Prop := ∀ i : Nat, i ≤ 22 → w.cell? ⟨0, i * 4, none⟩ = some (.bool (decide (1 ≤ i)))

theorem Ops.below {w w' : World} (h : Ops w) (hb : Below w.heap.size w w') : Ops w' := fun i hi => by
  have := h i hi
  rw [hb.cell (World.block_lt_of_cell? w _ this)]; exact this

theorem Ops.belowAt {w0 w w' : World} (h : Ops w0) (hb : Below w0.heap.size w0 w) : Ops w := h.below hb

theorem inRangeM (n a b : Int) (w : World) :
    Calls Tryd.prog 28 #[.int .i64 n, .int .i64 a, .int .i64 b] w fun e w' => e = .returned (.bool (inR n a b)) ∧ w' = w := by
  go_enter Tryd.func28, Tryd.ntmps28
  unfold inR
  by_cases h1 : a ≤ n
  · by_cases h2 : n ≤ b
    · go_wp2
      go_ret
      exact ⟨rb (by simp [h1, h2]), rfl⟩
    · go_wp2
      go_ret
      exact ⟨rb (by simp [h1, h2]), rfl⟩
  · go_wp2
    go_ret
    exact ⟨rb (by simp; omega), rfl⟩

theorem implWrapM (n : Int) (w : World) :
    Calls Tryd.prog 30 #[.int .i64 n] w fun e w' => e = .returned (.int .i64 (wr n)) ∧ w' = w := by
  go_enter Tryd.func30, Tryd.ntmps30
  go_wp2
  go_ret
  exact ⟨rfl, rfl⟩

theorem specWrapM (n : Int) (w : World) :
    Calls Tryd.prog 32 #[.int .i64 n] w fun e w' => e = .returned (.int .i64 (wr n)) ∧ w' = w := by
  go_enter Tryd.func32, Tryd.ntmps32
  go_wp2
  go_ret
  exact ⟨rfl, rfl⟩

theorem fits32M (n : Int) (w : World) :
    Calls Tryd.prog 20 #[.int .i64 n] w fun e w' => e = .returned (.bool (n == wr n)) ∧ w' = w := by
  go_enter Tryd.func20, Tryd.ntmps20
  go_wp2_with fail
  refine (implWrapM n _).mono ?_
  rintro e w1 ⟨rfl, rfl⟩
  go_wp2
  go_ret
  exact ⟨rfl, rfl⟩

theorem isRegM (n : Int) (w : World) :
    Calls Tryd.prog 29 #[.int .i64 n] w fun e w' => e = .returned (.bool (regB n)) ∧ w' = w := by
  go_enter Tryd.func29, Tryd.ntmps29
  go_wp2_with fail
  refine (inRangeM n 0 7 _).mono ?_
  rintro e w1 ⟨rfl, rfl⟩
  go_wp2
  go_ret
  exact ⟨rfl, rfl⟩

theorem hasOpM (xo xa xb xc xn xm : Int) (w : World) (h : Ops w) :
    Calls Tryd.prog 18 #[.agg #[.int .i64 xo, .int .i64 xa, .int .i64 xb, .int .i64 xc, .int .i64 xn, .int .i64 xm]] w fun e w' => e = .returned (.bool (inR xo 1 22)) ∧ w' = w.alloc (.cells #[.int .i64 xo, .int .i64 xa, .int .i64 xb, .int .i64 xc, .int .i64 xn, .int .i64 xm] 26) := by
  by_cases h1 : 0 ≤ xo ∧ xo ≤ 22
  · obtain ⟨h1, h2⟩ := h1
    obtain ⟨k, rfl⟩ := Int.eq_ofNat_of_zero_le h1
    have hk : k ≤ 22 := by omega
    have hc : (w.alloc (.cells #[.int .i64 (k : Int), .int .i64 xa, .int .i64 xb, .int .i64 xc, .int .i64 xn, .int .i64 xm] 26)).cell? ⟨0, k * 4, none⟩ = some (.bool (decide (1 ≤ k))) := (h.below ((Below.refl _ _).alloc (Nat.le_refl _) _)) k hk
    have hi : inR k 0 22 = true := by simp [inR]; omega
    go_enter Tryd.func18, Tryd.ntmps18
    go_wp2_with fail
    refine (inRangeM _ _ _ _).mono ?_
    rintro e w1 ⟨rfl, rfl⟩
    rw [hi]
    go_wp2
    go_ret
    exact ⟨rb (by rw [Bool.eq_iff_iff]; simp [inR]; omega), rfl⟩
  · have hi : inR xo 0 22 = false := by simp [inR]; omega
    go_enter Tryd.func18, Tryd.ntmps18
    go_wp2_with fail
    refine (inRangeM _ _ _ _).mono ?_
    rintro e w1 ⟨rfl, rfl⟩
    rw [hi]
    go_wp2
    go_ret
    exact ⟨rb (by simp [inR]; omega), rfl⟩

theorem hasRegsM (xo xa xb xc xn xm : Int) (w : World) :
    Calls Tryd.prog 19 #[.agg #[.int .i64 xo, .int .i64 xa, .int .i64 xb, .int .i64 xc, .int .i64 xn, .int .i64 xm]] w fun e w' => e = .returned (.bool (regB xa && (regB xb && regB xc))) ∧ w' = w.alloc (.cells #[.int .i64 xo, .int .i64 xa, .int .i64 xb, .int .i64 xc, .int .i64 xn, .int .i64 xm] 26) := by
  have H1 := isRegM xa
  have H2 := isRegM xb
  have H3 := isRegM xc
  generalize regB xa = b1 at *
  generalize regB xb = b2 at *
  generalize regB xc = b3 at *
  go_enter Tryd.func19, Tryd.ntmps19
  go_wp2_with fail
  refine (H1 _).mono ?_
  rintro e w1 ⟨rfl, rfl⟩
  cases b1
  · go_wp2
    go_ret
    exact ⟨rb (by simp), rfl⟩
  · go_wp2_with fail
    refine (H2 _).mono ?_
    rintro e w1 ⟨rfl, rfl⟩
    cases b2
    · go_wp2
      go_ret
      exact ⟨rb (by simp), rfl⟩
    · go_wp2_with fail
      refine (H3 _).mono ?_
      rintro e w1 ⟨rfl, rfl⟩
      go_wp2
      go_ret
      exact ⟨rb (by simp), rfl⟩

theorem ins_facts (xo xa xb xc xn xm : Int) {w : World} {g : Nat} {t : TypeId} (h : w.heap[g]? = some (.cells #[.int .i64 xo, .int .i64 xa, .int .i64 xb, .int .i64 xc, .int .i64 xn, .int .i64 xm] t (0, 0))) :
    w.cell? ⟨g, 0, none⟩ = some (.int .i64 xo) ∧ w.cell? ⟨g, 1, none⟩ = some (.int .i64 xa) ∧ w.cell? ⟨g, 2, none⟩ = some (.int .i64 xb) ∧ w.cell? ⟨g, 3, none⟩ = some (.int .i64 xc) ∧ w.cell? ⟨g, 4, none⟩ = some (.int .i64 xn) ∧ w.cell? ⟨g, 5, none⟩ = some (.int .i64 xm) := by
  refine ⟨?_, ?_, ?_, ?_, ?_, ?_⟩
  all_goals (rw [cell_of_row w g _ _ _ (0, 0) h]; rfl)

theorem heap_new (w : World) (c : Array Value) (t : TypeId) : (w.alloc (.cells c t)).heap[w.heap.size]? = some (.cells c t (0, 0)) := heap_alloc_new w _

end Go.Proofs.YtcidckmocmdijaaDoor

/- Arithmetic of 32 bits: the small functions of chapter 4 and Arith itself, each with what it returns. -/
import Derived.Test.YtjbmgmiehmofoaaRows
import Derived.WalkKit
import Derived.ProofKit
namespace Go.Proofs.Ytjbmgmiehmofoaa
open Go.RowKit
set_option linter.unusedVariables false
set_option linter.unusedSimpArgs false

def wr (n : Int) : Int := wrap64 (wrap32 n)

theorem arWrapM (n : Int) (w : World) :
    Calls Try.prog 7 #[.int .i64 n] w fun e w' => e = .returned (.int .i64 (wr n)) ∧ w' = w := by
  go_enter Try.func7, Try.ntmps7
  go_wp2
  go_ret
  exact ⟨rfl, rfl⟩

theorem arSpecWrapM (n : Int) (w : World) :
    Calls Try.prog 14 #[.int .i64 n] w fun e w' => e = .returned (.int .i64 (wr n)) ∧ w' = w := by
  go_enter Try.func14, Try.ntmps14
  go_wp2
  go_ret
  exact ⟨rfl, rfl⟩

def tr (b : Bool) : Int := bif b then 1 else 0

theorem truthM (b : Bool) (w : World) :
    Calls Try.prog 13 #[.bool b] w fun e w' => e = .returned (.int .i64 (tr b)) ∧ w' = w := by
  cases b
  · go_enter Try.func13, Try.ntmps13
    go_wp2
    go_ret
    exact ⟨rfl, rfl⟩
  · go_enter Try.func13, Try.ntmps13
    go_wp2
    go_ret
    exact ⟨rfl, rfl⟩

theorem specTruthM (b : Bool) (w : World) :
    Calls Try.prog 15 #[.bool b] w fun e w' => e = .returned (.int .i64 (tr b)) ∧ w' = w := by
  cases b
  · go_enter Try.func15, Try.ntmps15
    go_wp2
    go_ret
    exact ⟨rfl, rfl⟩
  · go_enter Try.func15, Try.ntmps15
    go_wp2
    go_ret
    exact ⟨rfl, rfl⟩

theorem quotientM (a b : Int) (w : World) :
    Calls Try.prog 12 #[.int .i64 a, .int .i64 b] w fun e w' => e = .returned (.tuple #[.int .i64 (if b = 0 then 0 else wr (wrap64 (Int.tdiv a b))), .int .i64 (if b = 0 then 6 else 0)]) ∧ w' = w := by
  by_cases h : b = 0
  · rw [if_pos h, if_pos h]
    go_enter Try.func12, Try.ntmps12
    go_wp2
    go_ret2
    exact ⟨rfl, rfl⟩
  · rw [if_neg h, if_neg h]
    go_enter Try.func12, Try.ntmps12
    go_wp2_with fail
    refine (arWrapM _ _).mono ?_
    rintro e w1 ⟨rfl, rfl⟩
    go_wp2
    go_ret2
    exact ⟨rfl, rfl⟩

def arV (o a b : Int) : Int := if o = 0 then wr (wrap64 (a + b)) else if o = 1 then wr (wrap64 (a - b)) else if o = 2 then wr (wrap64 (a * b)) else if o = 3 then (if b = 0 then 0 else wr (wrap64 (Int.tdiv a b))) else if o = 4 then tr (decide (a < b)) else if o = 5 then tr (a == b) else 0
def arT (o b : Int) : Int := if o = 0 then 0 else if o = 1 then 0 else if o = 2 then 0 else if o = 3 then (if b = 0 then 6 else 0) else if o = 4 then 0 else if o = 5 then 0 else 4

set_option maxRecDepth 100000 in
theorem arithM (o a b : Int) (w : World) :
    Calls Try.prog 6 #[.int .i64 o, .int .i64 a, .int .i64 b] w fun e w' => e = .returned (.tuple #[.int .i64 (arV o (wr a) (wr b)), .int .i64 (arT o (wr b))]) ∧ w' = w := by
  by_cases h0 : o = 0
  · subst h0
    simp only [arV, arT, Int.reduceEq, if_true, if_false]
    go_enter Try.func6, Try.ntmps6
    go_wp2_with fail
    refine (arWrapM _ _).mono ?_
    rintro e w1 ⟨rfl, rfl⟩
    go_wp2_with fail
    refine (arWrapM _ _).mono ?_
    rintro e w1 ⟨rfl, rfl⟩
    go_wp2_with fail
    refine (arWrapM _ _).mono ?_
    rintro e w1 ⟨rfl, rfl⟩
    go_wp2
    go_ret2
    exact ⟨rfl, rfl⟩
  · by_cases h1 : o = 1
    · subst h1
      simp only [arV, arT, Int.reduceEq, if_true, if_false]
      go_enter Try.func6, Try.ntmps6
      go_wp2_with fail
      refine (arWrapM _ _).mono ?_
      rintro e w1 ⟨rfl, rfl⟩
      go_wp2_with fail
      refine (arWrapM _ _).mono ?_
      rintro e w1 ⟨rfl, rfl⟩
      go_wp2_with fail
      refine (arWrapM _ _).mono ?_
      rintro e w1 ⟨rfl, rfl⟩
      go_wp2
      go_ret2
      exact ⟨rfl, rfl⟩
    · by_cases h2 : o = 2
      · subst h2
        simp only [arV, arT, Int.reduceEq, if_true, if_false]
        go_enter Try.func6, Try.ntmps6
        go_wp2_with fail
        refine (arWrapM _ _).mono ?_
        rintro e w1 ⟨rfl, rfl⟩
        go_wp2_with fail
        refine (arWrapM _ _).mono ?_
        rintro e w1 ⟨rfl, rfl⟩
        go_wp2_with fail
        refine (arWrapM _ _).mono ?_
        rintro e w1 ⟨rfl, rfl⟩
        go_wp2
        go_ret2
        exact ⟨rfl, rfl⟩
      · by_cases h3 : o = 3
        · subst h3
          simp only [arV, arT, Int.reduceEq, if_true, if_false]
          by_cases hb : wr b = 0
          · simp only [hb, if_true]
            go_enter Try.func6, Try.ntmps6
            go_wp2_with fail
            refine (arWrapM _ _).mono ?_
            rintro e w1 ⟨rfl, rfl⟩
            go_wp2_with fail
            refine (arWrapM _ _).mono ?_
            rintro e w1 ⟨rfl, rfl⟩
            go_wp2_with fail
            refine (quotientM _ _ _).mono ?_
            simp only [hb, if_true]
            rintro e w1 ⟨rfl, rfl⟩
            go_wp2
            go_ret2
            exact ⟨rfl, rfl⟩
          · simp only [hb, if_false]
            go_enter Try.func6, Try.ntmps6
            go_wp2_with fail
            refine (arWrapM _ _).mono ?_
            rintro e w1 ⟨rfl, rfl⟩
            go_wp2_with fail
            refine (arWrapM _ _).mono ?_
            rintro e w1 ⟨rfl, rfl⟩
            go_wp2_with fail
            refine (quotientM _ _ _).mono ?_
            simp only [hb, if_false]
            rintro e w1 ⟨rfl, rfl⟩
            go_wp2
            go_ret2
            exact ⟨rfl, rfl⟩
        · by_cases h4 : o = 4
          · subst h4
            simp only [arV, arT, Int.reduceEq, if_true, if_false]
            go_enter Try.func6, Try.ntmps6
            go_wp2_with fail
            refine (arWrapM _ _).mono ?_
            rintro e w1 ⟨rfl, rfl⟩
            go_wp2_with fail
            refine (arWrapM _ _).mono ?_
            rintro e w1 ⟨rfl, rfl⟩
            go_wp2_with fail
            refine (truthM _ _).mono ?_
            rintro e w1 ⟨rfl, rfl⟩
            go_wp2
            go_ret2
            exact ⟨rfl, rfl⟩
          · by_cases h5 : o = 5
            · subst h5
              simp only [arV, arT, Int.reduceEq, if_true, if_false]
              go_enter Try.func6, Try.ntmps6
              go_wp2_with fail
              refine (arWrapM _ _).mono ?_
              rintro e w1 ⟨rfl, rfl⟩
              go_wp2_with fail
              refine (arWrapM _ _).mono ?_
              rintro e w1 ⟨rfl, rfl⟩
              go_wp2_with fail
              refine (truthM _ _).mono ?_
              rintro e w1 ⟨rfl, rfl⟩
              go_wp2
              go_ret2
              exact ⟨rfl, rfl⟩
            · simp only [arV, arT, h0, h1, h2, h3, h4, h5, if_false]
              go_enter Try.func6, Try.ntmps6
              go_wp2_with fail
              refine (arWrapM _ _).mono ?_
              rintro e w1 ⟨rfl, rfl⟩
              go_wp2_with fail
              refine (arWrapM _ _).mono ?_
              rintro e w1 ⟨rfl, rfl⟩
              go_wp2
              go_ret2
              exact ⟨rfl, rfl⟩

set_option maxRecDepth 100000 in
theorem specArithM (o a b : Int) (w : World) :
    Calls Try.prog 8 #[.int .i64 o, .int .i64 a, .int .i64 b] w fun e w' => e = .returned (.tuple #[.int .i64 (arV o (wr a) (wr b)), .int .i64 (arT o (wr b))]) ∧ w' = w := by
  by_cases h0 : o = 0
  · subst h0
    simp only [arV, arT, Int.reduceEq, if_true, if_false]
    go_enter Try.func8, Try.ntmps8
    go_wp2_with fail
    refine (arSpecWrapM _ _).mono ?_
    rintro e w1 ⟨rfl, rfl⟩
    go_wp2_with fail
    refine (arSpecWrapM _ _).mono ?_
    rintro e w1 ⟨rfl, rfl⟩
    go_wp2_with fail
    refine (arSpecWrapM _ _).mono ?_
    rintro e w1 ⟨rfl, rfl⟩
    go_wp2
    go_ret2
    exact ⟨rfl, rfl⟩
  · by_cases h1 : o = 1
    · subst h1
      simp only [arV, arT, Int.reduceEq, if_true, if_false]
      go_enter Try.func8, Try.ntmps8
      go_wp2_with fail
      refine (arSpecWrapM _ _).mono ?_
      rintro e w1 ⟨rfl, rfl⟩
      go_wp2_with fail
      refine (arSpecWrapM _ _).mono ?_
      rintro e w1 ⟨rfl, rfl⟩
      go_wp2_with fail
      refine (arSpecWrapM _ _).mono ?_
      rintro e w1 ⟨rfl, rfl⟩
      go_wp2
      go_ret2
      exact ⟨rfl, rfl⟩
    · by_cases h2 : o = 2
      · subst h2
        simp only [arV, arT, Int.reduceEq, if_true, if_false]
        go_enter Try.func8, Try.ntmps8
        go_wp2_with fail
        refine (arSpecWrapM _ _).mono ?_
        rintro e w1 ⟨rfl, rfl⟩
        go_wp2_with fail
        refine (arSpecWrapM _ _).mono ?_
        rintro e w1 ⟨rfl, rfl⟩
        go_wp2_with fail
        refine (arSpecWrapM _ _).mono ?_
        rintro e w1 ⟨rfl, rfl⟩
        go_wp2
        go_ret2
        exact ⟨rfl, rfl⟩
      · by_cases h3 : o = 3
        · subst h3
          simp only [arV, arT, Int.reduceEq, if_true, if_false]
          by_cases hb : wr b = 0
          · simp only [hb, if_true]
            go_enter Try.func8, Try.ntmps8
            go_wp2_with fail
            refine (arSpecWrapM _ _).mono ?_
            rintro e w1 ⟨rfl, rfl⟩
            go_wp2_with fail
            refine (arSpecWrapM _ _).mono ?_
            rintro e w1 ⟨rfl, rfl⟩
            go_wp2
            go_ret2
            exact ⟨rfl, rfl⟩
          · simp only [hb, if_false]
            go_enter Try.func8, Try.ntmps8
            go_wp2_with fail
            refine (arSpecWrapM _ _).mono ?_
            rintro e w1 ⟨rfl, rfl⟩
            go_wp2_with fail
            refine (arSpecWrapM _ _).mono ?_
            rintro e w1 ⟨rfl, rfl⟩
            go_wp2_with fail
            refine (arSpecWrapM _ _).mono ?_
            rintro e w1 ⟨rfl, rfl⟩
            go_wp2
            go_ret2
            exact ⟨rfl, rfl⟩
        · by_cases h4 : o = 4
          · subst h4
            simp only [arV, arT, Int.reduceEq, if_true, if_false]
            go_enter Try.func8, Try.ntmps8
            go_wp2_with fail
            refine (arSpecWrapM _ _).mono ?_
            rintro e w1 ⟨rfl, rfl⟩
            go_wp2_with fail
            refine (arSpecWrapM _ _).mono ?_
            rintro e w1 ⟨rfl, rfl⟩
            go_wp2_with fail
            refine (specTruthM _ _).mono ?_
            rintro e w1 ⟨rfl, rfl⟩
            go_wp2
            go_ret2
            exact ⟨rfl, rfl⟩
          · by_cases h5 : o = 5
            · subst h5
              simp only [arV, arT, Int.reduceEq, if_true, if_false]
              go_enter Try.func8, Try.ntmps8
              go_wp2_with fail
              refine (arSpecWrapM _ _).mono ?_
              rintro e w1 ⟨rfl, rfl⟩
              go_wp2_with fail
              refine (arSpecWrapM _ _).mono ?_
              rintro e w1 ⟨rfl, rfl⟩
              go_wp2_with fail
              refine (specTruthM _ _).mono ?_
              rintro e w1 ⟨rfl, rfl⟩
              go_wp2
              go_ret2
              exact ⟨rfl, rfl⟩
            · simp only [arV, arT, h0, h1, h2, h3, h4, h5, if_false]
              go_enter Try.func8, Try.ntmps8
              go_wp2_with fail
              refine (arSpecWrapM _ _).mono ?_
              rintro e w1 ⟨rfl, rfl⟩
              go_wp2_with fail
              refine (arSpecWrapM _ _).mono ?_
              rintro e w1 ⟨rfl, rfl⟩
              go_wp2
              go_ret2
              exact ⟨rfl, rfl⟩
end Go.Proofs.Ytjbmgmiehmofoaa

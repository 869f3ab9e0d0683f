/- The law of Store returns true at every memory, words and int, and writes nothing that was there. -/
import Derived.Test.YtchchigiafacbaaDoorStoreYes
import Derived.Test.YtchchigiafacbaaDoorStoreNo
import Derived.Deep.Cut
import Derived.Deep.CutRange
namespace Go.Proofs.YtchchigiafacbaaDoor
open Go.RowKit
set_option linter.unusedVariables false
set_option linter.unusedSimpArgs false

set_option maxRecDepth 100000 in
set_option maxHeartbeats 4000000 in
theorem store_walk (w : World) (p t b : Addr) (hs : Sents w p t b) (a : Option Addr) (n c : Nat) (l : List Wd) (hnc : n ≤ c) (hcm : c ≤ maxLen) (h : WRow w a n l) (hf : ∀ x ∈ l, FitsW x) (xt : Bool) (xn xl xh xa xp xs : Int) (hx : FitsW ⟨xt, xn, xl, xh, xa, xp, xs⟩) {Q1 : Prop} (by_ : Int) (_ : Q1) (yt : Bool) (yn yl yh ya yp ys : Int) (hy : FitsW ⟨yt, yn, yl, yh, ya, yp, ys⟩) :
    Calls Tryd.prog 6 #[.agg #[.slice a n c], .agg #[.bool xt, .int .i64 xn, .int .i64 xl, .int .i64 xh, .int .i64 xa, .int .i64 xp, .int .i64 xs], .int .i64 by_, .agg #[.bool yt, .int .i64 yn, .int .i64 yl, .int .i64 yh, .int .i64 ya, .int .i64 yp, .int .i64 ys]] w fun e w' => e = .returned (.bool true) ∧ Below w.heap.size w w' := by
  by_cases hn : n ≤ 1048576
  · cases hc : (memB l && (okB xt xn xl xh xa xp xs && okB yt yn yl yh ya yp ys))
    · exact store_no w p t b hs a n c l h hf xt xn xl xh xa xp xs (in64W hx.2.2.2.2.2) by_ yt yn yl yh ya yp ys (in64W hy.2.2.2.2.2) hc hn
    · simp only [Bool.and_eq_true] at hc
      exact store_yes w p t b hs a n c l h hf xt xn xl xh xa xp xs (in64W hx.2.2.2.2.2) by_ yt yn yl yh ya yp ys (in64W hy.2.2.2.2.2) hc.1 hc.2.1 hc.2.2 hn
  · have hn0 : n ≤ 9223372036854775807 := by unfold maxLen at hcm; omega
    have Hsz := fun w => szM a n c 1048576 w rfl hn0
    simp only [if_neg hn] at Hsz
    clear h hf hcm hnc hs hx hy
    go_enter Tryd.func6, Tryd.ntmps6
    go_wp2_with fail
    refine (Hsz _).mono ?_
    rintro e w1 ⟨rfl, o1, rfl⟩
    clear Hsz
    go_wp2_with fail
    go_ret
    exact ⟨rfl, ((((Below.refl _ _).alloc (Nat.le_refl _) _).alloc (by simp) _).alloc (by simp; omega) _).alloc (by simp; omega) _⟩
end Go.Proofs.YtchchigiafacbaaDoor

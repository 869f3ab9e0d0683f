/- bytes.HasPrefix: whether bytes begin with these two. -/
import Derived.Test.YthfknedokkccaaaReadPure
import Derived.Test.YthfknedokkccaaaBytesEq
namespace Go.Proofs.Ythfknedokkccaaa
open Go.RowKit
set_option linter.unusedVariables false
set_option linter.unusedSimpArgs false
set_option maxRecDepth 100000

theorem BRow.first {w : World} {a : Option Addr} {n m : Nat} {l : List Int} (h : BRow w a n l) (hm : m ≤ n) : BRow w a m (l.take m) := by
  refine ⟨by rw [List.length_take, h.1]; omega, fun x hx => h.2.1 x (List.mem_of_mem_take hx), fun h0 => ?_⟩
  obtain ⟨b, off, e, hc⟩ := h.2.2 (by omega)
  exact ⟨b, off, e, fun i hi => by rw [hc i (by omega)]; simp [hi]⟩

set_option maxHeartbeats 2000000 in
theorem hasPrefixM (a : Option Addr) (n c : Nat) (l : List Int) (a2 : Option Addr) (c2 : Nat) (w : World) (h : BRow w a n l) (hnc : n ≤ c) (hcm : c ≤ maxLen) (h2 : BRow w a2 2 [66, 72]) :
    Calls Try.prog 15 #[.slice a n c, .slice a2 2 c2] w fun e w' => e = .returned (.bool (startsL l)) ∧ w' = w := by
  unfold maxLen at hcm
  by_cases hlt : n < 2
  · have HS : Hid (startsL l = false) := by
      show _ = _
      unfold startsL
      rw [decide_eq_false]
      intro e
      have := congrArg List.length e
      simp [h.1] at this
      omega
    clear h h2
    go_enter Try.func15, Try.ntmps15
    go_wp2_with fail
    go_ret
    exact ⟨ret_bool HS.out.symm, rfl⟩
  · have H1 := fun c1 => bytesEqualM a 2 c1 (l.take 2) a2 2 c2 [66, 72] w (h.first (by omega)) h2
    obtain ⟨b, off, rfl, _⟩ := h.2.2 (by omega)
    have HS : Hid (decide (l.take 2 = [66, 72]) = startsL l) := by show _ = _; rfl
    clear h h2
    generalize decide (l.take 2 = [66, 72]) = q at *
    have hge : (2 : Int) ≤ (n : Int) := by omega
    go_enter Try.func15, Try.ntmps15
    go_wp2_with fail
    refine (H1 _).mono ?_
    rintro e w1 ⟨rfl, rfl⟩
    go_wp2_with fail
    go_ret
    exact ⟨ret_bool HS.out, rfl⟩
end Go.Proofs.Ythfknedokkccaaa

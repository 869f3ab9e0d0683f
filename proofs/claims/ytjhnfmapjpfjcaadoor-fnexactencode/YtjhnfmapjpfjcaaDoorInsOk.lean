/- What may be an instruction: InsOk, built and model. -/
import Derived.Test.YtjhnfmapjpfjcaaDoorIns
namespace Go.Proofs.YtjhnfmapjpfjcaaDoor
open Go.RowKit
set_option linter.unusedVariables false
set_option linter.unusedSimpArgs false
set_option maxRecDepth 100000

set_option maxHeartbeats 2000000 in
theorem implInsOkM (xo xa xb xc xn xm : Int) (w : World) (h : Ops w) :
    Calls Tryd.prog 8 #[.agg #[.int .i64 xo, .int .i64 xa, .int .i64 xb, .int .i64 xc, .int .i64 xn, .int .i64 xm]] w fun e w' => e = .returned (.bool (insB xo xa xb xc xn xm)) ∧ Below w.heap.size w w' := by
  have hO := h.below ((Below.refl _ _).alloc (Nat.le_refl _) (.cells #[.int .i64 xo, .int .i64 xa, .int .i64 xb, .int .i64 xc, .int .i64 xn, .int .i64 xm] 25))
  have hx := heap_new w #[.int .i64 xo, .int .i64 xa, .int .i64 xb, .int .i64 xc, .int .i64 xn, .int .i64 xm] 25
  have hB : Below w.heap.size w (w.alloc (.cells #[.int .i64 xo, .int .i64 xa, .int .i64 xb, .int .i64 xc, .int .i64 xn, .int .i64 xm] 25)) := (Below.refl _ _).alloc (Nat.le_refl _) _
  have hR : insB xo xa xb xc xn xm = (inR xo 1 22 && ((regB xa && (regB xb && regB xc)) && ((xn == wr xn) && (xm == wr xm)))) := by simp [insB, Bool.and_assoc]
  rw [hR]
  clear hR
  have H1 := fun w h => hasOpM xo xa xb xc xn xm w h
  have H2 := hasRegsM xo xa xb xc xn xm
  have H3 := fits32M xn
  have H4 := fits32M xm
  generalize inR xo 1 22 = b1 at *
  generalize (regB xa && (regB xb && regB xc)) = b2 at *
  generalize (xn == wr xn) = b3 at *
  generalize (xm == wr xm) = b4 at *
  go_enter Tryd.func8, Tryd.ntmps8
  go_upto_region 1 with fail
  generalize w.alloc (.cells #[.int .i64 xo, .int .i64 xa, .int .i64 xb, .int .i64 xc, .int .i64 xn, .int .i64 xm] 25) = w1 at *
  obtain ⟨f0, f1, f2, f3, f4, f5⟩ := ins_facts xo xa xb xc xn xm hx
  have HX : Hid _ := hx
  have HB : Hid _ := hB
  have HO : Hid (Ops w1) := hO
  clear hx hB hO h
  go_wp2_with fail
  refine (H1 _ HO.out).mono ?_
  rintro e w2 ⟨rfl, rfl⟩
  have hB2 : Below w.heap.size w (w1.alloc (.cells #[.int .i64 xo, .int .i64 xa, .int .i64 xb, .int .i64 xc, .int .i64 xn, .int .i64 xm] 25)) := HB.out.alloc HB.out.size _
  have hx2 : (w1.alloc (.cells #[.int .i64 xo, .int .i64 xa, .int .i64 xb, .int .i64 xc, .int .i64 xn, .int .i64 xm] 25)).heap[w.heap.size]? = _ := (((Below.refl w1.heap.size w1).alloc (Nat.le_refl _) _).block _ (Array.getElem?_eq_some_iff.1 HX.out).1).trans HX.out
  clear f0 f1 f2 f3 f4 f5 HO HX HB H1
  generalize w1.alloc (.cells #[.int .i64 xo, .int .i64 xa, .int .i64 xb, .int .i64 xc, .int .i64 xn, .int .i64 xm] 25) = w2 at *
  obtain ⟨f0, f1, f2, f3, f4, f5⟩ := ins_facts xo xa xb xc xn xm hx2
  have HX : Hid _ := hx2
  have HB : Hid _ := hB2
  clear hx2 hB2
  cases b1
  · go_wp2
    go_ret
    exact ⟨rb (by simp), HB.out⟩
  · go_wp2_with fail
    refine (H2 _).mono ?_
    rintro e w3 ⟨rfl, rfl⟩
    have hB3 : Below w.heap.size w (w2.alloc (.cells #[.int .i64 xo, .int .i64 xa, .int .i64 xb, .int .i64 xc, .int .i64 xn, .int .i64 xm] 25)) := HB.out.alloc HB.out.size _
    have hx3 : (w2.alloc (.cells #[.int .i64 xo, .int .i64 xa, .int .i64 xb, .int .i64 xc, .int .i64 xn, .int .i64 xm] 25)).heap[w.heap.size]? = _ := (((Below.refl w2.heap.size w2).alloc (Nat.le_refl _) _).block _ (Array.getElem?_eq_some_iff.1 HX.out).1).trans HX.out
    clear f0 f1 f2 f3 f4 f5 HX HB H2
    generalize w2.alloc (.cells #[.int .i64 xo, .int .i64 xa, .int .i64 xb, .int .i64 xc, .int .i64 xn, .int .i64 xm] 25) = w3 at *
    obtain ⟨f0, f1, f2, f3, f4, f5⟩ := ins_facts xo xa xb xc xn xm hx3
    have HB : Hid _ := hB3
    clear hx3 hB3
    cases b2
    · go_wp2
      go_ret
      exact ⟨rb (by simp), HB.out⟩
    · go_wp2_with fail
      refine (H3 _).mono ?_
      rintro e w4 ⟨rfl, rfl⟩
      cases b3
      · go_wp2
        go_ret
        exact ⟨rb (by simp), HB.out⟩
      · go_wp2_with fail
        refine (H4 _).mono ?_
        rintro e w4 ⟨rfl, rfl⟩
        go_wp2
        go_ret
        exact ⟨rb (by simp), HB.out⟩

set_option maxHeartbeats 4000000 in
theorem specInsOkM (xo xa xb xc xn xm : Int) (w : World) :
    Calls Tryd.prog 6 #[.agg #[.int .i64 xo, .int .i64 xa, .int .i64 xb, .int .i64 xc, .int .i64 xn, .int .i64 xm]] w fun e w' => e = .returned (.bool (insB xo xa xb xc xn xm)) ∧ ∃ o d, w' = (w.alloc o).drewN d := by
  unfold insB
  have H1 := specRegM xa
  have H2 := specRegM xb
  have H3 := specRegM xc
  have H4 := specWrapM xn
  have H5 := specWrapM xm
  generalize regB xa = b1 at *
  generalize regB xb = b2 at *
  generalize regB xc = b3 at *
  generalize wr xn = n' at *
  generalize wr xm = m' at *
  by_cases h1 : 1 ≤ xo ∧ xo ≤ 22
  · have hi : inR xo 1 22 = true := by simp [inR, h1.1, h1.2]
    rw [hi]
    obtain ⟨h1, h2⟩ := h1
    clear hi
    cases b1
    · go_enter Tryd.func6, Tryd.ntmps6
      go_wp2_with fail
      go_quiet ((go_at_call 22; with_reducible exact Calls.quiet_of_same (H1 _)))
      go_wp2_with fail
      go_ret
      exact ⟨rb (by simp), _, _, rfl⟩
    · cases b2
      · go_enter Tryd.func6, Tryd.ntmps6
        go_wp2_with fail
        go_quiet ((go_at_call 22; first | with_reducible exact Calls.quiet_of_same (H1 _) | with_reducible exact Calls.quiet_of_same (H2 _)))
        go_wp2_with fail
        go_ret
        exact ⟨rb (by simp), _, _, rfl⟩
      · cases b3
        · go_enter Tryd.func6, Tryd.ntmps6
          go_wp2_with fail
          go_quiet ((go_at_call 22; first | with_reducible exact Calls.quiet_of_same (H1 _) | with_reducible exact Calls.quiet_of_same (H2 _) | with_reducible exact Calls.quiet_of_same (H3 _)))
          go_wp2_with fail
          go_ret
          exact ⟨rb (by simp), _, _, rfl⟩
        · by_cases h3 : xn = n'
          · subst h3
            go_enter Tryd.func6, Tryd.ntmps6
            go_wp2_with fail
            go_quiet (first | (go_at_call 22; first | with_reducible exact Calls.quiet_of_same (H1 _) | with_reducible exact Calls.quiet_of_same (H2 _) | with_reducible exact Calls.quiet_of_same (H3 _)) | (go_at_call 23; first | with_reducible exact Calls.quiet_of_same (H4 _) | with_reducible exact Calls.quiet_of_same (H5 _)))
            go_wp2_with fail
            go_ret
            exact ⟨rb (by simp), _, _, rfl⟩
          · go_enter Tryd.func6, Tryd.ntmps6
            go_wp2_with fail
            go_quiet (first | (go_at_call 22; first | with_reducible exact Calls.quiet_of_same (H1 _) | with_reducible exact Calls.quiet_of_same (H2 _) | with_reducible exact Calls.quiet_of_same (H3 _)) | (go_at_call 23; first | with_reducible exact Calls.quiet_of_same (H4 _) | with_reducible exact Calls.quiet_of_same (H5 _)))
            go_wp2_with fail
            go_ret
            exact ⟨rb (by simp [h3]), _, _, rfl⟩
  · have hi : inR xo 1 22 = false := by simp [inR]; omega
    rw [hi]
    clear hi
    by_cases h2 : 1 ≤ xo
    · have hd : decide (xo ≤ 22) = false := by simp; omega
      clear h1
      go_enter Tryd.func6, Tryd.ntmps6
      go_wp2_with fail
      go_quiet (fail)
      go_wp2_with fail
      go_ret
      exact ⟨rb (by simp), _, _, rfl⟩
    · have hd : decide (1 ≤ xo) = false := by simp; omega
      clear h1 h2
      go_enter Tryd.func6, Tryd.ntmps6
      go_wp2_with fail
      go_quiet (fail)
      go_wp2_with fail
      go_ret
      exact ⟨rb (by simp), _, _, rfl⟩
end Go.Proofs.YtjhnfmapjpfjcaaDoor

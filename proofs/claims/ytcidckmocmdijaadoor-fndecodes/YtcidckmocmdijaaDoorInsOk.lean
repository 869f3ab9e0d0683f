/- What may be an instruction: InsOk, built and model. -/
import Derived.Test.YtcidckmocmdijaaDoorIns
namespace Go.Proofs.YtcidckmocmdijaaDoor
open Go.RowKit
set_option linter.unusedVariables false
set_option linter.unusedSimpArgs false
set_option maxRecDepth 100000

set_option maxHeartbeats 2000000 in
theorem implInsOkM (xo xa xb xc xn xm : Int) (w : World) (h : Ops w) :
    Calls Tryd.prog 7 #[.agg #[.int .i64 xo, .int .i64 xa, .int .i64 xb, .int .i64 xc, .int .i64 xn, .int .i64 xm]] w fun e w' => e = .returned (.bool (insB xo xa xb xc xn xm)) ∧ Below w.heap.size w w' := by
  have hO := h.below ((Below.refl _ _).alloc (Nat.le_refl _) (.cells #[.int .i64 xo, .int .i64 xa, .int .i64 xb, .int .i64 xc, .int .i64 xn, .int .i64 xm] 26))
  have hx := heap_new w #[.int .i64 xo, .int .i64 xa, .int .i64 xb, .int .i64 xc, .int .i64 xn, .int .i64 xm] 26
  have hB : Below w.heap.size w (w.alloc (.cells #[.int .i64 xo, .int .i64 xa, .int .i64 xb, .int .i64 xc, .int .i64 xn, .int .i64 xm] 26)) := (Below.refl _ _).alloc (Nat.le_refl _) _
  have hR : insB xo xa xb xc xn xm = (inR xo 1 22 && ((regB xa && (regB xb && regB xc)) && ((xn == wr xn) && (xm == wr xm)))) := by simp [insB, Bool.and_assoc]
  rw [hR]
  clear hR
  have H1 := fun w h => hasOpM xo xa xb xc xn xm w h
  have H2 := hasRegsM xo xa xb xc xn xm
  have H3 := fits32M xn
  have H4 := fits32M xm
  generalize inR xo 1 22 = b1 at *
  generalize (regB xa && (regB xb && regB xc)) = b2 at *
  generalize (xn == wr xn) = b3 at *
  generalize (xm == wr xm) = b4 at *
  go_enter Tryd.func7, Tryd.ntmps7
  go_upto_region 1 with fail
  generalize w.alloc (.cells #[.int .i64 xo, .int .i64 xa, .int .i64 xb, .int .i64 xc, .int .i64 xn, .int .i64 xm] 26) = w1 at *
  obtain ⟨f0, f1, f2, f3, f4, f5⟩ := ins_facts xo xa xb xc xn xm hx
  have HX : Hid _ := hx
  have HB : Hid _ := hB
  have HO : Hid (Ops w1) := hO
  clear hx hB hO h
  go_wp2_with fail
  refine (H1 _ HO.out).mono ?_
  rintro e w2 ⟨rfl, rfl⟩
  have hB2 : Below w.heap.size w (w1.alloc (.cells #[.int .i64 xo, .int .i64 xa, .int .i64 xb, .int .i64 xc, .int .i64 xn, .int .i64 xm] 26)) := HB.out.alloc HB.out.size _
  have hx2 : (w1.alloc (.cells #[.int .i64 xo, .int .i64 xa, .int .i64 xb, .int .i64 xc, .int .i64 xn, .int .i64 xm] 26)).heap[w.heap.size]? = _ := (((Below.refl w1.heap.size w1).alloc (Nat.le_refl _) _).block _ (Array.getElem?_eq_some_iff.1 HX.out).1).trans HX.out
  clear f0 f1 f2 f3 f4 f5 HO HX HB H1
  generalize w1.alloc (.cells #[.int .i64 xo, .int .i64 xa, .int .i64 xb, .int .i64 xc, .int .i64 xn, .int .i64 xm] 26) = w2 at *
  obtain ⟨f0, f1, f2, f3, f4, f5⟩ := ins_facts xo xa xb xc xn xm hx2
  have HX : Hid _ := hx2
  have HB : Hid _ := hB2
  clear hx2 hB2
  cases b1
  · go_wp2
    go_ret
    exact ⟨rb (by simp), HB.out⟩
  · go_wp2_with fail
    refine (H2 _).mono ?_
    rintro e w3 ⟨rfl, rfl⟩
    have hB3 : Below w.heap.size w (w2.alloc (.cells #[.int .i64 xo, .int .i64 xa, .int .i64 xb, .int .i64 xc, .int .i64 xn, .int .i64 xm] 26)) := HB.out.alloc HB.out.size _
    have hx3 : (w2.alloc (.cells #[.int .i64 xo, .int .i64 xa, .int .i64 xb, .int .i64 xc, .int .i64 xn, .int .i64 xm] 26)).heap[w.heap.size]? = _ := (((Below.refl w2.heap.size w2).alloc (Nat.le_refl _) _).block _ (Array.getElem?_eq_some_iff.1 HX.out).1).trans HX.out
    clear f0 f1 f2 f3 f4 f5 HX HB H2
    generalize w2.alloc (.cells #[.int .i64 xo, .int .i64 xa, .int .i64 xb, .int .i64 xc, .int .i64 xn, .int .i64 xm] 26) = w3 at *
    obtain ⟨f0, f1, f2, f3, f4, f5⟩ := ins_facts xo xa xb xc xn xm hx3
    have HB : Hid _ := hB3
    clear hx3 hB3
    cases b2
    · go_wp2
      go_ret
      exact ⟨rb (by simp), HB.out⟩
    · go_wp2_with fail
      refine (H3 _).mono ?_
      rintro e w4 ⟨rfl, rfl⟩
      cases b3
      · go_wp2
        go_ret
        exact ⟨rb (by simp), HB.out⟩
      · go_wp2_with fail
        refine (H4 _).mono ?_
        rintro e w4 ⟨rfl, rfl⟩
        go_wp2
        go_ret
        exact ⟨rb (by simp), HB.out⟩

end Go.Proofs.YtcidckmocmdijaaDoor

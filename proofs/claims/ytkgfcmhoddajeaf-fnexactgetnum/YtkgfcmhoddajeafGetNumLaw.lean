/- The law of GetNum returns true at every slice of bytes and every int, and writes nothing that was there. -/
import Derived.Test.YtkgfcmhoddajeafGetImpl
namespace Go.Proofs.Ytkgfcmhoddajeaf
open Go.RowKit

set_option maxRecDepth 100000 in
set_option maxHeartbeats 2000000 in
theorem getnum_walk (a0 : Option Addr) (len0 cap0 : Nat) (z0 : List Int) (a1 : Int) (w : World) (w0 : RowIn .u8 w a0 len0 cap0 z0) (w1 : (Lit.int .i64 a1).wf = true) :
    Calls Try.prog 5 #[.slice a0 len0 cap0, .int .i64 a1] w fun e w' => e = .returned (.bool true) ∧ Below w.heap.size w w' := by
  obtain ⟨hr, hlc, hm⟩ := w0.row
  have ha1 := (bounds_i64 w1).2
  unfold maxLen at hm
  clear w0 w1
  by_cases hbig : 1048576 < len0
  · clear hr
    go_enter Try.func5, Try.ntmps5
    go_wp2
    go_ret
    exact ⟨rfl, Below.refl _ _⟩
  · generalize z0.take len0 = l at hr
    have hsmall : len0 ≤ 1048576 := by omega
    go_enter Try.func5, Try.ntmps5
    go_wp2_with fail
    refine (copyM _ _ _ l _ hr hsmall).mono ?_
    rintro e w1 ⟨b1, c1, rfl, m1⟩
    have hB1 := m1.below
    go_wp2_with fail
    refine (specGetM _ _ _ l a1 _ m1.row (by omega) ha1).mono ?_
    rintro e w1' ⟨rfl, rfl⟩
    clear m1
    go_wp2_with fail
    refine (copyM _ _ _ l _ (hr.below hB1) hsmall).mono ?_
    rintro e w2 ⟨b2, c2, rfl, m2⟩
    have hB2 : Below w.heap.size w w2 := hB1.trans (m2.below.mono hB1.size)
    have r2 := m2.row
    have k2 := m2.cap
    have k3 := m2.most
    clear m2 hB1
    go_wp2_with fail
    refine (implGetM _ _ _ l a1 _ r2 (by omega) k2 k3).mono ?_
    rintro e w3 ⟨rfl, b3⟩
    replace r2 := r2.below b3
    have hB3 : Below w.heap.size w w3 := hB2.trans (b3.mono hB2.size)
    clear b3 hB2 k2 k3
    generalize (getL l a1).1 = x
    generalize (getL l a1).2 = y
    go_wp2_with fail
    refine (copyM _ _ _ l _ (hr.below hB3) hsmall).mono ?_
    rintro e w4 ⟨b4, c4, rfl, m4⟩
    replace r2 := r2.below m4.below
    have hB4 : Below w.heap.size w w4 := hB3.trans (m4.below.mono hB3.size)
    have r4 := m4.row
    clear m4 hB3
    go_wp2_with fail
    refine (eqT _ _ _ l _ _ _ _ r2 r4 (by omega)).mono ?_
    rintro e w5 ⟨rfl, q5⟩
    have hB5 : Below w.heap.size w w5 := hB4.trans (q5.mono hB4.size)
    clear q5 hB4 r2 r4
    go_wp2_with fail
    go_ret
    exact ⟨rfl, hB5⟩
end Go.Proofs.Ytkgfcmhoddajeaf

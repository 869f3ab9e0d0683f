/- One of the instructions that are often drawn. -/
import Derived.Test.YtnhebknckgffoaaDrawI
import Derived.Deep.Cut
namespace Go.Proofs.Ytnhebknckgffoaa
open Go.RowKit
set_option linter.unusedVariables false
set_option linter.unusedSimpArgs false
set_option maxRecDepth 100000

theorem IS.put {w wr : World} {gs g : Nat} (h : IS w gs wr g) (hgs : w.heap.size = gs) (hg : g < gs) (v0 v1 v2 v3 v4 v5 : Value) : Drawn w (put6 wr gs v0 v1 v2 v3 v4 v5) g :=
  ⟨h.dr.1.kept (put6_grown ..) (by intro k hk; cases hk; omega), grown_over h.dr.2 (put6_grown ..) (by intro k hk; cases hk; omega)⟩

set_option maxHeartbeats 8000000 in
theorem l5oftenM (g : Nat) (w : World) (h : Cur w g) :
    Calls Try.prog 57 #[.pointer (some ⟨g, 0, none⟩)] w fun e w' => ∃ xo xa xb xc xn xm, e = .returned (.agg #[.int .i64 xo, .int .i64 xa, .int .i64 xb, .int .i64 xc, .int .i64 xn, .int .i64 xm]) ∧ Drawn w w' g := by
  have hgl0 := h.lt
  have hI0 : IS w w.heap.size (w.alloc (.cells #[.int .i64 0, .int .i64 0, .int .i64 0, .int .i64 0, .int .i64 0, .int .i64 0] 92)) g := ⟨heap_alloc_new w _, h.start _⟩
  clear h
  go_enter Try.func57, Try.ntmps57
  go_upto_region 1 with fail
  generalize w.alloc (.cells #[.int .i64 0, .int .i64 0, .int .i64 0, .int .i64 0, .int .i64 0, .int .i64 0] 92) = w1 at *
  generalize hg : w.heap.size = gs at *
  have HG : Hid (w.heap.size = gs) := hg
  have I : Hid (IS w gs w1 g) := hI0
  have hgl : g < gs := hgl0
  clear hg hI0 hgl0
  go_wp2_with fail
  refine (belowM g _ w1 I.out.dr.1 (by omega)).mono ?_
  rintro e wa ⟨q, rfl, q0, q1, _, hd⟩
  replace q1 : q < 9 := q1 (by omega)
  have Ia : Hid (IS w gs wa g) := I.out.drawn hgl hd
  clear I hd
  have hq : q = 0 ∨ q = 1 ∨ q = 2 ∨ q = 3 ∨ q = 4 ∨ q = 5 ∨ q = 6 ∨ q = 7 ∨ q = 8 := by omega
  clear q0 q1
  rcases hq with rfl | rfl | rfl | rfl | rfl | rfl | rfl | rfl | rfl
  · go_wp2_with fail
    refine (belowM g _ wa Ia.out.dr.1 (by omega)).mono ?_
    rintro e w2 ⟨y0, rfl, y0a, y0b, _, hd⟩
    replace y0b : y0 < 3 := y0b (by omega)
    have I2 : Hid (IS w gs w2 g) := Ia.out.drawn hgl hd
    clear hd Ia
    obtain ⟨r0, r1, r2, r3, r4, r5, f0, f1, f2, f3, f4, f5⟩ := row6 I2.out.res
    go_wp2_with fail
    have hk := put6_block (.int .i64 (4)) (.int .i64 (4)) (.int .i64 (6)) (.int .i64 (0)) (.int .i64 (y0)) (.int .i64 (0)) I2.out.res
    have hd : Drawn w (put6 w2 gs (.int .i64 (4)) (.int .i64 (4)) (.int .i64 (6)) (.int .i64 (0)) (.int .i64 (y0)) (.int .i64 (0))) g := I2.out.put HG.out hgl (.int .i64 (4)) (.int .i64 (4)) (.int .i64 (6)) (.int .i64 (0)) (.int .i64 (y0)) (.int .i64 (0))
    show bodyPost _ _ _ _ _ (put6 w2 gs (.int .i64 (4)) (.int .i64 (4)) (.int .i64 (6)) (.int .i64 (0)) (.int .i64 (y0)) (.int .i64 (0)))
    generalize put6 w2 gs (.int .i64 (4)) (.int .i64 (4)) (.int .i64 (6)) (.int .i64 (0)) (.int .i64 (y0)) (.int .i64 (0)) = W at hk hd ⊢
    obtain ⟨d0, d1, d2, d3, d4, d5, _⟩ := row6 hk
    refine bodyPost_ret (v := .agg #[.int .i64 (4), .int .i64 (4), .int .i64 (6), .int .i64 (0), .int .i64 (y0), .int .i64 (0)]) (by simp [results, Try.results57, go_sem, d0, d1, d2, d3, d4, d5]) rfl ⟨_, _, _, _, _, _, rfl, hd⟩
  · go_wp2_with fail
    refine (belowM g _ wa Ia.out.dr.1 (by omega)).mono ?_
    rintro e w2 ⟨y0, rfl, y0a, y0b, _, hd⟩
    replace y0b : y0 < 4 := y0b (by omega)
    have I2 : Hid (IS w gs w2 g) := Ia.out.drawn hgl hd
    clear hd Ia
    go_wp2_with fail
    refine (belowM g _ w2 I2.out.dr.1 (by omega)).mono ?_
    rintro e w3 ⟨y1, rfl, y1a, y1b, _, hd⟩
    replace y1b : y1 < 5 := y1b (by omega)
    have I3 : Hid (IS w gs w3 g) := I2.out.drawn hgl hd
    clear hd I2
    obtain ⟨r0, r1, r2, r3, r4, r5, f0, f1, f2, f3, f4, f5⟩ := row6 I3.out.res
    go_wp2_with fail
    have hk := put6_block (.int .i64 (19)) (.int .i64 (4)) (.int .i64 (0)) (.int .i64 (0)) (.int .i64 (y0)) (.int .i64 (y1)) I3.out.res
    have hd : Drawn w (put6 w3 gs (.int .i64 (19)) (.int .i64 (4)) (.int .i64 (0)) (.int .i64 (0)) (.int .i64 (y0)) (.int .i64 (y1))) g := I3.out.put HG.out hgl (.int .i64 (19)) (.int .i64 (4)) (.int .i64 (0)) (.int .i64 (0)) (.int .i64 (y0)) (.int .i64 (y1))
    show bodyPost _ _ _ _ _ (put6 w3 gs (.int .i64 (19)) (.int .i64 (4)) (.int .i64 (0)) (.int .i64 (0)) (.int .i64 (y0)) (.int .i64 (y1)))
    generalize put6 w3 gs (.int .i64 (19)) (.int .i64 (4)) (.int .i64 (0)) (.int .i64 (0)) (.int .i64 (y0)) (.int .i64 (y1)) = W at hk hd ⊢
    obtain ⟨d0, d1, d2, d3, d4, d5, _⟩ := row6 hk
    refine bodyPost_ret (v := .agg #[.int .i64 (19), .int .i64 (4), .int .i64 (0), .int .i64 (0), .int .i64 (y0), .int .i64 (y1)]) (by simp [results, Try.results57, go_sem, d0, d1, d2, d3, d4, d5]) rfl ⟨_, _, _, _, _, _, rfl, hd⟩
  · go_wp2_with fail
    refine (belowM g _ wa Ia.out.dr.1 (by omega)).mono ?_
    rintro e w2 ⟨y0, rfl, y0a, y0b, _, hd⟩
    replace y0b : y0 < 4 := y0b (by omega)
    have I2 : Hid (IS w gs w2 g) := Ia.out.drawn hgl hd
    clear hd Ia
    go_wp2_with fail
    refine (belowM g _ w2 I2.out.dr.1 (by omega)).mono ?_
    rintro e w3 ⟨y1, rfl, y1a, y1b, _, hd⟩
    replace y1b : y1 < 9 := y1b (by omega)
    have I3 : Hid (IS w gs w3 g) := I2.out.drawn hgl hd
    clear hd I2
    obtain ⟨r0, r1, r2, r3, r4, r5, f0, f1, f2, f3, f4, f5⟩ := row6 I3.out.res
    go_wp2_with fail
    have hk := put6_block (.int .i64 (1)) (.int .i64 (y0)) (.int .i64 (0)) (.int .i64 (0)) (.int .i64 (y1 - 2)) (.int .i64 (0)) I3.out.res
    have hd : Drawn w (put6 w3 gs (.int .i64 (1)) (.int .i64 (y0)) (.int .i64 (0)) (.int .i64 (0)) (.int .i64 (y1 - 2)) (.int .i64 (0))) g := I3.out.put HG.out hgl (.int .i64 (1)) (.int .i64 (y0)) (.int .i64 (0)) (.int .i64 (0)) (.int .i64 (y1 - 2)) (.int .i64 (0))
    show bodyPost _ _ _ _ _ (put6 w3 gs (.int .i64 (1)) (.int .i64 (y0)) (.int .i64 (0)) (.int .i64 (0)) (.int .i64 (y1 - 2)) (.int .i64 (0)))
    generalize put6 w3 gs (.int .i64 (1)) (.int .i64 (y0)) (.int .i64 (0)) (.int .i64 (0)) (.int .i64 (y1 - 2)) (.int .i64 (0)) = W at hk hd ⊢
    obtain ⟨d0, d1, d2, d3, d4, d5, _⟩ := row6 hk
    refine bodyPost_ret (v := .agg #[.int .i64 (1), .int .i64 (y0), .int .i64 (0), .int .i64 (0), .int .i64 (y1 - 2), .int .i64 (0)]) (by simp [results, Try.results57, go_sem, d0, d1, d2, d3, d4, d5]) rfl ⟨_, _, _, _, _, _, rfl, hd⟩
  · go_wp2_with fail
    refine (belowM g _ wa Ia.out.dr.1 (by omega)).mono ?_
    rintro e w2 ⟨y0, rfl, y0a, y0b, _, hd⟩
    replace y0b : y0 < 8 := y0b (by omega)
    have I2 : Hid (IS w gs w2 g) := Ia.out.drawn hgl hd
    clear hd Ia
    go_wp2_with fail
    refine (belowM g _ w2 I2.out.dr.1 (by omega)).mono ?_
    rintro e w3 ⟨y1, rfl, y1a, y1b, _, hd⟩
    replace y1b : y1 < 2 := y1b (by omega)
    have I3 : Hid (IS w gs w3 g) := I2.out.drawn hgl hd
    clear hd I2
    go_wp2_with fail
    refine (belowM g _ w3 I3.out.dr.1 (by omega)).mono ?_
    rintro e w4 ⟨y2, rfl, y2a, y2b, _, hd⟩
    replace y2b : y2 < 6 := y2b (by omega)
    have I4 : Hid (IS w gs w4 g) := I3.out.drawn hgl hd
    clear hd I3
    obtain ⟨r0, r1, r2, r3, r4, r5, f0, f1, f2, f3, f4, f5⟩ := row6 I4.out.res
    go_wp2_with fail
    have hk := put6_block (.int .i64 (5)) (.int .i64 (y0)) (.int .i64 (6 + y1)) (.int .i64 (0)) (.int .i64 (y2)) (.int .i64 (0)) I4.out.res
    have hd : Drawn w (put6 w4 gs (.int .i64 (5)) (.int .i64 (y0)) (.int .i64 (6 + y1)) (.int .i64 (0)) (.int .i64 (y2)) (.int .i64 (0))) g := I4.out.put HG.out hgl (.int .i64 (5)) (.int .i64 (y0)) (.int .i64 (6 + y1)) (.int .i64 (0)) (.int .i64 (y2)) (.int .i64 (0))
    show bodyPost _ _ _ _ _ (put6 w4 gs (.int .i64 (5)) (.int .i64 (y0)) (.int .i64 (6 + y1)) (.int .i64 (0)) (.int .i64 (y2)) (.int .i64 (0)))
    generalize put6 w4 gs (.int .i64 (5)) (.int .i64 (y0)) (.int .i64 (6 + y1)) (.int .i64 (0)) (.int .i64 (y2)) (.int .i64 (0)) = W at hk hd ⊢
    obtain ⟨d0, d1, d2, d3, d4, d5, _⟩ := row6 hk
    refine bodyPost_ret (v := .agg #[.int .i64 (5), .int .i64 (y0), .int .i64 (6 + y1), .int .i64 (0), .int .i64 (y2), .int .i64 (0)]) (by simp [results, Try.results57, go_sem, d0, d1, d2, d3, d4, d5]) rfl ⟨_, _, _, _, _, _, rfl, hd⟩
  · go_wp2_with fail
    refine (belowM g _ wa Ia.out.dr.1 (by omega)).mono ?_
    rintro e w2 ⟨y0, rfl, y0a, y0b, _, hd⟩
    replace y0b : y0 < 6 := y0b (by omega)
    have I2 : Hid (IS w gs w2 g) := Ia.out.drawn hgl hd
    clear hd Ia
    go_wp2_with fail
    refine (belowM g _ w2 I2.out.dr.1 (by omega)).mono ?_
    rintro e w3 ⟨y1, rfl, y1a, y1b, _, hd⟩
    replace y1b : y1 < 2 := y1b (by omega)
    have I3 : Hid (IS w gs w3 g) := I2.out.drawn hgl hd
    clear hd I2
    go_wp2_with fail
    refine (belowM g _ w3 I3.out.dr.1 (by omega)).mono ?_
    rintro e w4 ⟨y2, rfl, y2a, y2b, _, hd⟩
    replace y2b : y2 < 6 := y2b (by omega)
    have I4 : Hid (IS w gs w4 g) := I3.out.drawn hgl hd
    clear hd I3
    obtain ⟨r0, r1, r2, r3, r4, r5, f0, f1, f2, f3, f4, f5⟩ := row6 I4.out.res
    go_wp2_with fail
    have hk := put6_block (.int .i64 (4)) (.int .i64 (y0)) (.int .i64 (6 + y1)) (.int .i64 (0)) (.int .i64 (y2 - 1)) (.int .i64 (0)) I4.out.res
    have hd : Drawn w (put6 w4 gs (.int .i64 (4)) (.int .i64 (y0)) (.int .i64 (6 + y1)) (.int .i64 (0)) (.int .i64 (y2 - 1)) (.int .i64 (0))) g := I4.out.put HG.out hgl (.int .i64 (4)) (.int .i64 (y0)) (.int .i64 (6 + y1)) (.int .i64 (0)) (.int .i64 (y2 - 1)) (.int .i64 (0))
    show bodyPost _ _ _ _ _ (put6 w4 gs (.int .i64 (4)) (.int .i64 (y0)) (.int .i64 (6 + y1)) (.int .i64 (0)) (.int .i64 (y2 - 1)) (.int .i64 (0)))
    generalize put6 w4 gs (.int .i64 (4)) (.int .i64 (y0)) (.int .i64 (6 + y1)) (.int .i64 (0)) (.int .i64 (y2 - 1)) (.int .i64 (0)) = W at hk hd ⊢
    obtain ⟨d0, d1, d2, d3, d4, d5, _⟩ := row6 hk
    refine bodyPost_ret (v := .agg #[.int .i64 (4), .int .i64 (y0), .int .i64 (6 + y1), .int .i64 (0), .int .i64 (y2 - 1), .int .i64 (0)]) (by simp [results, Try.results57, go_sem, d0, d1, d2, d3, d4, d5]) rfl ⟨_, _, _, _, _, _, rfl, hd⟩
  · go_wp2_with fail
    refine (belowM g _ wa Ia.out.dr.1 (by omega)).mono ?_
    rintro e w2 ⟨y0, rfl, y0a, y0b, _, hd⟩
    replace y0b : y0 < 4 := y0b (by omega)
    have I2 : Hid (IS w gs w2 g) := Ia.out.drawn hgl hd
    clear hd Ia
    go_wp2_with fail
    refine (belowM g _ w2 I2.out.dr.1 (by omega)).mono ?_
    rintro e w3 ⟨y1, rfl, y1a, y1b, _, hd⟩
    replace y1b : y1 < 8 := y1b (by omega)
    have I3 : Hid (IS w gs w3 g) := I2.out.drawn hgl hd
    clear hd I2
    obtain ⟨r0, r1, r2, r3, r4, r5, f0, f1, f2, f3, f4, f5⟩ := row6 I3.out.res
    go_wp2_with fail
    have hk := put6_block (.int .i64 (2)) (.int .i64 (y0)) (.int .i64 (y1)) (.int .i64 (0)) (.int .i64 (0)) (.int .i64 (0)) I3.out.res
    have hd : Drawn w (put6 w3 gs (.int .i64 (2)) (.int .i64 (y0)) (.int .i64 (y1)) (.int .i64 (0)) (.int .i64 (0)) (.int .i64 (0))) g := I3.out.put HG.out hgl (.int .i64 (2)) (.int .i64 (y0)) (.int .i64 (y1)) (.int .i64 (0)) (.int .i64 (0)) (.int .i64 (0))
    show bodyPost _ _ _ _ _ (put6 w3 gs (.int .i64 (2)) (.int .i64 (y0)) (.int .i64 (y1)) (.int .i64 (0)) (.int .i64 (0)) (.int .i64 (0)))
    generalize put6 w3 gs (.int .i64 (2)) (.int .i64 (y0)) (.int .i64 (y1)) (.int .i64 (0)) (.int .i64 (0)) (.int .i64 (0)) = W at hk hd ⊢
    obtain ⟨d0, d1, d2, d3, d4, d5, _⟩ := row6 hk
    refine bodyPost_ret (v := .agg #[.int .i64 (2), .int .i64 (y0), .int .i64 (y1), .int .i64 (0), .int .i64 (0), .int .i64 (0)]) (by simp [results, Try.results57, go_sem, d0, d1, d2, d3, d4, d5]) rfl ⟨_, _, _, _, _, _, rfl, hd⟩
  · go_wp2_with fail
    refine (belowM g _ wa Ia.out.dr.1 (by omega)).mono ?_
    rintro e w2 ⟨y0, rfl, y0a, y0b, _, hd⟩
    replace y0b : y0 < 4 := y0b (by omega)
    have I2 : Hid (IS w gs w2 g) := Ia.out.drawn hgl hd
    clear hd Ia
    go_wp2_with fail
    refine (belowM g _ w2 I2.out.dr.1 (by omega)).mono ?_
    rintro e w3 ⟨y1, rfl, y1a, y1b, _, hd⟩
    replace y1b : y1 < 2 := y1b (by omega)
    have I3 : Hid (IS w gs w3 g) := I2.out.drawn hgl hd
    clear hd I2
    go_wp2_with fail
    refine (belowM g _ w3 I3.out.dr.1 (by omega)).mono ?_
    rintro e w4 ⟨y2, rfl, y2a, y2b, _, hd⟩
    replace y2b : y2 < 3 := y2b (by omega)
    have I4 : Hid (IS w gs w4 g) := I3.out.drawn hgl hd
    clear hd I3
    go_wp2_with fail
    refine (belowM g _ w4 I4.out.dr.1 (by omega)).mono ?_
    rintro e w5 ⟨y3, rfl, y3a, y3b, _, hd⟩
    replace y3b : y3 < 4 := y3b (by omega)
    have I5 : Hid (IS w gs w5 g) := I4.out.drawn hgl hd
    clear hd I4
    obtain ⟨r0, r1, r2, r3, r4, r5, f0, f1, f2, f3, f4, f5⟩ := row6 I5.out.res
    go_wp2_with fail
    have hk := put6_block (.int .i64 (8)) (.int .i64 (y0)) (.int .i64 (6 + y1)) (.int .i64 (0)) (.int .i64 (y2)) (.int .i64 (y3)) I5.out.res
    have hd : Drawn w (put6 w5 gs (.int .i64 (8)) (.int .i64 (y0)) (.int .i64 (6 + y1)) (.int .i64 (0)) (.int .i64 (y2)) (.int .i64 (y3))) g := I5.out.put HG.out hgl (.int .i64 (8)) (.int .i64 (y0)) (.int .i64 (6 + y1)) (.int .i64 (0)) (.int .i64 (y2)) (.int .i64 (y3))
    show bodyPost _ _ _ _ _ (put6 w5 gs (.int .i64 (8)) (.int .i64 (y0)) (.int .i64 (6 + y1)) (.int .i64 (0)) (.int .i64 (y2)) (.int .i64 (y3)))
    generalize put6 w5 gs (.int .i64 (8)) (.int .i64 (y0)) (.int .i64 (6 + y1)) (.int .i64 (0)) (.int .i64 (y2)) (.int .i64 (y3)) = W at hk hd ⊢
    obtain ⟨d0, d1, d2, d3, d4, d5, _⟩ := row6 hk
    refine bodyPost_ret (v := .agg #[.int .i64 (8), .int .i64 (y0), .int .i64 (6 + y1), .int .i64 (0), .int .i64 (y2), .int .i64 (y3)]) (by simp [results, Try.results57, go_sem, d0, d1, d2, d3, d4, d5]) rfl ⟨_, _, _, _, _, _, rfl, hd⟩
  · go_wp2_with fail
    refine (l4insM g wa Ia.out.dr.1).mono ?_
    rintro e w2 ⟨xo, xa, xb, xc, xn, xm, rfl, hd⟩
    have I2 : Hid (IS w gs w2 g) := Ia.out.drawn hgl hd
    clear hd Ia
    obtain ⟨r0, r1, r2, r3, r4, r5, f0, f1, f2, f3, f4, f5⟩ := row6 I2.out.res
    go_wp2_with fail
    have hk := put6_block (.int .i64 (xo)) (.int .i64 (xa)) (.int .i64 (xb)) (.int .i64 (xc)) (.int .i64 (xn)) (.int .i64 (xm)) I2.out.res
    have hd : Drawn w (put6 w2 gs (.int .i64 (xo)) (.int .i64 (xa)) (.int .i64 (xb)) (.int .i64 (xc)) (.int .i64 (xn)) (.int .i64 (xm))) g := I2.out.put HG.out hgl (.int .i64 (xo)) (.int .i64 (xa)) (.int .i64 (xb)) (.int .i64 (xc)) (.int .i64 (xn)) (.int .i64 (xm))
    show bodyPost _ _ _ _ _ (put6 w2 gs (.int .i64 (xo)) (.int .i64 (xa)) (.int .i64 (xb)) (.int .i64 (xc)) (.int .i64 (xn)) (.int .i64 (xm)))
    generalize put6 w2 gs (.int .i64 (xo)) (.int .i64 (xa)) (.int .i64 (xb)) (.int .i64 (xc)) (.int .i64 (xn)) (.int .i64 (xm)) = W at hk hd ⊢
    obtain ⟨d0, d1, d2, d3, d4, d5, _⟩ := row6 hk
    refine bodyPost_ret (v := .agg #[.int .i64 (xo), .int .i64 (xa), .int .i64 (xb), .int .i64 (xc), .int .i64 (xn), .int .i64 (xm)]) (by simp [results, Try.results57, go_sem, d0, d1, d2, d3, d4, d5]) rfl ⟨_, _, _, _, _, _, rfl, hd⟩
  · go_wp2_with fail
    refine (l4insM g wa Ia.out.dr.1).mono ?_
    rintro e w2 ⟨xo, xa, xb, xc, xn, xm, rfl, hd⟩
    have I2 : Hid (IS w gs w2 g) := Ia.out.drawn hgl hd
    clear hd Ia
    obtain ⟨r0, r1, r2, r3, r4, r5, f0, f1, f2, f3, f4, f5⟩ := row6 I2.out.res
    go_wp2_with fail
    have hk := put6_block (.int .i64 (xo)) (.int .i64 (xa)) (.int .i64 (xb)) (.int .i64 (xc)) (.int .i64 (xn)) (.int .i64 (xm)) I2.out.res
    have hd : Drawn w (put6 w2 gs (.int .i64 (xo)) (.int .i64 (xa)) (.int .i64 (xb)) (.int .i64 (xc)) (.int .i64 (xn)) (.int .i64 (xm))) g := I2.out.put HG.out hgl (.int .i64 (xo)) (.int .i64 (xa)) (.int .i64 (xb)) (.int .i64 (xc)) (.int .i64 (xn)) (.int .i64 (xm))
    show bodyPost _ _ _ _ _ (put6 w2 gs (.int .i64 (xo)) (.int .i64 (xa)) (.int .i64 (xb)) (.int .i64 (xc)) (.int .i64 (xn)) (.int .i64 (xm)))
    generalize put6 w2 gs (.int .i64 (xo)) (.int .i64 (xa)) (.int .i64 (xb)) (.int .i64 (xc)) (.int .i64 (xn)) (.int .i64 (xm)) = W at hk hd ⊢
    obtain ⟨d0, d1, d2, d3, d4, d5, _⟩ := row6 hk
    refine bodyPost_ret (v := .agg #[.int .i64 (xo), .int .i64 (xa), .int .i64 (xb), .int .i64 (xc), .int .i64 (xn), .int .i64 (xm)]) (by simp [results, Try.results57, go_sem, d0, d1, d2, d3, d4, d5]) rfl ⟨_, _, _, _, _, _, rfl, hd⟩
end Go.Proofs.Ytnhebknckgffoaa

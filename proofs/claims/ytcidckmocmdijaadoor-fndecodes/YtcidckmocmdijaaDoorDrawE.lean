/- Drawn instructions, and drawn bytes of instructions. -/
import Derived.Test.YtcidckmocmdijaaDoorDrawI
import Derived.Test.YtcidckmocmdijaaDoorDecPure
import Derived.Deep.Cut
namespace Go.Proofs.YtcidckmocmdijaaDoor
open Go.RowKit
set_option linter.unusedVariables false
set_option linter.unusedSimpArgs false
set_option maxRecDepth 100000

structure KS (w wr : World) (gs g gv : Nat) (A : Array Value) : Prop where
  res : wr.heap[gs]? = some (.cells #[.int .i64 0, .int .i64 0, .int .i64 0, .int .i64 0, .int .i64 0, .int .i64 0] 26 (0, 0))
  var : wr.heap[gv]? = some (.cells A 26 (0, 0))
  cur : Cur wr g
  bel : Below w.heap.size w wr
  ne : gs < g ∧ g < gv ∧ w.heap.size ≤ gs
theorem KS.drawn {w wr w' : World} {gs g gv : Nat} {A : Array Value} (h : KS w wr gs g gv A) (hd : Drawn wr w' g) : KS w w' gs g gv A := by
  have := h.ne
  exact ⟨(hd.block (Array.getElem?_eq_some_iff.1 h.res).1 (by omega)).trans h.res, (hd.block (Array.getElem?_eq_some_iff.1 h.var).1 (by omega)).trans h.var, hd.1, Below.drawn h.bel hd.2 h.bel.size (by omega), h.ne⟩
theorem KS.alloc {w wr : World} {gs g gv : Nat} {A : Array Value} (h : KS w wr gs g gv A) (o : Obj) : KS w (wr.alloc o) gs g gv A :=
  ⟨(alloc_block (Array.getElem?_eq_some_iff.1 h.res).1).trans h.res, (alloc_block (Array.getElem?_eq_some_iff.1 h.var).1).trans h.var, h.cur.alloc o, h.bel.alloc h.bel.size o, h.ne⟩
theorem KS.set {w wr : World} {gs g gv i : Nat} {A B : Array Value} {v : Value} (h : KS w wr gs g gv A) (hv : (wr.setCell ⟨gv, i, none⟩ v).heap[gv]? = some (.cells B 26 (0, 0))) : KS w (wr.setCell ⟨gv, i, none⟩ v) gs g gv B := by
  have := h.ne
  exact ⟨(heap_setCell_other wr ⟨gv, i, none⟩ gs _ (by simp; omega)).trans h.res, hv, h.cur.kept (set_grown wr gv i v) (by intro k hk; cases hk; omega), h.bel.setCell (by show w.heap.size ≤ gv; omega) _, h.ne⟩

set_option maxHeartbeats 8000000 in
theorem drawInsOkM (a : Option Addr) (n c : Nat) (l : List Int) (w : World) (h : BRow w a n l) (hn : n ≤ 9223372036854775807) :
    Calls Tryd.prog 16 #[.slice a n c] w fun e w' => ∃ xo xa xb xc xn xm, e = .returned (.agg #[.int .i64 xo, .int .i64 xa, .int .i64 xb, .int .i64 xc, .int .i64 xn, .int .i64 xm]) ∧ Below w.heap.size w w' := by
  have y0 : Below w.heap.size w (w.alloc (.cells #[.int .i64 0, .int .i64 0, .int .i64 0, .int .i64 0, .int .i64 0, .int .i64 0] 26)) := (Below.refl _ _).alloc (Nat.le_refl _) _
  have r0 := heap_new w #[.int .i64 0, .int .i64 0, .int .i64 0, .int .i64 0, .int .i64 0, .int .i64 0] 26
  have z0 : (w.alloc (.cells #[.int .i64 0, .int .i64 0, .int .i64 0, .int .i64 0, .int .i64 0, .int .i64 0] 26)).heap.size = w.heap.size + 1 := by simp
  have H1 := newM a n c l _ (h.below y0) hn
  clear h
  go_enter Tryd.func16, Tryd.ntmps16
  go_upto_region 1 with fail
  generalize w.alloc (.cells #[.int .i64 0, .int .i64 0, .int .i64 0, .int .i64 0, .int .i64 0, .int .i64 0] 26) = w0 at *
  go_wp2_with fail
  refine H1.mono ?_
  rintro e w1 ⟨g, rfl, hg, hc, hb⟩
  have rr1 := (hb.block w.heap.size (by omega)).trans r0
  have y1 : Below w.heap.size w w1 := y0.trans (hb.mono y0.size)
  rw [z0] at hg
  have RB : Hid (w1.heap[w.heap.size]? = some (.cells #[.int .i64 0, .int .i64 0, .int .i64 0, .int .i64 0, .int .i64 0, .int .i64 0] 26 (0, 0)) ∧ Below w.heap.size w w1) := ⟨rr1, y1⟩
  clear H1 hb r0 y0 rr1 y1 z0
  go_wp2_with fail
  refine (l4insM g w1 hc).mono ?_
  rintro e w2 ⟨xo, xa, xb, xc, xn, xm, rfl, hd⟩
  have hlt := hd.1.lt
  have J3 : Hid (KS w (w2.alloc (.cells #[.int .i64 xo, .int .i64 xa, .int .i64 xb, .int .i64 xc, .int .i64 xn, .int .i64 xm] 26)) w.heap.size g w2.heap.size #[.int .i64 xo, .int .i64 xa, .int .i64 xb, .int .i64 xc, .int .i64 xn, .int .i64 xm]) := by
    have q := RB.out
    have r2 := (hd.block (Array.getElem?_eq_some_iff.1 q.1).1 (by omega)).trans q.1
    exact ⟨(alloc_block (Array.getElem?_eq_some_iff.1 r2).1).trans r2, heap_new w2 _ _, hd.1.alloc _, (Below.drawn q.2 hd.2 q.2.size (by omega)).alloc (by have := (Below.drawn q.2 hd.2 q.2.size (by omega)).size; omega) _, by omega, by omega, Nat.le_refl _⟩
  go_upto_region 3 with fail
  generalize (w2.alloc (.cells #[.int .i64 xo, .int .i64 xa, .int .i64 xb, .int .i64 xc, .int .i64 xn, .int .i64 xm] 26)) = w3 at *
  clear hd hc RB
  generalize w2.heap.size = gv at *
  generalize hgs : w.heap.size = gs at *
  have HGS : Hid (w.heap.size = gs) := hgs
  clear hgs
  go_wp2_with fail
  refine (onceM g _ w3 J3.out.cur (by omega)).mono ?_
  rintro e w4 ⟨b, rfl, hd⟩
  have J4 : Hid (KS w w4 gs g gv #[.int .i64 xo, .int .i64 xa, .int .i64 xb, .int .i64 xc, .int .i64 xn, .int .i64 xm]) := J3.out.drawn hd
  clear hd J3
  cases b
  · skip
    obtain ⟨r0, r1, r2, r3, r4, r5, f0, f1, f2, f3, f4, f5⟩ := row6 J4.out.res
    obtain ⟨v0, v1, v2, v3, v4, v5, _⟩ := row6 J4.out.var
    go_wp2_with fail
    have hk := put6_block (.int .i64 xo) (.int .i64 xa) (.int .i64 xb) (.int .i64 xc) (.int .i64 xn) (.int .i64 xm) J4.out.res
    have hd : Below w.heap.size w (put6 w4 gs (.int .i64 xo) (.int .i64 xa) (.int .i64 xb) (.int .i64 xc) (.int .i64 xn) (.int .i64 xm)) := put6_below J4.out.bel J4.out.ne.2.2 (.int .i64 xo) (.int .i64 xa) (.int .i64 xb) (.int .i64 xc) (.int .i64 xn) (.int .i64 xm)
    show bodyPost _ _ _ _ _ (put6 w4 gs (.int .i64 xo) (.int .i64 xa) (.int .i64 xb) (.int .i64 xc) (.int .i64 xn) (.int .i64 xm))
    generalize put6 w4 gs (.int .i64 xo) (.int .i64 xa) (.int .i64 xb) (.int .i64 xc) (.int .i64 xn) (.int .i64 xm) = W at hk hd ⊢
    obtain ⟨d0, d1, d2, d3, d4, d5, _⟩ := row6 hk
    refine bodyPost_ret (v := .agg #[.int .i64 xo, .int .i64 xa, .int .i64 xb, .int .i64 xc, .int .i64 xn, .int .i64 xm]) (by simp [results, Tryd.results16, go_sem, d0, d1, d2, d3, d4, d5]) rfl ⟨_, _, _, _, _, _, rfl, hd⟩
  · go_wp2_with fail
    have hints := ints_block w4 [-1, 8, 23, 0, 2147483648, -2147483649, 9223372036854775807] (inInt_all _ (by decide))
    have J5 : Hid (KS w (w4.alloc (.cells #[.int .i64 (-1), .int .i64 8, .int .i64 23, .int .i64 0, .int .i64 2147483648, .int .i64 (-2147483649), .int .i64 9223372036854775807] 3)) gs g gv #[.int .i64 xo, .int .i64 xa, .int .i64 xb, .int .i64 xc, .int .i64 xn, .int .i64 xm]) := J4.out.alloc _
    refine (pickM g w4.heap.size 7 7 _ J5.out.cur J4.out.cur.lt (by omega) (by omega) hints).mono ?_
    rintro e w6 ⟨v, rfl, hv, hd⟩
    have J6 : Hid (KS w w6 gs g gv #[.int .i64 xo, .int .i64 xa, .int .i64 xb, .int .i64 xc, .int .i64 xn, .int .i64 xm]) := J5.out.drawn hd
    clear hd J5 J4 hints
    go_wp2_with fail
    refine (belowM g _ w6 J6.out.cur (by omega)).mono ?_
    rintro e w7 ⟨q, rfl, q0, q1, _, hd⟩
    replace q1 : q < 6 := q1 (by omega)
    have J7 : Hid (KS w w7 gs g gv #[.int .i64 xo, .int .i64 xa, .int .i64 xb, .int .i64 xc, .int .i64 xn, .int .i64 xm]) := J6.out.drawn hd
    clear hd J6
    have hq : q = 0 ∨ q = 1 ∨ q = 2 ∨ q = 3 ∨ q = 4 ∨ q = 5 := by omega
    clear q0 q1
    rcases hq with rfl | rfl | rfl | rfl | rfl | rfl
    · obtain ⟨v0, v1, v2, v3, v4, v5, g0, g1, g2, g3, g4, g5⟩ := row6 J7.out.var
      have J8 : Hid (KS w (w7.setCell ⟨gv, 0, none⟩ (.int .i64 v)) gs g gv #[.int .i64 v, .int .i64 xa, .int .i64 xb, .int .i64 xc, .int .i64 xn, .int .i64 xm]) := J7.out.set (by rw [heap_setCell_same w7 gv 0 _ _ _ J7.out.var]; rfl)
      go_upto_region 17 with fail
      clear v0 v1 v2 v3 v4 v5 g0 g1 g2 g3 g4 g5 J7
      generalize w7.setCell ⟨gv, 0, none⟩ (.int .i64 v) = w8 at *
      obtain ⟨r0, r1, r2, r3, r4, r5, f0, f1, f2, f3, f4, f5⟩ := row6 J8.out.res
      obtain ⟨v0, v1, v2, v3, v4, v5, _⟩ := row6 J8.out.var
      go_wp2_with fail
      have hk := put6_block (.int .i64 v) (.int .i64 xa) (.int .i64 xb) (.int .i64 xc) (.int .i64 xn) (.int .i64 xm) J8.out.res
      have hd : Below w.heap.size w (put6 w8 gs (.int .i64 v) (.int .i64 xa) (.int .i64 xb) (.int .i64 xc) (.int .i64 xn) (.int .i64 xm)) := put6_below J8.out.bel J8.out.ne.2.2 (.int .i64 v) (.int .i64 xa) (.int .i64 xb) (.int .i64 xc) (.int .i64 xn) (.int .i64 xm)
      show bodyPost _ _ _ _ _ (put6 w8 gs (.int .i64 v) (.int .i64 xa) (.int .i64 xb) (.int .i64 xc) (.int .i64 xn) (.int .i64 xm))
      generalize put6 w8 gs (.int .i64 v) (.int .i64 xa) (.int .i64 xb) (.int .i64 xc) (.int .i64 xn) (.int .i64 xm) = W at hk hd ⊢
      obtain ⟨d0, d1, d2, d3, d4, d5, _⟩ := row6 hk
      refine bodyPost_ret (v := .agg #[.int .i64 v, .int .i64 xa, .int .i64 xb, .int .i64 xc, .int .i64 xn, .int .i64 xm]) (by simp [results, Tryd.results16, go_sem, d0, d1, d2, d3, d4, d5]) rfl ⟨_, _, _, _, _, _, rfl, hd⟩
    · obtain ⟨v0, v1, v2, v3, v4, v5, g0, g1, g2, g3, g4, g5⟩ := row6 J7.out.var
      have J8 : Hid (KS w (w7.setCell ⟨gv, 1, none⟩ (.int .i64 v)) gs g gv #[.int .i64 xo, .int .i64 v, .int .i64 xb, .int .i64 xc, .int .i64 xn, .int .i64 xm]) := J7.out.set (by rw [heap_setCell_same w7 gv 1 _ _ _ J7.out.var]; rfl)
      go_upto_region 17 with fail
      clear v0 v1 v2 v3 v4 v5 g0 g1 g2 g3 g4 g5 J7
      generalize w7.setCell ⟨gv, 1, none⟩ (.int .i64 v) = w8 at *
      obtain ⟨r0, r1, r2, r3, r4, r5, f0, f1, f2, f3, f4, f5⟩ := row6 J8.out.res
      obtain ⟨v0, v1, v2, v3, v4, v5, _⟩ := row6 J8.out.var
      go_wp2_with fail
      have hk := put6_block (.int .i64 xo) (.int .i64 v) (.int .i64 xb) (.int .i64 xc) (.int .i64 xn) (.int .i64 xm) J8.out.res
      have hd : Below w.heap.size w (put6 w8 gs (.int .i64 xo) (.int .i64 v) (.int .i64 xb) (.int .i64 xc) (.int .i64 xn) (.int .i64 xm)) := put6_below J8.out.bel J8.out.ne.2.2 (.int .i64 xo) (.int .i64 v) (.int .i64 xb) (.int .i64 xc) (.int .i64 xn) (.int .i64 xm)
      show bodyPost _ _ _ _ _ (put6 w8 gs (.int .i64 xo) (.int .i64 v) (.int .i64 xb) (.int .i64 xc) (.int .i64 xn) (.int .i64 xm))
      generalize put6 w8 gs (.int .i64 xo) (.int .i64 v) (.int .i64 xb) (.int .i64 xc) (.int .i64 xn) (.int .i64 xm) = W at hk hd ⊢
      obtain ⟨d0, d1, d2, d3, d4, d5, _⟩ := row6 hk
      refine bodyPost_ret (v := .agg #[.int .i64 xo, .int .i64 v, .int .i64 xb, .int .i64 xc, .int .i64 xn, .int .i64 xm]) (by simp [results, Tryd.results16, go_sem, d0, d1, d2, d3, d4, d5]) rfl ⟨_, _, _, _, _, _, rfl, hd⟩
    · obtain ⟨v0, v1, v2, v3, v4, v5, g0, g1, g2, g3, g4, g5⟩ := row6 J7.out.var
      have J8 : Hid (KS w (w7.setCell ⟨gv, 2, none⟩ (.int .i64 v)) gs g gv #[.int .i64 xo, .int .i64 xa, .int .i64 v, .int .i64 xc, .int .i64 xn, .int .i64 xm]) := J7.out.set (by rw [heap_setCell_same w7 gv 2 _ _ _ J7.out.var]; rfl)
      go_upto_region 17 with fail
      clear v0 v1 v2 v3 v4 v5 g0 g1 g2 g3 g4 g5 J7
      generalize w7.setCell ⟨gv, 2, none⟩ (.int .i64 v) = w8 at *
      obtain ⟨r0, r1, r2, r3, r4, r5, f0, f1, f2, f3, f4, f5⟩ := row6 J8.out.res
      obtain ⟨v0, v1, v2, v3, v4, v5, _⟩ := row6 J8.out.var
      go_wp2_with fail
      have hk := put6_block (.int .i64 xo) (.int .i64 xa) (.int .i64 v) (.int .i64 xc) (.int .i64 xn) (.int .i64 xm) J8.out.res
      have hd : Below w.heap.size w (put6 w8 gs (.int .i64 xo) (.int .i64 xa) (.int .i64 v) (.int .i64 xc) (.int .i64 xn) (.int .i64 xm)) := put6_below J8.out.bel J8.out.ne.2.2 (.int .i64 xo) (.int .i64 xa) (.int .i64 v) (.int .i64 xc) (.int .i64 xn) (.int .i64 xm)
      show bodyPost _ _ _ _ _ (put6 w8 gs (.int .i64 xo) (.int .i64 xa) (.int .i64 v) (.int .i64 xc) (.int .i64 xn) (.int .i64 xm))
      generalize put6 w8 gs (.int .i64 xo) (.int .i64 xa) (.int .i64 v) (.int .i64 xc) (.int .i64 xn) (.int .i64 xm) = W at hk hd ⊢
      obtain ⟨d0, d1, d2, d3, d4, d5, _⟩ := row6 hk
      refine bodyPost_ret (v := .agg #[.int .i64 xo, .int .i64 xa, .int .i64 v, .int .i64 xc, .int .i64 xn, .int .i64 xm]) (by simp [results, Tryd.results16, go_sem, d0, d1, d2, d3, d4, d5]) rfl ⟨_, _, _, _, _, _, rfl, hd⟩
    · obtain ⟨v0, v1, v2, v3, v4, v5, g0, g1, g2, g3, g4, g5⟩ := row6 J7.out.var
      have J8 : Hid (KS w (w7.setCell ⟨gv, 3, none⟩ (.int .i64 v)) gs g gv #[.int .i64 xo, .int .i64 xa, .int .i64 xb, .int .i64 v, .int .i64 xn, .int .i64 xm]) := J7.out.set (by rw [heap_setCell_same w7 gv 3 _ _ _ J7.out.var]; rfl)
      go_upto_region 17 with fail
      clear v0 v1 v2 v3 v4 v5 g0 g1 g2 g3 g4 g5 J7
      generalize w7.setCell ⟨gv, 3, none⟩ (.int .i64 v) = w8 at *
      obtain ⟨r0, r1, r2, r3, r4, r5, f0, f1, f2, f3, f4, f5⟩ := row6 J8.out.res
      obtain ⟨v0, v1, v2, v3, v4, v5, _⟩ := row6 J8.out.var
      go_wp2_with fail
      have hk := put6_block (.int .i64 xo) (.int .i64 xa) (.int .i64 xb) (.int .i64 v) (.int .i64 xn) (.int .i64 xm) J8.out.res
      have hd : Below w.heap.size w (put6 w8 gs (.int .i64 xo) (.int .i64 xa) (.int .i64 xb) (.int .i64 v) (.int .i64 xn) (.int .i64 xm)) := put6_below J8.out.bel J8.out.ne.2.2 (.int .i64 xo) (.int .i64 xa) (.int .i64 xb) (.int .i64 v) (.int .i64 xn) (.int .i64 xm)
      show bodyPost _ _ _ _ _ (put6 w8 gs (.int .i64 xo) (.int .i64 xa) (.int .i64 xb) (.int .i64 v) (.int .i64 xn) (.int .i64 xm))
      generalize put6 w8 gs (.int .i64 xo) (.int .i64 xa) (.int .i64 xb) (.int .i64 v) (.int .i64 xn) (.int .i64 xm) = W at hk hd ⊢
      obtain ⟨d0, d1, d2, d3, d4, d5, _⟩ := row6 hk
      refine bodyPost_ret (v := .agg #[.int .i64 xo, .int .i64 xa, .int .i64 xb, .int .i64 v, .int .i64 xn, .int .i64 xm]) (by simp [results, Tryd.results16, go_sem, d0, d1, d2, d3, d4, d5]) rfl ⟨_, _, _, _, _, _, rfl, hd⟩
    · obtain ⟨v0, v1, v2, v3, v4, v5, g0, g1, g2, g3, g4, g5⟩ := row6 J7.out.var
      have J8 : Hid (KS w (w7.setCell ⟨gv, 4, none⟩ (.int .i64 v)) gs g gv #[.int .i64 xo, .int .i64 xa, .int .i64 xb, .int .i64 xc, .int .i64 v, .int .i64 xm]) := J7.out.set (by rw [heap_setCell_same w7 gv 4 _ _ _ J7.out.var]; rfl)
      go_upto_region 17 with fail
      clear v0 v1 v2 v3 v4 v5 g0 g1 g2 g3 g4 g5 J7
      generalize w7.setCell ⟨gv, 4, none⟩ (.int .i64 v) = w8 at *
      obtain ⟨r0, r1, r2, r3, r4, r5, f0, f1, f2, f3, f4, f5⟩ := row6 J8.out.res
      obtain ⟨v0, v1, v2, v3, v4, v5, _⟩ := row6 J8.out.var
      go_wp2_with fail
      have hk := put6_block (.int .i64 xo) (.int .i64 xa) (.int .i64 xb) (.int .i64 xc) (.int .i64 v) (.int .i64 xm) J8.out.res
      have hd : Below w.heap.size w (put6 w8 gs (.int .i64 xo) (.int .i64 xa) (.int .i64 xb) (.int .i64 xc) (.int .i64 v) (.int .i64 xm)) := put6_below J8.out.bel J8.out.ne.2.2 (.int .i64 xo) (.int .i64 xa) (.int .i64 xb) (.int .i64 xc) (.int .i64 v) (.int .i64 xm)
      show bodyPost _ _ _ _ _ (put6 w8 gs (.int .i64 xo) (.int .i64 xa) (.int .i64 xb) (.int .i64 xc) (.int .i64 v) (.int .i64 xm))
      generalize put6 w8 gs (.int .i64 xo) (.int .i64 xa) (.int .i64 xb) (.int .i64 xc) (.int .i64 v) (.int .i64 xm) = W at hk hd ⊢
      obtain ⟨d0, d1, d2, d3, d4, d5, _⟩ := row6 hk
      refine bodyPost_ret (v := .agg #[.int .i64 xo, .int .i64 xa, .int .i64 xb, .int .i64 xc, .int .i64 v, .int .i64 xm]) (by simp [results, Tryd.results16, go_sem, d0, d1, d2, d3, d4, d5]) rfl ⟨_, _, _, _, _, _, rfl, hd⟩
    · obtain ⟨v0, v1, v2, v3, v4, v5, g0, g1, g2, g3, g4, g5⟩ := row6 J7.out.var
      have J8 : Hid (KS w (w7.setCell ⟨gv, 5, none⟩ (.int .i64 v)) gs g gv #[.int .i64 xo, .int .i64 xa, .int .i64 xb, .int .i64 xc, .int .i64 xn, .int .i64 v]) := J7.out.set (by rw [heap_setCell_same w7 gv 5 _ _ _ J7.out.var]; rfl)
      go_upto_region 17 with fail
      clear v0 v1 v2 v3 v4 v5 g0 g1 g2 g3 g4 g5 J7
      generalize w7.setCell ⟨gv, 5, none⟩ (.int .i64 v) = w8 at *
      obtain ⟨r0, r1, r2, r3, r4, r5, f0, f1, f2, f3, f4, f5⟩ := row6 J8.out.res
      obtain ⟨v0, v1, v2, v3, v4, v5, _⟩ := row6 J8.out.var
      go_wp2_with fail
      have hk := put6_block (.int .i64 xo) (.int .i64 xa) (.int .i64 xb) (.int .i64 xc) (.int .i64 xn) (.int .i64 v) J8.out.res
      have hd : Below w.heap.size w (put6 w8 gs (.int .i64 xo) (.int .i64 xa) (.int .i64 xb) (.int .i64 xc) (.int .i64 xn) (.int .i64 v)) := put6_below J8.out.bel J8.out.ne.2.2 (.int .i64 xo) (.int .i64 xa) (.int .i64 xb) (.int .i64 xc) (.int .i64 xn) (.int .i64 v)
      show bodyPost _ _ _ _ _ (put6 w8 gs (.int .i64 xo) (.int .i64 xa) (.int .i64 xb) (.int .i64 xc) (.int .i64 xn) (.int .i64 v))
      generalize put6 w8 gs (.int .i64 xo) (.int .i64 xa) (.int .i64 xb) (.int .i64 xc) (.int .i64 xn) (.int .i64 v) = W at hk hd ⊢
      obtain ⟨d0, d1, d2, d3, d4, d5, _⟩ := row6 hk
      refine bodyPost_ret (v := .agg #[.int .i64 xo, .int .i64 xa, .int .i64 xb, .int .i64 xc, .int .i64 xn, .int .i64 v]) (by simp [results, Tryd.results16, go_sem, d0, d1, d2, d3, d4, d5]) rfl ⟨_, _, _, _, _, _, rfl, hd⟩
end Go.Proofs.YtcidckmocmdijaaDoor

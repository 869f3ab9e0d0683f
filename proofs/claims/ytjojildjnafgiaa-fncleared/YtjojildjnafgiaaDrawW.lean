/- Drawn words: some word came back, the cursor stands, nothing else that was there has turned. -/
import Derived.Test.YtjojildjnafgiaaDrawAny
import Derived.Test.YtjojildjnafgiaaWords4
import Derived.Test.YtjojildjnafgiaaPut7
import Derived.Deep.RegionHeld3
namespace Go.Proofs.Ytjojildjnafgiaa
open Go.RowKit
set_option linter.unusedVariables false

theorem put7_done {w W0 : World} {g k : Nat} {u0 u1 u2 u3 u4 u5 u6 : Value} (v0 v1 v2 v3 v4 v5 v6 : Value) (hd : Drawn w W0 g) (hgk : g < w.heap.size) (hk : w.heap.size ≤ k) (h : W0.heap[k]? = some (.cells #[u0, u1, u2, u3, u4, u5, u6] 29 (0, 0))) :
    (put7 W0 k v0 v1 v2 v3 v4 v5 v6).heap[k]? = some (.cells #[v0, v1, v2, v3, v4, v5, v6] 29 (0, 0)) ∧ Drawn w (put7 W0 k v0 v1 v2 v3 v4 v5 v6) g :=
  ⟨put7_block _ _ _ _ _ _ _ h, hd.1.kept (put7_grown ..) (by intro j hj; cases hj; omega), grown_over hd.2 (put7_grown ..) (by intro j hj; cases hj; omega)⟩

theorem Drawn.set {w w1 : World} {g k : Nat} (h : Drawn w w1 g) (hgl : g < w.heap.size) (hk : w.heap.size ≤ k) (i : Nat) (v : Value) : Drawn w (w1.setCell ⟨k, i, none⟩ v) g :=
  ⟨h.1.kept (set_grown ..) (by intro j hj; cases hj; omega), grown_over h.2 (set_grown ..) (by intro j hj; cases hj; omega)⟩

theorem smallM (g : Nat) (w : World) (h : Cur w g) :
    Calls Try.prog 24 #[.pointer (some ⟨g, 0, none⟩)] w fun e w' => ∃ v, e = .returned (.int .i64 v) ∧ Drawn w w' g := by
  go_enter Try.func24, Try.ntmps24
  go_wp2_with fail
  refine (anyM g _ h).mono ?_
  rintro e w1 ⟨v, rfl, hv, hd1⟩
  clear h
  go_wp2_with fail
  refine (specWrapM v _).mono ?_
  rintro e w2 ⟨rfl, rfl⟩
  go_wp2
  go_ret
  exact ⟨_, rfl, hd1⟩

set_option maxRecDepth 100000 in
theorem l2intM (n : Int) (w : World) :
    Calls Try.prog 17 #[.int .i64 n] w fun e w' => e = .returned (.agg #[.bool false, .int .i64 n, .int .i64 0, .int .i64 0, .int .i64 0, .int .i64 0, .int .i64 0]) ∧ ∃ o, w' = w.alloc o := by
  go_enter Try.func17, Try.ntmps17
  go_wp2
  refine bodyPost_ret (v := .agg #[.bool false, .int .i64 n, .int .i64 0, .int .i64 0, .int .i64 0, .int .i64 0, .int .i64 0]) (by simp [results, Try.results17, go_sem]) rfl ⟨rfl, _, rfl⟩

set_option maxRecDepth 100000 in
set_option maxHeartbeats 4000000 in
theorem l2wordM (g : Nat) (w : World) (h : Cur w g) :
    Calls Try.prog 15 #[.pointer (some ⟨g, 0, none⟩)] w fun e w' => ∃ xt xn xl xh xa xp xs, e = .returned (.agg #[.bool xt, .int .i64 xn, .int .i64 xl, .int .i64 xh, .int .i64 xa, .int .i64 xp, .int .i64 xs]) ∧ Drawn w w' g := by
  have hgl := h.lt
  have hgk : g ≠ w.heap.size := by omega
  go_enter Try.func15, Try.ntmps15
  go_wp2_with fail
  have hd0 : Drawn w (w.alloc (.cells #[.bool false, .int .i64 0, .int .i64 0, .int .i64 0, .int .i64 0, .int .i64 0, .int .i64 0] 29)) g := h.start _
  refine (belowM g _ _ hd0.1 (by omega)).mono ?_
  rintro e w1 ⟨x, rfl, hx0, hx1, _, hd1⟩
  have hb1 := (hd1.block (by simp) hgk).trans (heap_alloc_new w _)
  replace hd1 := hd0.trans hd1
  clear hd0 h
  by_cases hx : x = 0
  · subst hx
    go_wp2_with fail
    refine (smallM g _ hd1.1).mono ?_
    rintro e w2 ⟨n, rfl, hd2⟩
    have hk2 : w.heap.size < w1.heap.size := (Array.getElem?_eq_some_iff.1 hb1).1
    have hb2 := (hd2.block hk2 hgk).trans hb1
    replace hd2 := hd1.trans hd2
    clear hd1 hb1
    go_wp2_with fail
    refine (l2intM n _).mono ?_
    rintro e w3 ⟨rfl, o, rfl⟩
    have hk3 : w.heap.size < w2.heap.size := (Array.getElem?_eq_some_iff.1 hb2).1
    have hd3 := hd2.alloc o
    have hb3 : (w2.alloc o).heap[w.heap.size]? = _ := (((Below.refl w2.heap.size w2).alloc (Nat.le_refl _) o).block _ hk3).trans hb2
    generalize w2.alloc o = w3 at *
    obtain ⟨c0, c1, c2, c3, c4, c5, c6, f0, f1, f2, f3, f4, f5, f6⟩ := row_facts hb3
    clear hd2 hb2
    go_wp2_with fail
    obtain ⟨hbW, hdW⟩ := put7_done (.bool false) (.int .i64 n) (.int .i64 0) (.int .i64 0) (.int .i64 0) (.int .i64 0) (.int .i64 0) hd3 hgl (Nat.le_refl _) hb3
    show bodyPost _ _ _ _ _ (put7 w3 w.heap.size (.bool false) (.int .i64 n) (.int .i64 0) (.int .i64 0) (.int .i64 0) (.int .i64 0) (.int .i64 0))
    generalize put7 w3 w.heap.size (.bool false) (.int .i64 n) (.int .i64 0) (.int .i64 0) (.int .i64 0) (.int .i64 0) (.int .i64 0) = W at *
    obtain ⟨d0, d1, d2, d3, d4, d5, d6, _⟩ := row_facts hbW
    refine bodyPost_ret (v := .agg #[.bool false, .int .i64 n, .int .i64 0, .int .i64 0, .int .i64 0, .int .i64 0, .int .i64 0]) (by simp [results, Try.results15, go_sem, d0, d1, d2, d3, d4, d5, d6]) rfl ⟨_, _, _, _, _, _, _, rfl, hdW⟩
  · by_cases hy : x = 1
    · subst hy
      clear hx
      have hk1 : w.heap.size < w1.heap.size := (Array.getElem?_eq_some_iff.1 hb1).1
      go_wp2_with fail
      refine (belowM g _ _ hd1.1 (by omega)).mono ?_
      rintro e w2 ⟨m, rfl, _, _, _, hd2⟩
      have hb2 := (hd2.block hk1 hgk).trans hb1
      have hk2 : w.heap.size < w2.heap.size := (Array.getElem?_eq_some_iff.1 hb2).1
      replace hd2 := hd1.trans hd2
      clear hd1 hb1 hk1
      go_wp2_with fail
      refine (belowM g _ _ hd2.1 (by omega)).mono ?_
      rintro e w3 ⟨a, rfl, _, _, _, hd3⟩
      have hb3 := (hd3.block hk2 hgk).trans hb2
      have hk3 : w.heap.size < w3.heap.size := (Array.getElem?_eq_some_iff.1 hb3).1
      replace hd3 := hd2.trans hd3
      clear hd2 hb2 hk2
      go_wp2_with fail
      refine (specEntryM m a _).mono ?_
      rintro e w4 ⟨rfl, hbe⟩
      have hb4 := (hbe.block _ hk3).trans hb3
      have hd4 := hd3.below hbe
      have hk4 : w.heap.size < w4.heap.size := (Array.getElem?_eq_some_iff.1 hb4).1
      clear hd3 hb3 hk3 hbe
      obtain ⟨c0, c1, c2, c3, c4, c5, c6, f0, f1, f2, f3, f4, f5, f6⟩ := row_facts hb4
      have hne : w.heap.size ≠ w4.heap.size := by omega
      go_wp2_with fail
      obtain ⟨hbW, hdW⟩ := put7_done (.bool (entB m a)) (.int .i64 0) (.int .i64 0) (.int .i64 0) (.int .i64 (sel (entB m a) a)) (.int .i64 (sel (entB m a) 16)) (.int .i64 (sel (entB m a) (m + 1))) hd4 hgl (Nat.le_refl _) hb4
      replace hbW := (((Below.refl (put7 w4 w.heap.size (.bool (entB m a)) (.int .i64 0) (.int .i64 0) (.int .i64 0) (.int .i64 (sel (entB m a) a)) (.int .i64 (sel (entB m a) 16)) (.int .i64 (sel (entB m a) (m + 1)))).heap.size (put7 w4 w.heap.size (.bool (entB m a)) (.int .i64 0) (.int .i64 0) (.int .i64 0) (.int .i64 (sel (entB m a) a)) (.int .i64 (sel (entB m a) 16)) (.int .i64 (sel (entB m a) (m + 1))))).alloc (Nat.le_refl _) (.cells #[.bool (entB m a), .int .i64 0, .int .i64 0, .int .i64 0, .int .i64 (sel (entB m a) a), .int .i64 (sel (entB m a) 16), .int .i64 (sel (entB m a) (m + 1))] 29)).block _ (Array.getElem?_eq_some_iff.1 hbW).1).trans hbW
      replace hdW := hdW.alloc (.cells #[.bool (entB m a), .int .i64 0, .int .i64 0, .int .i64 0, .int .i64 (sel (entB m a) a), .int .i64 (sel (entB m a) 16), .int .i64 (sel (entB m a) (m + 1))] 29)
      show bodyPost _ _ _ _ _ ((put7 w4 w.heap.size (.bool (entB m a)) (.int .i64 0) (.int .i64 0) (.int .i64 0) (.int .i64 (sel (entB m a) a)) (.int .i64 (sel (entB m a) 16)) (.int .i64 (sel (entB m a) (m + 1)))).alloc (.cells #[.bool (entB m a), .int .i64 0, .int .i64 0, .int .i64 0, .int .i64 (sel (entB m a) a), .int .i64 (sel (entB m a) 16), .int .i64 (sel (entB m a) (m + 1))] 29))
      generalize (put7 w4 w.heap.size (.bool (entB m a)) (.int .i64 0) (.int .i64 0) (.int .i64 0) (.int .i64 (sel (entB m a) a)) (.int .i64 (sel (entB m a) 16)) (.int .i64 (sel (entB m a) (m + 1)))).alloc (.cells #[.bool (entB m a), .int .i64 0, .int .i64 0, .int .i64 0, .int .i64 (sel (entB m a) a), .int .i64 (sel (entB m a) 16), .int .i64 (sel (entB m a) (m + 1))] 29) = W at hbW hdW ⊢
      obtain ⟨d0, d1, d2, d3, d4, d5, d6, _⟩ := row_facts hbW
      refine bodyPost_ret (v := .agg #[.bool (entB m a), .int .i64 0, .int .i64 0, .int .i64 0, .int .i64 (sel (entB m a) a), .int .i64 (sel (entB m a) 16), .int .i64 (sel (entB m a) (m + 1))]) (by simp [results, Try.results15, go_sem, d0, d1, d2, d3, d4, d5, d6]) rfl ⟨_, _, _, _, _, _, _, rfl, hdW⟩
    · have hx' : (x == 0) = false := by simpa using hx
      have hy' : (x == 1) = false := by simpa using hy
      clear hx hy
      have hk1 : w.heap.size < w1.heap.size := (Array.getElem?_eq_some_iff.1 hb1).1
      go_wp2_with fail
      refine (belowM g _ _ hd1.1 (by omega)).mono ?_
      rintro e w2 ⟨l, rfl, q2, r2, _, hd2⟩
      replace r2 := r2 (by omega)
      have hb2 := (hd2.block hk1 hgk).trans hb1
      have hk2 : w.heap.size < w2.heap.size := (Array.getElem?_eq_some_iff.1 hb2).1
      replace hd2 := hd1.trans hd2
      clear hd1 hb1 hk1
      go_wp2_with fail
      refine (belowM g _ _ hd2.1 (by omega)).mono ?_
      rintro e w3 ⟨hh, rfl, q3, r3, _, hd3⟩
      replace r3 := r3 (by omega)
      have hb3 := (hd3.block hk2 hgk).trans hb2
      have hk3 : w.heap.size < w3.heap.size := (Array.getElem?_eq_some_iff.1 hb3).1
      replace hd3 := hd2.trans hd3
      clear hd2 hb2 hk2
      go_wp2_with fail
      refine (belowM g _ _ hd3.1 (by omega)).mono ?_
      rintro e w4 ⟨aa, rfl, q4, r4, _, hd4⟩
      replace r4 := r4 (by omega)
      have hb4 := (hd4.block hk3 hgk).trans hb3
      have hk4 : w.heap.size < w4.heap.size := (Array.getElem?_eq_some_iff.1 hb4).1
      replace hd4 := hd3.trans hd4
      clear hd3 hb3 hk3
      go_wp2_with fail
      refine (belowM g _ _ hd4.1 (by omega)).mono ?_
      rintro e w5 ⟨pp, rfl, q5, r5, _, hd5⟩
      replace r5 := r5 (by omega)
      have hb5 := (hd5.block hk4 hgk).trans hb4
      have hk5 : w.heap.size < w5.heap.size := (Array.getElem?_eq_some_iff.1 hb5).1
      replace hd5 := hd4.trans hd5
      clear hd4 hb4 hk4
      obtain ⟨c0, c1, c2, c3, c4, c5, c6, f0, f1, f2, f3, f4, f5, f6⟩ := row_facts hb5
      have hne : w.heap.size ≠ w5.heap.size := by omega
      go_wp2_with fail
      obtain ⟨hbW, hdW⟩ := put7_done (.bool true) (.int .i64 0) (.int .i64 l) (.int .i64 (l + hh)) (.int .i64 (aa - 5)) (.int .i64 pp) (.int .i64 0) hd5 hgl (Nat.le_refl _) hb5
      replace hbW := (((Below.refl (put7 w5 w.heap.size (.bool true) (.int .i64 0) (.int .i64 l) (.int .i64 (l + hh)) (.int .i64 (aa - 5)) (.int .i64 pp) (.int .i64 0)).heap.size (put7 w5 w.heap.size (.bool true) (.int .i64 0) (.int .i64 l) (.int .i64 (l + hh)) (.int .i64 (aa - 5)) (.int .i64 pp) (.int .i64 0))).alloc (Nat.le_refl _) (.cells #[.bool true, .int .i64 0, .int .i64 l, .int .i64 (l + hh), .int .i64 (aa - 5), .int .i64 pp, .int .i64 0] 29)).block _ (Array.getElem?_eq_some_iff.1 hbW).1).trans hbW
      replace hdW := hdW.alloc (.cells #[.bool true, .int .i64 0, .int .i64 l, .int .i64 (l + hh), .int .i64 (aa - 5), .int .i64 pp, .int .i64 0] 29)
      show bodyPost _ _ _ _ _ ((put7 w5 w.heap.size (.bool true) (.int .i64 0) (.int .i64 l) (.int .i64 (l + hh)) (.int .i64 (aa - 5)) (.int .i64 pp) (.int .i64 0)).alloc (.cells #[.bool true, .int .i64 0, .int .i64 l, .int .i64 (l + hh), .int .i64 (aa - 5), .int .i64 pp, .int .i64 0] 29))
      generalize (put7 w5 w.heap.size (.bool true) (.int .i64 0) (.int .i64 l) (.int .i64 (l + hh)) (.int .i64 (aa - 5)) (.int .i64 pp) (.int .i64 0)).alloc (.cells #[.bool true, .int .i64 0, .int .i64 l, .int .i64 (l + hh), .int .i64 (aa - 5), .int .i64 pp, .int .i64 0] 29) = W at hbW hdW ⊢
      obtain ⟨d0, d1, d2, d3, d4, d5, d6, _⟩ := row_facts hbW
      refine bodyPost_ret (v := .agg #[.bool true, .int .i64 0, .int .i64 l, .int .i64 (l + hh), .int .i64 (aa - 5), .int .i64 pp, .int .i64 0]) (by simp [results, Try.results15, go_sem, d0, d1, d2, d3, d4, d5, d6]) rfl ⟨_, _, _, _, _, _, _, rfl, hdW⟩

set_option maxRecDepth 100000 in
set_option maxHeartbeats 4000000 in
theorem l2bentM (g : Nat) (w : World) (h : Cur w g) :
    Calls Try.prog 19 #[.pointer (some ⟨g, 0, none⟩)] w fun e w' => ∃ xt xn xl xh xa xp xs, e = .returned (.agg #[.bool xt, .int .i64 xn, .int .i64 xl, .int .i64 xh, .int .i64 xa, .int .i64 xp, .int .i64 xs]) ∧ Drawn w w' g := by
  have hgl := h.lt
  have hgk : g ≠ w.heap.size := by omega
  go_enter Try.func19, Try.ntmps19
  go_wp2_with fail
  have hd0 : Drawn w (w.alloc (.cells #[.bool false, .int .i64 0, .int .i64 0, .int .i64 0, .int .i64 0, .int .i64 0, .int .i64 0] 29)) g := h.start _
  refine (l2wordM g _ hd0.1).mono ?_
  rintro e w1 ⟨xt, xn, xl, xh, xa, xp, xs, rfl, hd1⟩
  have hb1 := (hd1.block (by simp) hgk).trans (heap_alloc_new w _)
  have hk1 : w.heap.size < w1.heap.size := (Array.getElem?_eq_some_iff.1 hb1).1
  replace hd1 := hd0.trans hd1
  clear hd0 h
  -- the word itself lies in a block of its own
  have hd1' := hd1.alloc (.cells #[.bool xt, .int .i64 xn, .int .i64 xl, .int .i64 xh, .int .i64 xa, .int .i64 xp, .int .i64 xs] 29)
  have hb1' := (((Below.refl w1.heap.size w1).alloc (Nat.le_refl _) (.cells #[.bool xt, .int .i64 xn, .int .i64 xl, .int .i64 xh, .int .i64 xa, .int .i64 xp, .int .i64 xs] 29)).block _ hk1).trans hb1
  have he1' := heap_alloc_new w1 (.cells #[.bool xt, .int .i64 xn, .int .i64 xl, .int .i64 xh, .int .i64 xa, .int .i64 xp, .int .i64 xs] 29)
  go_wp2_with fail
  obtain ⟨k, hk⟩ : ∃ k, k = w1.heap.size := ⟨_, rfl⟩
  rw [← hk] at he1' ⊢
  have hgk2 : g ≠ k := by omega
  have hwk : w.heap.size < k := by omega
  generalize w1.alloc (.cells #[.bool xt, .int .i64 xn, .int .i64 xl, .int .i64 xh, .int .i64 xa, .int .i64 xp, .int .i64 xs] 29) = w2 at *
  clear hd1 hb1 hk1 hk
  have hk2 : k < w2.heap.size := (Array.getElem?_eq_some_iff.1 he1').1
  refine (onceM g _ _ hd1'.1 (by omega)).mono ?_
  rintro e w3 ⟨b, rfl, hd3⟩
  have hb3 := (hd3.block (by omega) hgk).trans hb1'
  have he3 := (hd3.block hk2 hgk2).trans he1'
  have hk3 : k < w3.heap.size := (Array.getElem?_eq_some_iff.1 he3).1
  replace hd3 := hd1'.trans hd3
  clear hd1' hb1' he1' hk2
  cases b
  · obtain ⟨c0, c1, c2, c3, c4, c5, c6, f0, f1, f2, f3, f4, f5, f6⟩ := row_facts hb3
    obtain ⟨a0, a1, a2, a3, a4, a5, a6, _⟩ := row_facts he3
    go_wp2_with fail
    obtain ⟨hbW, hdW⟩ := put7_done (.bool xt) (.int .i64 xn) (.int .i64 xl) (.int .i64 xh) (.int .i64 xa) (.int .i64 xp) (.int .i64 xs) hd3 hgl (Nat.le_refl _) hb3
    show bodyPost _ _ _ _ _ (put7 w3 w.heap.size (.bool xt) (.int .i64 xn) (.int .i64 xl) (.int .i64 xh) (.int .i64 xa) (.int .i64 xp) (.int .i64 xs))
    generalize put7 w3 w.heap.size (.bool xt) (.int .i64 xn) (.int .i64 xl) (.int .i64 xh) (.int .i64 xa) (.int .i64 xp) (.int .i64 xs) = W at hbW hdW ⊢
    obtain ⟨d0, d1, d2, d3, d4, d5, d6, _⟩ := row_facts hbW
    refine bodyPost_ret (v := .agg #[.bool xt, .int .i64 xn, .int .i64 xl, .int .i64 xh, .int .i64 xa, .int .i64 xp, .int .i64 xs]) (by simp [results, Try.results19, go_sem, d0, d1, d2, d3, d4, d5, d6]) rfl ⟨_, _, _, _, _, _, _, rfl, hdW⟩
  · go_wp2_with fail
    refine (pickM g w3.heap.size 7 7 _ (hd3.1.alloc _) hd3.1.lt (by omega) (by omega) (ints_block w3 [-1, 2147483648, 9223372036854775807, -9223372036854775808, 4001, 32, 9] (inInt_all _ (by decide)))).mono ?_
    rintro e w4 ⟨v, rfl, hv, hd4⟩
    have hb4 := (hd4.block (by simp; omega) hgk).trans ((alloc_block (by omega)).trans hb3)
    have he4 := (hd4.block (by simp; omega) hgk2).trans ((alloc_block hk3).trans he3)
    have hk4 : k < w4.heap.size := (Array.getElem?_eq_some_iff.1 he4).1
    replace hd4 := (hd3.alloc _).trans hd4
    clear hd3 hb3 he3 hk3
    go_wp2_with fail
    refine (belowM g _ _ hd4.1 (by omega)).mono ?_
    rintro e w5 ⟨z, rfl, hz0, hz1, _, hd5⟩
    replace hz1 := hz1 (by omega)
    have hb5 := (hd5.block (by omega) hgk).trans hb4
    have he5 := (hd5.block hk4 hgk2).trans he4
    replace hd5 := hd4.trans hd5
    clear hd4 hb4 he4 hk4
    obtain ⟨c0, c1, c2, c3, c4, c5, c6, f0, f1, f2, f3, f4, f5, f6⟩ := row_facts hb5
    obtain ⟨a0, a1, a2, a3, a4, a5, a6, q0, q1, q2, q3, q4, q5, q6⟩ := row_facts he5
    have hne : w.heap.size ≠ k := by omega
    by_cases hz0 : z = 0
    · subst hz0
      have hd6 := hd5.set hgl (Nat.le_of_lt hwk) 1 (.int .i64 v)
      have hb6 := (heap_setCell_other w5 ⟨k, 1, none⟩ w.heap.size (.int .i64 v) (by simp; omega)).trans hb5
      go_wp2_with fail
      obtain ⟨hbW, hdW⟩ := put7_done (.bool xt) (.int .i64 v) (.int .i64 xl) (.int .i64 xh) (.int .i64 xa) (.int .i64 xp) (.int .i64 xs) hd6 hgl (Nat.le_refl _) hb6
      show bodyPost _ _ _ _ _ (put7 (w5.setCell ⟨k, 1, none⟩ (.int .i64 v)) w.heap.size (.bool xt) (.int .i64 v) (.int .i64 xl) (.int .i64 xh) (.int .i64 xa) (.int .i64 xp) (.int .i64 xs))
      generalize put7 (w5.setCell ⟨k, 1, none⟩ (.int .i64 v)) w.heap.size (.bool xt) (.int .i64 v) (.int .i64 xl) (.int .i64 xh) (.int .i64 xa) (.int .i64 xp) (.int .i64 xs) = W at hbW hdW ⊢
      obtain ⟨d0, d1, d2, d3, d4, d5, d6, _⟩ := row_facts hbW
      refine bodyPost_ret (v := .agg #[.bool xt, .int .i64 v, .int .i64 xl, .int .i64 xh, .int .i64 xa, .int .i64 xp, .int .i64 xs]) (by simp [results, Try.results19, go_sem, d0, d1, d2, d3, d4, d5, d6]) rfl ⟨_, _, _, _, _, _, _, rfl, hdW⟩
    by_cases hz1 : z = 1
    · subst hz1
      have hd6 := hd5.set hgl (Nat.le_of_lt hwk) 2 (.int .i64 v)
      have hb6 := (heap_setCell_other w5 ⟨k, 2, none⟩ w.heap.size (.int .i64 v) (by simp; omega)).trans hb5
      go_wp2_with fail
      obtain ⟨hbW, hdW⟩ := put7_done (.bool xt) (.int .i64 xn) (.int .i64 v) (.int .i64 xh) (.int .i64 xa) (.int .i64 xp) (.int .i64 xs) hd6 hgl (Nat.le_refl _) hb6
      show bodyPost _ _ _ _ _ (put7 (w5.setCell ⟨k, 2, none⟩ (.int .i64 v)) w.heap.size (.bool xt) (.int .i64 xn) (.int .i64 v) (.int .i64 xh) (.int .i64 xa) (.int .i64 xp) (.int .i64 xs))
      generalize put7 (w5.setCell ⟨k, 2, none⟩ (.int .i64 v)) w.heap.size (.bool xt) (.int .i64 xn) (.int .i64 v) (.int .i64 xh) (.int .i64 xa) (.int .i64 xp) (.int .i64 xs) = W at hbW hdW ⊢
      obtain ⟨d0, d1, d2, d3, d4, d5, d6, _⟩ := row_facts hbW
      refine bodyPost_ret (v := .agg #[.bool xt, .int .i64 xn, .int .i64 v, .int .i64 xh, .int .i64 xa, .int .i64 xp, .int .i64 xs]) (by simp [results, Try.results19, go_sem, d0, d1, d2, d3, d4, d5, d6]) rfl ⟨_, _, _, _, _, _, _, rfl, hdW⟩
    by_cases hz2 : z = 2
    · subst hz2
      have hd6 := hd5.set hgl (Nat.le_of_lt hwk) 3 (.int .i64 v)
      have hb6 := (heap_setCell_other w5 ⟨k, 3, none⟩ w.heap.size (.int .i64 v) (by simp; omega)).trans hb5
      go_wp2_with fail
      obtain ⟨hbW, hdW⟩ := put7_done (.bool xt) (.int .i64 xn) (.int .i64 xl) (.int .i64 v) (.int .i64 xa) (.int .i64 xp) (.int .i64 xs) hd6 hgl (Nat.le_refl _) hb6
      show bodyPost _ _ _ _ _ (put7 (w5.setCell ⟨k, 3, none⟩ (.int .i64 v)) w.heap.size (.bool xt) (.int .i64 xn) (.int .i64 xl) (.int .i64 v) (.int .i64 xa) (.int .i64 xp) (.int .i64 xs))
      generalize put7 (w5.setCell ⟨k, 3, none⟩ (.int .i64 v)) w.heap.size (.bool xt) (.int .i64 xn) (.int .i64 xl) (.int .i64 v) (.int .i64 xa) (.int .i64 xp) (.int .i64 xs) = W at hbW hdW ⊢
      obtain ⟨d0, d1, d2, d3, d4, d5, d6, _⟩ := row_facts hbW
      refine bodyPost_ret (v := .agg #[.bool xt, .int .i64 xn, .int .i64 xl, .int .i64 v, .int .i64 xa, .int .i64 xp, .int .i64 xs]) (by simp [results, Try.results19, go_sem, d0, d1, d2, d3, d4, d5, d6]) rfl ⟨_, _, _, _, _, _, _, rfl, hdW⟩
    by_cases hz3 : z = 3
    · subst hz3
      have hd6 := hd5.set hgl (Nat.le_of_lt hwk) 4 (.int .i64 v)
      have hb6 := (heap_setCell_other w5 ⟨k, 4, none⟩ w.heap.size (.int .i64 v) (by simp; omega)).trans hb5
      go_wp2_with fail
      obtain ⟨hbW, hdW⟩ := put7_done (.bool xt) (.int .i64 xn) (.int .i64 xl) (.int .i64 xh) (.int .i64 v) (.int .i64 xp) (.int .i64 xs) hd6 hgl (Nat.le_refl _) hb6
      show bodyPost _ _ _ _ _ (put7 (w5.setCell ⟨k, 4, none⟩ (.int .i64 v)) w.heap.size (.bool xt) (.int .i64 xn) (.int .i64 xl) (.int .i64 xh) (.int .i64 v) (.int .i64 xp) (.int .i64 xs))
      generalize put7 (w5.setCell ⟨k, 4, none⟩ (.int .i64 v)) w.heap.size (.bool xt) (.int .i64 xn) (.int .i64 xl) (.int .i64 xh) (.int .i64 v) (.int .i64 xp) (.int .i64 xs) = W at hbW hdW ⊢
      obtain ⟨d0, d1, d2, d3, d4, d5, d6, _⟩ := row_facts hbW
      refine bodyPost_ret (v := .agg #[.bool xt, .int .i64 xn, .int .i64 xl, .int .i64 xh, .int .i64 v, .int .i64 xp, .int .i64 xs]) (by simp [results, Try.results19, go_sem, d0, d1, d2, d3, d4, d5, d6]) rfl ⟨_, _, _, _, _, _, _, rfl, hdW⟩
    by_cases hz4 : z = 4
    · subst hz4
      have hd6 := hd5.set hgl (Nat.le_of_lt hwk) 5 (.int .i64 v)
      have hb6 := (heap_setCell_other w5 ⟨k, 5, none⟩ w.heap.size (.int .i64 v) (by simp; omega)).trans hb5
      go_wp2_with fail
      obtain ⟨hbW, hdW⟩ := put7_done (.bool xt) (.int .i64 xn) (.int .i64 xl) (.int .i64 xh) (.int .i64 xa) (.int .i64 v) (.int .i64 xs) hd6 hgl (Nat.le_refl _) hb6
      show bodyPost _ _ _ _ _ (put7 (w5.setCell ⟨k, 5, none⟩ (.int .i64 v)) w.heap.size (.bool xt) (.int .i64 xn) (.int .i64 xl) (.int .i64 xh) (.int .i64 xa) (.int .i64 v) (.int .i64 xs))
      generalize put7 (w5.setCell ⟨k, 5, none⟩ (.int .i64 v)) w.heap.size (.bool xt) (.int .i64 xn) (.int .i64 xl) (.int .i64 xh) (.int .i64 xa) (.int .i64 v) (.int .i64 xs) = W at hbW hdW ⊢
      obtain ⟨d0, d1, d2, d3, d4, d5, d6, _⟩ := row_facts hbW
      refine bodyPost_ret (v := .agg #[.bool xt, .int .i64 xn, .int .i64 xl, .int .i64 xh, .int .i64 xa, .int .i64 v, .int .i64 xs]) (by simp [results, Try.results19, go_sem, d0, d1, d2, d3, d4, d5, d6]) rfl ⟨_, _, _, _, _, _, _, rfl, hdW⟩
    ·
      have g0 : (z == 0) = false := by simpa using hz0
      have g1 : (z == 1) = false := by simpa using hz1
      have g2 : (z == 2) = false := by simpa using hz2
      have g3 : (z == 3) = false := by simpa using hz3
      have g4 : (z == 4) = false := by simpa using hz4
      have hd6 := hd5.set hgl (Nat.le_of_lt hwk) 6 (.int .i64 v)
      have hb6 := (heap_setCell_other w5 ⟨k, 6, none⟩ w.heap.size (.int .i64 v) (by simp; omega)).trans hb5
      go_wp2_with fail
      obtain ⟨hbW, hdW⟩ := put7_done (.bool xt) (.int .i64 xn) (.int .i64 xl) (.int .i64 xh) (.int .i64 xa) (.int .i64 xp) (.int .i64 v) hd6 hgl (Nat.le_refl _) hb6
      show bodyPost _ _ _ _ _ (put7 (w5.setCell ⟨k, 6, none⟩ (.int .i64 v)) w.heap.size (.bool xt) (.int .i64 xn) (.int .i64 xl) (.int .i64 xh) (.int .i64 xa) (.int .i64 xp) (.int .i64 v))
      generalize put7 (w5.setCell ⟨k, 6, none⟩ (.int .i64 v)) w.heap.size (.bool xt) (.int .i64 xn) (.int .i64 xl) (.int .i64 xh) (.int .i64 xa) (.int .i64 xp) (.int .i64 v) = W at hbW hdW ⊢
      obtain ⟨d0, d1, d2, d3, d4, d5, d6, _⟩ := row_facts hbW
      refine bodyPost_ret (v := .agg #[.bool xt, .int .i64 xn, .int .i64 xl, .int .i64 xh, .int .i64 xa, .int .i64 xp, .int .i64 v]) (by simp [results, Try.results19, go_sem, d0, d1, d2, d3, d4, d5, d6]) rfl ⟨_, _, _, _, _, _, _, rfl, hdW⟩
end Go.Proofs.Ytjojildjnafgiaa

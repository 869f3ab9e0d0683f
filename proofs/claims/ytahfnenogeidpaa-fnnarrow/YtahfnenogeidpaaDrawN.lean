/- The drawn arguments of Narrow: some word and three ints. -/
import Derived.Test.YtahfnenogeidpaaDrawW
namespace Go.Proofs.Ytahfnenogeidpaa
open Go.RowKit
set_option linter.unusedVariables false

theorem seven_of {w w' : World} {k : Nat} (xt : Bool) (xn xl xh xa xp xs : Int) (h : w'.heap[k]? = w.heap[k]?) (hs : w.cell? ⟨k, 0, none⟩ = some (.bool xt) ∧ w.cell? ⟨k, 1, none⟩ = some (.int .i64 xn) ∧ w.cell? ⟨k, 2, none⟩ = some (.int .i64 xl) ∧ w.cell? ⟨k, 3, none⟩ = some (.int .i64 xh) ∧ w.cell? ⟨k, 4, none⟩ = some (.int .i64 xa) ∧ w.cell? ⟨k, 5, none⟩ = some (.int .i64 xp) ∧ w.cell? ⟨k, 6, none⟩ = some (.int .i64 xs)) : w'.cell? ⟨k, 0, none⟩ = some (.bool xt) ∧ w'.cell? ⟨k, 1, none⟩ = some (.int .i64 xn) ∧ w'.cell? ⟨k, 2, none⟩ = some (.int .i64 xl) ∧ w'.cell? ⟨k, 3, none⟩ = some (.int .i64 xh) ∧ w'.cell? ⟨k, 4, none⟩ = some (.int .i64 xa) ∧ w'.cell? ⟨k, 5, none⟩ = some (.int .i64 xp) ∧ w'.cell? ⟨k, 6, none⟩ = some (.int .i64 xs) := by
  have e : ∀ i, w'.cell? ⟨k, i, none⟩ = w.cell? ⟨k, i, none⟩ := fun i => World.cell?_of_block (w := w) h
  rw [e, e, e, e, e, e, e]; exact hs

theorem seven_first {p0 p1 p2 p3 p4 p5 p6 q : Prop} (h : p0 ∧ p1 ∧ p2 ∧ p3 ∧ p4 ∧ p5 ∧ p6 ∧ q) : p0 ∧ p1 ∧ p2 ∧ p3 ∧ p4 ∧ p5 ∧ p6 := ⟨h.1, h.2.1, h.2.2.1, h.2.2.2.1, h.2.2.2.2.1, h.2.2.2.2.2.1, h.2.2.2.2.2.2.1⟩

theorem put7_other {w : World} {j k : Nat} (v0 v1 v2 v3 v4 v5 v6 : Value) (h : k ≠ j) : (((((((w.setCell ⟨j, 0, none⟩ v0).setCell ⟨j, 1, none⟩ v1).setCell ⟨j, 2, none⟩ v2).setCell ⟨j, 3, none⟩ v3).setCell ⟨j, 4, none⟩ v4).setCell ⟨j, 5, none⟩ v5).setCell ⟨j, 6, none⟩ v6).heap[k]? = w.heap[k]? := by
  by_cases hk : k < w.heap.size
  · exact (put7_grown w j v0 v1 v2 v3 v4 v5 v6).block k hk (by simpa using h)
  · have hs : (((((((w.setCell ⟨j, 0, none⟩ v0).setCell ⟨j, 1, none⟩ v1).setCell ⟨j, 2, none⟩ v2).setCell ⟨j, 3, none⟩ v3).setCell ⟨j, 4, none⟩ v4).setCell ⟨j, 5, none⟩ v5).setCell ⟨j, 6, none⟩ v6).heap.size = w.heap.size := by simp
    rw [Array.getElem?_eq_none (by omega), Array.getElem?_eq_none (by omega)]

theorem six_in (v : Int) (hv : InInt v) : ∀ x ∈ [31, 3, 15, 0, -1, v], InInt x := by
  intro x hx
  simp only [List.mem_cons, List.not_mem_nil, or_false] at hx
  rcases hx with rfl | rfl | rfl | rfl | rfl | rfl
  all_goals first | exact hv | exact ⟨by decide, by decide⟩

set_option maxRecDepth 100000 in
set_option maxHeartbeats 4000000 in
theorem drawNarrowM (a : Option Addr) (n c : Nat) (l : List Int) (w : World) (h : BRow w a n l) (hn : n ≤ 9223372036854775807) :
    Calls Try.prog 9 #[.slice a n c] w fun e w' => ∃ xt xn xl xh xa xp xs lo hi p, e = .returned (.tuple #[.agg #[.bool xt, .int .i64 xn, .int .i64 xl, .int .i64 xh, .int .i64 xa, .int .i64 xp, .int .i64 xs], .int .i64 lo, .int .i64 hi, .int .i64 p]) ∧ Below w.heap.size w w' := by
  go_enter Try.func9, Try.ntmps9
  go_wp2_with fail
  have hB0 : Below w.heap.size w (w.alloc (.cells #[.bool false, .int .i64 0, .int .i64 0, .int .i64 0, .int .i64 0, .int .i64 0, .int .i64 0] 24)) := (Below.refl _ _).alloc (Nat.le_refl _) _
  have hz0 := heap_alloc_new w (.cells #[.bool false, .int .i64 0, .int .i64 0, .int .i64 0, .int .i64 0, .int .i64 0, .int .i64 0] 24)
  refine (newM a n c l _ (h.below hB0) hn).mono ?_
  rintro e w1 ⟨g, rfl, hg, hC1, hb1⟩
  have hz1 := (hb1.block _ (by simp)).trans hz0
  have hB1 : Below w.heap.size w w1 := hB0.trans (hb1.mono (by simp))
  have hs1 : w.heap.size < w1.heap.size := (Array.getElem?_eq_some_iff.1 hz1).1
  have hgw : w.heap.size < g := by simp at hg; omega
  clear hB0 hz0 hb1 hg h
  have hgm : g ≠ w.heap.size := by omega
  go_wp2_with fail
  refine (l2bentM g _ hC1).mono ?_
  rintro e w2 ⟨xt, xn, xl, xh, xa, xp, xs, rfl, hd2⟩
  have hgl := hC1.lt
  have hz2 := (hd2.block hs1 (by omega)).trans hz1
  have hs2 : w.heap.size < w2.heap.size := (Array.getElem?_eq_some_iff.1 hz2).1
  have hB2 := Below.drawn hB1 hd2.2 hB1.size (by omega)
  have hgs := hd2.2.size
  have hd3 := hd2.alloc (.cells #[.bool xt, .int .i64 xn, .int .i64 xl, .int .i64 xh, .int .i64 xa, .int .i64 xp, .int .i64 xs] 24)
  have hz3 := (alloc_block (o := .cells #[.bool xt, .int .i64 xn, .int .i64 xl, .int .i64 xh, .int .i64 xa, .int .i64 xp, .int .i64 xs] 24) hs2).trans hz2
  have hx3 := heap_alloc_new w2 (.cells #[.bool xt, .int .i64 xn, .int .i64 xl, .int .i64 xh, .int .i64 xa, .int .i64 xp, .int .i64 xs] 24)
  have hB3 := hB2.alloc hB2.size (.cells #[.bool xt, .int .i64 xn, .int .i64 xl, .int .i64 xh, .int .i64 xa, .int .i64 xp, .int .i64 xs] 24)
  go_wp2_with fail
  obtain ⟨k, hk⟩ : ∃ k, k = w2.heap.size := ⟨_, rfl⟩
  rw [← hk] at hx3 ⊢
  have hgk : g ≠ k := by omega
  have hmk : w.heap.size ≠ k := by omega
  have hwk : w.heap.size < k := by omega
  have hC3 := hd3.1
  generalize w2.alloc (.cells #[.bool xt, .int .i64 xn, .int .i64 xl, .int .i64 xh, .int .i64 xa, .int .i64 xp, .int .i64 xs] 24) = w3 at *
  clear hd2 hd3 hz1 hz2 hB1 hB2 hC1 hk hs1 hs2 hgs
  have hk3 : k < w3.heap.size := (Array.getElem?_eq_some_iff.1 hx3).1
  have hm3 : w.heap.size < w3.heap.size := (Array.getElem?_eq_some_iff.1 hz3).1
  obtain ⟨a0, a1, a2, a3, a4, a5, a6, _⟩ := row_facts hx3
  go_region_held3 (fun wx => wx.cell? ⟨k, 2, none⟩ = some (.int .i64 xl)) (first | exact a2 | exact (World.cell?_of_block (hdl.block (by exact hk3) hgk)).trans a2) (first
    | (go_at_call 25; refine (belowM g _ _ (by exact hC3) (by omega)).mono ?_; rintro e w4 ⟨y4, rfl, _, _, _, hdl⟩))
  have hx4 : w4.heap[k]? = _ := (hdl.block (by exact hk3) hgk).trans hx3
  have hz4 : w4.heap[w.heap.size]? = _ := (hdl.block (by exact hm3) hgm).trans hz3
  have hB4 : Below w.heap.size w w4 := Below.drawn hB3.drew hdl.2 hB3.size (by omega)
  have hC4 := hdl.1
  have hk4 : k < w4.heap.size := (Array.getElem?_eq_some_iff.1 hx4).1
  have hm4 : w.heap.size < w4.heap.size := (Array.getElem?_eq_some_iff.1 hz4).1
  clear hdl hx3 hz3 hB3 hC3 hk3 hm3 a0 a1 a2 a3 a4 a5 a6
  obtain ⟨a0, a1, a2, a3, a4, a5, a6, _⟩ := row_facts hx4
  go_wp2_with fail
  go_region_held3 (fun wx => wx.cell? ⟨k, 3, none⟩ = some (.int .i64 xh)) (first | exact a3 | exact (World.cell?_of_block (hdl.block (by exact hk4) hgk)).trans a3) (first
    | (go_at_call 25; refine (belowM g _ _ (by exact hC4) (by omega)).mono ?_; rintro e w5 ⟨y5, rfl, _, _, _, hdl⟩))
  have hx5 : w5.heap[k]? = _ := (hdl.block (by exact hk4) hgk).trans hx4
  have hz5 : w5.heap[w.heap.size]? = _ := (hdl.block (by exact hm4) hgm).trans hz4
  have hB5 : Below w.heap.size w w5 := Below.drawn hB4.drew hdl.2 hB4.size (by omega)
  have hC5 := hdl.1
  have hk5 : k < w5.heap.size := (Array.getElem?_eq_some_iff.1 hx5).1
  have hm5 : w.heap.size < w5.heap.size := (Array.getElem?_eq_some_iff.1 hz5).1
  clear hdl hx4 hz4 hB4 hC4 hk4 hm4 a0 a1 a2 a3 a4 a5 a6
  obtain ⟨a0, a1, a2, a3, a4, a5, a6, _⟩ := row_facts hx5
  go_wp2_with fail
  generalize IntKind.i64.wrap (xl + y4) = lo0
  generalize IntKind.i64.wrap (xh - y5) = hi0
  clear a0 a1 a2 a3 a4 a5 a6
  refine (onceM g _ _ hC5 (by omega)).mono ?_
  rintro e w6 ⟨b, rfl, hdl⟩
  have hx6 := (hdl.block hk5 hgk).trans hx5
  have hz6 := (hdl.block hm5 hgm).trans hz5
  have hB6 := Below.drawn hB5 hdl.2 hB5.size (by omega)
  have hC6 := hdl.1
  have hk6 : k < w6.heap.size := (Array.getElem?_eq_some_iff.1 hx6).1
  have hm6 : w.heap.size < w6.heap.size := (Array.getElem?_eq_some_iff.1 hz6).1
  clear hdl hx5 hz5 hB5 hC5 hk5 hm5
  cases b
  ·
    go_wp2_with fail
    refine (onceM g _ _ hC6 (by omega)).mono ?_
    rintro e w7 ⟨b2, rfl, hdl⟩
    have hx7 := (hdl.block hk6 hgk).trans hx6
    have hz7 := (hdl.block hm6 hgm).trans hz6
    have hB7 := Below.drawn hB6 hdl.2 hB6.size (by omega)
    have hC7 := hdl.1
    have hk7 : k < w7.heap.size := (Array.getElem?_eq_some_iff.1 hx7).1
    have hm7 : w.heap.size < w7.heap.size := (Array.getElem?_eq_some_iff.1 hz7).1
    clear hdl hx6 hz6 hB6 hC6 hk6 hm6
    cases b2
    ·
      go_wp2_with fail
      have hS0 : w7.drew.cell? ⟨k, 0, none⟩ = some (.bool xt) ∧ w7.drew.cell? ⟨k, 1, none⟩ = some (.int .i64 xn) ∧ w7.drew.cell? ⟨k, 2, none⟩ = some (.int .i64 xl) ∧ w7.drew.cell? ⟨k, 3, none⟩ = some (.int .i64 xh) ∧ w7.drew.cell? ⟨k, 4, none⟩ = some (.int .i64 xa) ∧ w7.drew.cell? ⟨k, 5, none⟩ = some (.int .i64 xp) ∧ w7.drew.cell? ⟨k, 6, none⟩ = some (.int .i64 xs) := seven_first (row_facts hx7)
      go_region_held3 (fun wx => wx.cell? ⟨k, 0, none⟩ = some (.bool xt) ∧ wx.cell? ⟨k, 1, none⟩ = some (.int .i64 xn) ∧ wx.cell? ⟨k, 2, none⟩ = some (.int .i64 xl) ∧ wx.cell? ⟨k, 3, none⟩ = some (.int .i64 xh) ∧ wx.cell? ⟨k, 4, none⟩ = some (.int .i64 xa) ∧ wx.cell? ⟨k, 5, none⟩ = some (.int .i64 xp) ∧ wx.cell? ⟨k, 6, none⟩ = some (.int .i64 xs)) (with_reducible assumption) (first
        | (go_at_call 27; refine (anyM g _ (by exact hC7)).mono ?_; rintro e wl ⟨v, rfl, hv, hdl⟩; have hSl := seven_of _ _ _ _ _ _ _ (hdl.block (by exact hk7) hgk) hS0; have hzl : wl.heap[w.heap.size]? = _ := (hdl.block (by exact hm7) hgm).trans hz7; have hBl : Below w.heap.size w wl := Below.drawn hB7.drew hdl.2 hB7.size (by omega); have hCl := hdl.1; have hgl2 := hCl.lt; have hkl : k < wl.heap.size := Nat.lt_of_lt_of_le hk7 hdl.2.size; have hml : w.heap.size < wl.heap.size := Nat.lt_of_lt_of_le hm7 hdl.2.size; have hSq := seven_of (w' := wl.alloc (.cells #[.int .i64 31, .int .i64 3, .int .i64 15, .int .i64 0, .int .i64 (-1), .int .i64 v] 3)) _ _ _ _ _ _ _ (alloc_block hkl) hSl; have hkq : k < (wl.alloc (.cells #[.int .i64 31, .int .i64 3, .int .i64 15, .int .i64 0, .int .i64 (-1), .int .i64 v] 3)).heap.size := Nat.lt_of_lt_of_le hkl (by simp); have hmq : w.heap.size < (wl.alloc (.cells #[.int .i64 31, .int .i64 3, .int .i64 15, .int .i64 0, .int .i64 (-1), .int .i64 v] 3)).heap.size := Nat.lt_of_lt_of_le hml (by simp))
        | (go_at_call 28; refine (pickM g wl.heap.size 6 6 _ (hCl.alloc _) hgl2 (by omega) (by omega) (ints_block wl [31, 3, 15, 0, -1, v] (six_in v hv))).mono ?_; rintro e wp ⟨q, rfl, hq, hdp⟩; have hSp := seven_of _ _ _ _ _ _ _ (hdp.block hkq hgk) hSq; have hSt := seven_of _ _ _ _ _ _ _ (put7_other (w := wp) (j := w.heap.size) (.bool xt) (.int .i64 xn) (.int .i64 xl) (.int .i64 xh) (.int .i64 xa) (.int .i64 xp) (.int .i64 xs) hmk.symm) hSp; have hzp : wp.heap[w.heap.size]? = _ := (hdp.block hmq hgm).trans ((alloc_block hml).trans hzl); have hBp : Below w.heap.size w wp := Below.drawn (hBl.alloc hBl.size _) hdp.2 (Nat.le_of_lt hmq) (by omega); have hfacts := row_facts hzp; obtain ⟨c0, c1, c2, c3, c4, c5, c6, f0, f1, f2, f3, f4, f5, f6⟩ := hfacts))
      go_wp2_with fail
      have hbW := put7_block (.bool xt) (.int .i64 xn) (.int .i64 xl) (.int .i64 xh) (.int .i64 xa) (.int .i64 xp) (.int .i64 xs) hzp
      have hBW : Below w.heap.size w (put7 wp w.heap.size (.bool xt) (.int .i64 xn) (.int .i64 xl) (.int .i64 xh) (.int .i64 xa) (.int .i64 xp) (.int .i64 xs)) := hBp.grown (put7_grown ..) hBp.size (by intro j hj; cases hj; exact Nat.le_refl _)
      show bodyPost _ _ _ _ _ (put7 wp w.heap.size (.bool xt) (.int .i64 xn) (.int .i64 xl) (.int .i64 xh) (.int .i64 xa) (.int .i64 xp) (.int .i64 xs))
      generalize put7 wp w.heap.size (.bool xt) (.int .i64 xn) (.int .i64 xl) (.int .i64 xh) (.int .i64 xa) (.int .i64 xp) (.int .i64 xs) = W at hbW hBW ⊢
      obtain ⟨d0, d1, d2, d3, d4, d5, d6, _⟩ := row_facts hbW
      refine bodyPost_ret (v := .tuple #[.agg #[.bool xt, .int .i64 xn, .int .i64 xl, .int .i64 xh, .int .i64 xa, .int .i64 xp, .int .i64 xs], .int .i64 lo0, .int .i64 hi0, .int .i64 q]) (by simp [results, Try.results9, go_sem, d0, d1, d2, d3, d4, d5, d6]) rfl ⟨_, _, _, _, _, _, _, _, _, _, rfl, hBW⟩
    ·
      go_wp2_with fail
      refine (anyM g _ hC7).mono ?_
      rintro e w8 ⟨hi1, rfl, _, hdl⟩
      have hx8 := (hdl.block hk7 hgk).trans hx7
      have hz8 := (hdl.block hm7 hgm).trans hz7
      have hB8 := Below.drawn hB7 hdl.2 hB7.size (by omega)
      have hC8 := hdl.1
      have hk8 : k < w8.heap.size := (Array.getElem?_eq_some_iff.1 hx8).1
      have hm8 : w.heap.size < w8.heap.size := (Array.getElem?_eq_some_iff.1 hz8).1
      clear hdl hx7 hz7 hB7 hC7 hk7 hm7
      go_wp2_with fail
      have hS0 : w8.drew.cell? ⟨k, 0, none⟩ = some (.bool xt) ∧ w8.drew.cell? ⟨k, 1, none⟩ = some (.int .i64 xn) ∧ w8.drew.cell? ⟨k, 2, none⟩ = some (.int .i64 xl) ∧ w8.drew.cell? ⟨k, 3, none⟩ = some (.int .i64 xh) ∧ w8.drew.cell? ⟨k, 4, none⟩ = some (.int .i64 xa) ∧ w8.drew.cell? ⟨k, 5, none⟩ = some (.int .i64 xp) ∧ w8.drew.cell? ⟨k, 6, none⟩ = some (.int .i64 xs) := seven_first (row_facts hx8)
      go_region_held3 (fun wx => wx.cell? ⟨k, 0, none⟩ = some (.bool xt) ∧ wx.cell? ⟨k, 1, none⟩ = some (.int .i64 xn) ∧ wx.cell? ⟨k, 2, none⟩ = some (.int .i64 xl) ∧ wx.cell? ⟨k, 3, none⟩ = some (.int .i64 xh) ∧ wx.cell? ⟨k, 4, none⟩ = some (.int .i64 xa) ∧ wx.cell? ⟨k, 5, none⟩ = some (.int .i64 xp) ∧ wx.cell? ⟨k, 6, none⟩ = some (.int .i64 xs)) (with_reducible assumption) (first
        | (go_at_call 27; refine (anyM g _ (by exact hC8)).mono ?_; rintro e wl ⟨v, rfl, hv, hdl⟩; have hSl := seven_of _ _ _ _ _ _ _ (hdl.block (by exact hk8) hgk) hS0; have hzl : wl.heap[w.heap.size]? = _ := (hdl.block (by exact hm8) hgm).trans hz8; have hBl : Below w.heap.size w wl := Below.drawn hB8.drew hdl.2 hB8.size (by omega); have hCl := hdl.1; have hgl2 := hCl.lt; have hkl : k < wl.heap.size := Nat.lt_of_lt_of_le hk8 hdl.2.size; have hml : w.heap.size < wl.heap.size := Nat.lt_of_lt_of_le hm8 hdl.2.size; have hSq := seven_of (w' := wl.alloc (.cells #[.int .i64 31, .int .i64 3, .int .i64 15, .int .i64 0, .int .i64 (-1), .int .i64 v] 3)) _ _ _ _ _ _ _ (alloc_block hkl) hSl; have hkq : k < (wl.alloc (.cells #[.int .i64 31, .int .i64 3, .int .i64 15, .int .i64 0, .int .i64 (-1), .int .i64 v] 3)).heap.size := Nat.lt_of_lt_of_le hkl (by simp); have hmq : w.heap.size < (wl.alloc (.cells #[.int .i64 31, .int .i64 3, .int .i64 15, .int .i64 0, .int .i64 (-1), .int .i64 v] 3)).heap.size := Nat.lt_of_lt_of_le hml (by simp))
        | (go_at_call 28; refine (pickM g wl.heap.size 6 6 _ (hCl.alloc _) hgl2 (by omega) (by omega) (ints_block wl [31, 3, 15, 0, -1, v] (six_in v hv))).mono ?_; rintro e wp ⟨q, rfl, hq, hdp⟩; have hSp := seven_of _ _ _ _ _ _ _ (hdp.block hkq hgk) hSq; have hSt := seven_of _ _ _ _ _ _ _ (put7_other (w := wp) (j := w.heap.size) (.bool xt) (.int .i64 xn) (.int .i64 xl) (.int .i64 xh) (.int .i64 xa) (.int .i64 xp) (.int .i64 xs) hmk.symm) hSp; have hzp : wp.heap[w.heap.size]? = _ := (hdp.block hmq hgm).trans ((alloc_block hml).trans hzl); have hBp : Below w.heap.size w wp := Below.drawn (hBl.alloc hBl.size _) hdp.2 (Nat.le_of_lt hmq) (by omega); have hfacts := row_facts hzp; obtain ⟨c0, c1, c2, c3, c4, c5, c6, f0, f1, f2, f3, f4, f5, f6⟩ := hfacts))
      go_wp2_with fail
      have hbW := put7_block (.bool xt) (.int .i64 xn) (.int .i64 xl) (.int .i64 xh) (.int .i64 xa) (.int .i64 xp) (.int .i64 xs) hzp
      have hBW : Below w.heap.size w (put7 wp w.heap.size (.bool xt) (.int .i64 xn) (.int .i64 xl) (.int .i64 xh) (.int .i64 xa) (.int .i64 xp) (.int .i64 xs)) := hBp.grown (put7_grown ..) hBp.size (by intro j hj; cases hj; exact Nat.le_refl _)
      show bodyPost _ _ _ _ _ (put7 wp w.heap.size (.bool xt) (.int .i64 xn) (.int .i64 xl) (.int .i64 xh) (.int .i64 xa) (.int .i64 xp) (.int .i64 xs))
      generalize put7 wp w.heap.size (.bool xt) (.int .i64 xn) (.int .i64 xl) (.int .i64 xh) (.int .i64 xa) (.int .i64 xp) (.int .i64 xs) = W at hbW hBW ⊢
      obtain ⟨d0, d1, d2, d3, d4, d5, d6, _⟩ := row_facts hbW
      refine bodyPost_ret (v := .tuple #[.agg #[.bool xt, .int .i64 xn, .int .i64 xl, .int .i64 xh, .int .i64 xa, .int .i64 xp, .int .i64 xs], .int .i64 lo0, .int .i64 hi1, .int .i64 q]) (by simp [results, Try.results9, go_sem, d0, d1, d2, d3, d4, d5, d6]) rfl ⟨_, _, _, _, _, _, _, _, _, _, rfl, hBW⟩
  ·
    go_wp2_with fail
    refine (anyM g _ hC6).mono ?_
    rintro e w7 ⟨lo1, rfl, _, hdl⟩
    have hx7 := (hdl.block hk6 hgk).trans hx6
    have hz7 := (hdl.block hm6 hgm).trans hz6
    have hB7 := Below.drawn hB6 hdl.2 hB6.size (by omega)
    have hC7 := hdl.1
    have hk7 : k < w7.heap.size := (Array.getElem?_eq_some_iff.1 hx7).1
    have hm7 : w.heap.size < w7.heap.size := (Array.getElem?_eq_some_iff.1 hz7).1
    clear hdl hx6 hz6 hB6 hC6 hk6 hm6
    go_wp2_with fail
    refine (onceM g _ _ hC7 (by omega)).mono ?_
    rintro e w8 ⟨b2, rfl, hdl⟩
    have hx8 := (hdl.block hk7 hgk).trans hx7
    have hz8 := (hdl.block hm7 hgm).trans hz7
    have hB8 := Below.drawn hB7 hdl.2 hB7.size (by omega)
    have hC8 := hdl.1
    have hk8 : k < w8.heap.size := (Array.getElem?_eq_some_iff.1 hx8).1
    have hm8 : w.heap.size < w8.heap.size := (Array.getElem?_eq_some_iff.1 hz8).1
    clear hdl hx7 hz7 hB7 hC7 hk7 hm7
    cases b2
    ·
      go_wp2_with fail
      have hS0 : w8.drew.cell? ⟨k, 0, none⟩ = some (.bool xt) ∧ w8.drew.cell? ⟨k, 1, none⟩ = some (.int .i64 xn) ∧ w8.drew.cell? ⟨k, 2, none⟩ = some (.int .i64 xl) ∧ w8.drew.cell? ⟨k, 3, none⟩ = some (.int .i64 xh) ∧ w8.drew.cell? ⟨k, 4, none⟩ = some (.int .i64 xa) ∧ w8.drew.cell? ⟨k, 5, none⟩ = some (.int .i64 xp) ∧ w8.drew.cell? ⟨k, 6, none⟩ = some (.int .i64 xs) := seven_first (row_facts hx8)
      go_region_held3 (fun wx => wx.cell? ⟨k, 0, none⟩ = some (.bool xt) ∧ wx.cell? ⟨k, 1, none⟩ = some (.int .i64 xn) ∧ wx.cell? ⟨k, 2, none⟩ = some (.int .i64 xl) ∧ wx.cell? ⟨k, 3, none⟩ = some (.int .i64 xh) ∧ wx.cell? ⟨k, 4, none⟩ = some (.int .i64 xa) ∧ wx.cell? ⟨k, 5, none⟩ = some (.int .i64 xp) ∧ wx.cell? ⟨k, 6, none⟩ = some (.int .i64 xs)) (with_reducible assumption) (first
        | (go_at_call 27; refine (anyM g _ (by exact hC8)).mono ?_; rintro e wl ⟨v, rfl, hv, hdl⟩; have hSl := seven_of _ _ _ _ _ _ _ (hdl.block (by exact hk8) hgk) hS0; have hzl : wl.heap[w.heap.size]? = _ := (hdl.block (by exact hm8) hgm).trans hz8; have hBl : Below w.heap.size w wl := Below.drawn hB8.drew hdl.2 hB8.size (by omega); have hCl := hdl.1; have hgl2 := hCl.lt; have hkl : k < wl.heap.size := Nat.lt_of_lt_of_le hk8 hdl.2.size; have hml : w.heap.size < wl.heap.size := Nat.lt_of_lt_of_le hm8 hdl.2.size; have hSq := seven_of (w' := wl.alloc (.cells #[.int .i64 31, .int .i64 3, .int .i64 15, .int .i64 0, .int .i64 (-1), .int .i64 v] 3)) _ _ _ _ _ _ _ (alloc_block hkl) hSl; have hkq : k < (wl.alloc (.cells #[.int .i64 31, .int .i64 3, .int .i64 15, .int .i64 0, .int .i64 (-1), .int .i64 v] 3)).heap.size := Nat.lt_of_lt_of_le hkl (by simp); have hmq : w.heap.size < (wl.alloc (.cells #[.int .i64 31, .int .i64 3, .int .i64 15, .int .i64 0, .int .i64 (-1), .int .i64 v] 3)).heap.size := Nat.lt_of_lt_of_le hml (by simp))
        | (go_at_call 28; refine (pickM g wl.heap.size 6 6 _ (hCl.alloc _) hgl2 (by omega) (by omega) (ints_block wl [31, 3, 15, 0, -1, v] (six_in v hv))).mono ?_; rintro e wp ⟨q, rfl, hq, hdp⟩; have hSp := seven_of _ _ _ _ _ _ _ (hdp.block hkq hgk) hSq; have hSt := seven_of _ _ _ _ _ _ _ (put7_other (w := wp) (j := w.heap.size) (.bool xt) (.int .i64 xn) (.int .i64 xl) (.int .i64 xh) (.int .i64 xa) (.int .i64 xp) (.int .i64 xs) hmk.symm) hSp; have hzp : wp.heap[w.heap.size]? = _ := (hdp.block hmq hgm).trans ((alloc_block hml).trans hzl); have hBp : Below w.heap.size w wp := Below.drawn (hBl.alloc hBl.size _) hdp.2 (Nat.le_of_lt hmq) (by omega); have hfacts := row_facts hzp; obtain ⟨c0, c1, c2, c3, c4, c5, c6, f0, f1, f2, f3, f4, f5, f6⟩ := hfacts))
      go_wp2_with fail
      have hbW := put7_block (.bool xt) (.int .i64 xn) (.int .i64 xl) (.int .i64 xh) (.int .i64 xa) (.int .i64 xp) (.int .i64 xs) hzp
      have hBW : Below w.heap.size w (put7 wp w.heap.size (.bool xt) (.int .i64 xn) (.int .i64 xl) (.int .i64 xh) (.int .i64 xa) (.int .i64 xp) (.int .i64 xs)) := hBp.grown (put7_grown ..) hBp.size (by intro j hj; cases hj; exact Nat.le_refl _)
      show bodyPost _ _ _ _ _ (put7 wp w.heap.size (.bool xt) (.int .i64 xn) (.int .i64 xl) (.int .i64 xh) (.int .i64 xa) (.int .i64 xp) (.int .i64 xs))
      generalize put7 wp w.heap.size (.bool xt) (.int .i64 xn) (.int .i64 xl) (.int .i64 xh) (.int .i64 xa) (.int .i64 xp) (.int .i64 xs) = W at hbW hBW ⊢
      obtain ⟨d0, d1, d2, d3, d4, d5, d6, _⟩ := row_facts hbW
      refine bodyPost_ret (v := .tuple #[.agg #[.bool xt, .int .i64 xn, .int .i64 xl, .int .i64 xh, .int .i64 xa, .int .i64 xp, .int .i64 xs], .int .i64 lo1, .int .i64 hi0, .int .i64 q]) (by simp [results, Try.results9, go_sem, d0, d1, d2, d3, d4, d5, d6]) rfl ⟨_, _, _, _, _, _, _, _, _, _, rfl, hBW⟩
    ·
      go_wp2_with fail
      refine (anyM g _ hC8).mono ?_
      rintro e w9 ⟨hi1, rfl, _, hdl⟩
      have hx9 := (hdl.block hk8 hgk).trans hx8
      have hz9 := (hdl.block hm8 hgm).trans hz8
      have hB9 := Below.drawn hB8 hdl.2 hB8.size (by omega)
      have hC9 := hdl.1
      have hk9 : k < w9.heap.size := (Array.getElem?_eq_some_iff.1 hx9).1
      have hm9 : w.heap.size < w9.heap.size := (Array.getElem?_eq_some_iff.1 hz9).1
      clear hdl hx8 hz8 hB8 hC8 hk8 hm8
      go_wp2_with fail
      have hS0 : w9.drew.cell? ⟨k, 0, none⟩ = some (.bool xt) ∧ w9.drew.cell? ⟨k, 1, none⟩ = some (.int .i64 xn) ∧ w9.drew.cell? ⟨k, 2, none⟩ = some (.int .i64 xl) ∧ w9.drew.cell? ⟨k, 3, none⟩ = some (.int .i64 xh) ∧ w9.drew.cell? ⟨k, 4, none⟩ = some (.int .i64 xa) ∧ w9.drew.cell? ⟨k, 5, none⟩ = some (.int .i64 xp) ∧ w9.drew.cell? ⟨k, 6, none⟩ = some (.int .i64 xs) := seven_first (row_facts hx9)
      go_region_held3 (fun wx => wx.cell? ⟨k, 0, none⟩ = some (.bool xt) ∧ wx.cell? ⟨k, 1, none⟩ = some (.int .i64 xn) ∧ wx.cell? ⟨k, 2, none⟩ = some (.int .i64 xl) ∧ wx.cell? ⟨k, 3, none⟩ = some (.int .i64 xh) ∧ wx.cell? ⟨k, 4, none⟩ = some (.int .i64 xa) ∧ wx.cell? ⟨k, 5, none⟩ = some (.int .i64 xp) ∧ wx.cell? ⟨k, 6, none⟩ = some (.int .i64 xs)) (with_reducible assumption) (first
        | (go_at_call 27; refine (anyM g _ (by exact hC9)).mono ?_; rintro e wl ⟨v, rfl, hv, hdl⟩; have hSl := seven_of _ _ _ _ _ _ _ (hdl.block (by exact hk9) hgk) hS0; have hzl : wl.heap[w.heap.size]? = _ := (hdl.block (by exact hm9) hgm).trans hz9; have hBl : Below w.heap.size w wl := Below.drawn hB9.drew hdl.2 hB9.size (by omega); have hCl := hdl.1; have hgl2 := hCl.lt; have hkl : k < wl.heap.size := Nat.lt_of_lt_of_le hk9 hdl.2.size; have hml : w.heap.size < wl.heap.size := Nat.lt_of_lt_of_le hm9 hdl.2.size; have hSq := seven_of (w' := wl.alloc (.cells #[.int .i64 31, .int .i64 3, .int .i64 15, .int .i64 0, .int .i64 (-1), .int .i64 v] 3)) _ _ _ _ _ _ _ (alloc_block hkl) hSl; have hkq : k < (wl.alloc (.cells #[.int .i64 31, .int .i64 3, .int .i64 15, .int .i64 0, .int .i64 (-1), .int .i64 v] 3)).heap.size := Nat.lt_of_lt_of_le hkl (by simp); have hmq : w.heap.size < (wl.alloc (.cells #[.int .i64 31, .int .i64 3, .int .i64 15, .int .i64 0, .int .i64 (-1), .int .i64 v] 3)).heap.size := Nat.lt_of_lt_of_le hml (by simp))
        | (go_at_call 28; refine (pickM g wl.heap.size 6 6 _ (hCl.alloc _) hgl2 (by omega) (by omega) (ints_block wl [31, 3, 15, 0, -1, v] (six_in v hv))).mono ?_; rintro e wp ⟨q, rfl, hq, hdp⟩; have hSp := seven_of _ _ _ _ _ _ _ (hdp.block hkq hgk) hSq; have hSt := seven_of _ _ _ _ _ _ _ (put7_other (w := wp) (j := w.heap.size) (.bool xt) (.int .i64 xn) (.int .i64 xl) (.int .i64 xh) (.int .i64 xa) (.int .i64 xp) (.int .i64 xs) hmk.symm) hSp; have hzp : wp.heap[w.heap.size]? = _ := (hdp.block hmq hgm).trans ((alloc_block hml).trans hzl); have hBp : Below w.heap.size w wp := Below.drawn (hBl.alloc hBl.size _) hdp.2 (Nat.le_of_lt hmq) (by omega); have hfacts := row_facts hzp; obtain ⟨c0, c1, c2, c3, c4, c5, c6, f0, f1, f2, f3, f4, f5, f6⟩ := hfacts))
      go_wp2_with fail
      have hbW := put7_block (.bool xt) (.int .i64 xn) (.int .i64 xl) (.int .i64 xh) (.int .i64 xa) (.int .i64 xp) (.int .i64 xs) hzp
      have hBW : Below w.heap.size w (put7 wp w.heap.size (.bool xt) (.int .i64 xn) (.int .i64 xl) (.int .i64 xh) (.int .i64 xa) (.int .i64 xp) (.int .i64 xs)) := hBp.grown (put7_grown ..) hBp.size (by intro j hj; cases hj; exact Nat.le_refl _)
      show bodyPost _ _ _ _ _ (put7 wp w.heap.size (.bool xt) (.int .i64 xn) (.int .i64 xl) (.int .i64 xh) (.int .i64 xa) (.int .i64 xp) (.int .i64 xs))
      generalize put7 wp w.heap.size (.bool xt) (.int .i64 xn) (.int .i64 xl) (.int .i64 xh) (.int .i64 xa) (.int .i64 xp) (.int .i64 xs) = W at hbW hBW ⊢
      obtain ⟨d0, d1, d2, d3, d4, d5, d6, _⟩ := row_facts hbW
      refine bodyPost_ret (v := .tuple #[.agg #[.bool xt, .int .i64 xn, .int .i64 xl, .int .i64 xh, .int .i64 xa, .int .i64 xp, .int .i64 xs], .int .i64 lo1, .int .i64 hi1, .int .i64 q]) (by simp [results, Try.results9, go_sem, d0, d1, d2, d3, d4, d5, d6]) rfl ⟨_, _, _, _, _, _, _, _, _, _, rfl, hBW⟩
end Go.Proofs.Ytahfnenogeidpaa

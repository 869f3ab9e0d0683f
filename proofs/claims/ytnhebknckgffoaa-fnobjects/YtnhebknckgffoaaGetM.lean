/- spec.GetNum, rowAt and number over whatever list of bytes: the ways joined. -/
import Derived.Test.YtnhebknckgffoaaRowAt
import Derived.Test.YtnhebknckgffoaaNumber
import Derived.Test.YtnhebknckgffoaaGet
namespace Go.Proofs.Ytnhebknckgffoaa
open Go.RowKit
set_option linter.unusedVariables false

theorem cell_from {w : World} {b off n t : Nat} {l : List Int} (hc : ∀ i, i < n → w.cell? ⟨b, off + i, none⟩ = some (.int .u8 (l[i]?.getD 0))) : ∀ j, t + j < n → w.cell? ⟨b, off + (t + j), none⟩ = some (.int .u8 ((l.drop t)[j]?.getD 0)) := by
  intro j hj
  rw [hc (t + j) hj, List.getElem?_drop]

set_option maxRecDepth 100000 in
set_option maxHeartbeats 2000000 in
theorem rowAt_neg (ao : Option Addr) (n c : Nat) (t : Int) (w : World) (ht : t < 0) :
    Calls Try.prog 61 #[.slice ao n c, .int .i64 t] w fun e w' => e = .returned (.tuple #[.agg #[.int .u8 0, .int .u8 0, .int .u8 0, .int .u8 0, .int .u8 0, .int .i64 0], .int .i64 1]) ∧ Below w.heap.size w w' := by
  go_enter Try.func61, Try.ntmps61
  go_wp2
  exact bodyPost_ret (v := .tuple #[.agg #[.int .u8 0, .int .u8 0, .int .u8 0, .int .u8 0, .int .u8 0, .int .i64 0], .int .i64 1]) (by simp [results, Try.results61, go_sem]) rfl ⟨rfl, ((Below.refl _ _).alloc (Nat.le_refl _) _).alloc (by simp) _⟩

set_option maxRecDepth 100000 in
set_option maxHeartbeats 2000000 in
theorem rowAt_far (ao : Option Addr) (n c : Nat) (t : Int) (w : World) (ht : (n : Int) < t) :
    Calls Try.prog 61 #[.slice ao n c, .int .i64 t] w fun e w' => e = .returned (.tuple #[.agg #[.int .u8 0, .int .u8 0, .int .u8 0, .int .u8 0, .int .u8 0, .int .i64 0], .int .i64 1]) ∧ Below w.heap.size w w' := by
  have h0 : ¬ t < 0 := by omega
  go_enter Try.func61, Try.ntmps61
  go_wp2
  exact bodyPost_ret (v := .tuple #[.agg #[.int .u8 0, .int .u8 0, .int .u8 0, .int .u8 0, .int .u8 0, .int .i64 0], .int .i64 1]) (by simp [results, Try.results61, go_sem]) rfl ⟨rfl, ((Below.refl _ _).alloc (Nat.le_refl _) _).alloc (by simp) _⟩

set_option maxRecDepth 100000 in
set_option maxHeartbeats 2000000 in
theorem rowAt_end (ao : Option Addr) (n c : Nat) (w : World) (hnc : n ≤ c) (hcm : c ≤ maxLen) :
    Calls Try.prog 61 #[.slice ao n c, .int .i64 n] w fun e w' => e = .returned (.tuple #[.agg #[.int .u8 0, .int .u8 0, .int .u8 0, .int .u8 0, .int .u8 0, .int .i64 0], .int .i64 1]) ∧ Below w.heap.size w w' := by
  unfold maxLen at hcm
  by_cases hcn : c = n
  · subst hcn
    go_enter Try.func61, Try.ntmps61
    go_wp2
    refine wp_loop_rounds 1 ?_
    rw [rounds_succ]
    go_wp2
    exact bodyPost_ret (v := .tuple #[.agg #[.int .u8 0, .int .u8 0, .int .u8 0, .int .u8 0, .int .u8 0, .int .i64 0], .int .i64 1]) (by simp [results, Try.results61, go_sem]) rfl ⟨rfl, ((Below.refl _ _).alloc (Nat.le_refl _) _).alloc (by simp) _⟩
  · cases ao
    all_goals
      go_enter Try.func61, Try.ntmps61
      go_wp2
      refine wp_loop_rounds 1 ?_
      rw [rounds_succ]
      go_wp2
      exact bodyPost_ret (v := .tuple #[.agg #[.int .u8 0, .int .u8 0, .int .u8 0, .int .u8 0, .int .u8 0, .int .i64 0], .int .i64 1]) (by simp [results, Try.results61, go_sem]) rfl ⟨rfl, ((Below.refl _ _).alloc (Nat.le_refl _) _).alloc (by simp) _⟩

theorem ret_pair {a b : Int} {p : Int × Int} (h : (a, b) = p) : Ending.returned (.tuple #[.int .i64 a, .int .i64 b]) = .returned (.tuple #[.int .i64 p.1, .int .i64 p.2]) := by rw [← h]


/-- What rowAt says of the bytes at place t. -/
def rowPost (l : List Int) (t : Int) (d : List Int) (en : Int) : Prop :=
  if t < 0 ∨ (l.length : Int) < t then (en = 1 ∨ en = 2) else match getR 5 (l.drop t.toNat) with | none => (en = 1 ∨ en = 2) | some d' => d = d' ∧ en = 0

theorem rowPost_out {l : List Int} {t : Int} (d : List Int) {en : Int} (h : t < 0 ∨ (l.length : Int) < t) (he : en = 1 ∨ en = 2) : rowPost l t d en := by
  unfold rowPost; rw [if_pos h]; exact he
theorem rowPost_none {l : List Int} {t : Nat} (d : List Int) {en : Int} (h : t ≤ l.length) (hR : getR 5 (l.drop t) = none) (he : en = 1 ∨ en = 2) : rowPost l t d en := by
  unfold rowPost; rw [if_neg (by omega), Int.toNat_natCast, hR]; exact he
theorem rowPost_some {l : List Int} {t : Nat} {d : List Int} (h : t ≤ l.length) (hR : getR 5 (l.drop t) = some d) : rowPost l t d 0 := by
  unfold rowPost; rw [if_neg (by omega), Int.toNat_natCast, hR]; exact ⟨rfl, rfl⟩

theorem rowAtM (a : Option Addr) (n c : Nat) (l : List Int) (t : Int) (w : World) (h : BRow w a n l) (hn : n ≤ 1073741824) (hnc : n ≤ c) (hcm : c ≤ maxLen) :
    Calls Try.prog 61 #[.slice a n c, .int .i64 t] w fun e w' => ∃ d en, e = .returned (.tuple #[rowV d, .int .i64 en]) ∧ d.length ≤ 5 ∧ Below w.heap.size w w' ∧
      rowPost l t d en := by
  have hl := h.1
  by_cases ht : t < 0
  · refine (rowAt_neg a n c t w ht).mono ?_
    rintro e w' ⟨rfl, hb⟩
    exact ⟨[], 1, rfl, by simp, hb, rowPost_out _ (.inl ht) (.inl rfl)⟩
  by_cases hf : (n : Int) < t
  · refine (rowAt_far a n c t w hf).mono ?_
    rintro e w' ⟨rfl, hb⟩
    exact ⟨[], 1, rfl, by simp, hb, rowPost_out _ (.inr (by omega)) (.inl rfl)⟩
  obtain ⟨t, rfl⟩ := Int.eq_ofNat_of_zero_le (show 0 ≤ t by omega)
  have htl : t ≤ l.length := by omega
  by_cases he : t = n
  · subst he
    refine (rowAt_end a t c w hnc hcm).mono ?_
    rintro e w' ⟨rfl, hb⟩
    refine ⟨[], 1, rfl, by simp, hb, rowPost_none _ htl ?_ (.inl rfl)⟩
    rw [List.drop_of_length_le (by omega)]
    rfl
  obtain ⟨b, off, rfl, hc⟩ := h.2.2 (by omega)
  have hx := cell_from (t := t) hc
  have hdl : (l.drop t).length = n - t := by rw [List.length_drop, hl]
  rcases get_cases (l.drop t) (fun x hx => h.2.1 x (List.mem_of_mem_drop hx)) with ⟨x0, r, hp, g0, l0⟩ | ⟨x0, x1, r, hp, g0, l0, g1, l1⟩ | ⟨x0, x1, x2, r, hp, g0, l0, g1, l1, g2, l2⟩ | ⟨x0, x1, x2, x3, r, hp, g0, l0, g1, l1, g2, l2, g3, l3⟩ | ⟨x0, x1, x2, x3, x4, r, hp, g0, l0, g1, l1, g2, l2, g3, l3, g4, l4⟩ | hp | ⟨x0, hp, g0, l0⟩ | ⟨x0, x1, hp, g0, l0, g1, l1⟩ | ⟨x0, x1, x2, hp, g0, l0, g1, l1, g2, l2⟩ | ⟨x0, x1, x2, x3, hp, g0, l0, g1, l1, g2, l2, g3, l3⟩ | ⟨x0, x1, x2, x3, x4, r, hp, g0, l0, g1, l1, g2, l2, g3, l3, g4, l4⟩
  · rw [hp, List.length_cons] at hdl
    have hR : getR 5 (l.drop t) = some [x0] := by rw [hp]; simp [getR, l0]
    have c0 : w.cell? ⟨b, off + t, none⟩ = some (.int .u8 x0) := by have hh := hx 0 (by omega); rw [hp] at hh; exact hh
    refine (rowAt_w0 b off n c t x0 w hn hnc hcm (by omega) c0 g0 l0).mono ?_
    rintro e w' ⟨rfl, hb⟩
    exact ⟨[x0], 0, rfl, by simp, hb, rowPost_some htl hR⟩
  · rw [hp, List.length_cons, List.length_cons] at hdl
    have hR : getR 5 (l.drop t) = some [x0, x1] := by rw [hp]; simp [getR, show ¬ x0 < 128 by omega, l1]
    have c0 : w.cell? ⟨b, off + t, none⟩ = some (.int .u8 x0) := by have hh := hx 0 (by omega); rw [hp] at hh; exact hh
    have c1 : w.cell? ⟨b, off + t + 1, none⟩ = some (.int .u8 x1) := by have hh := hx 1 (by omega); rw [hp] at hh; exact hh
    refine (rowAt_w1 b off n c t x0 x1 w hn hnc hcm (by omega) c0 c1 g0 l0 g1 l1).mono ?_
    rintro e w' ⟨rfl, hb⟩
    exact ⟨[x0, x1], 0, rfl, by simp, hb, rowPost_some htl hR⟩
  · rw [hp, List.length_cons, List.length_cons, List.length_cons] at hdl
    have hR : getR 5 (l.drop t) = some [x0, x1, x2] := by rw [hp]; simp [getR, show ¬ x0 < 128 by omega, show ¬ x1 < 128 by omega, l2]
    have c0 : w.cell? ⟨b, off + t, none⟩ = some (.int .u8 x0) := by have hh := hx 0 (by omega); rw [hp] at hh; exact hh
    have c1 : w.cell? ⟨b, off + t + 1, none⟩ = some (.int .u8 x1) := by have hh := hx 1 (by omega); rw [hp] at hh; exact hh
    have c2 : w.cell? ⟨b, off + t + 2, none⟩ = some (.int .u8 x2) := by have hh := hx 2 (by omega); rw [hp] at hh; exact hh
    refine (rowAt_w2 b off n c t x0 x1 x2 w hn hnc hcm (by omega) c0 c1 c2 g0 l0 g1 l1 g2 l2).mono ?_
    rintro e w' ⟨rfl, hb⟩
    exact ⟨[x0, x1, x2], 0, rfl, by simp, hb, rowPost_some htl hR⟩
  · rw [hp, List.length_cons, List.length_cons, List.length_cons, List.length_cons] at hdl
    have hR : getR 5 (l.drop t) = some [x0, x1, x2, x3] := by rw [hp]; simp [getR, show ¬ x0 < 128 by omega, show ¬ x1 < 128 by omega, show ¬ x2 < 128 by omega, l3]
    have c0 : w.cell? ⟨b, off + t, none⟩ = some (.int .u8 x0) := by have hh := hx 0 (by omega); rw [hp] at hh; exact hh
    have c1 : w.cell? ⟨b, off + t + 1, none⟩ = some (.int .u8 x1) := by have hh := hx 1 (by omega); rw [hp] at hh; exact hh
    have c2 : w.cell? ⟨b, off + t + 2, none⟩ = some (.int .u8 x2) := by have hh := hx 2 (by omega); rw [hp] at hh; exact hh
    have c3 : w.cell? ⟨b, off + t + 3, none⟩ = some (.int .u8 x3) := by have hh := hx 3 (by omega); rw [hp] at hh; exact hh
    refine (rowAt_w3 b off n c t x0 x1 x2 x3 w hn hnc hcm (by omega) c0 c1 c2 c3 g0 l0 g1 l1 g2 l2 g3 l3).mono ?_
    rintro e w' ⟨rfl, hb⟩
    exact ⟨[x0, x1, x2, x3], 0, rfl, by simp, hb, rowPost_some htl hR⟩
  · rw [hp, List.length_cons, List.length_cons, List.length_cons, List.length_cons, List.length_cons] at hdl
    have hR : getR 5 (l.drop t) = some [x0, x1, x2, x3, x4] := by rw [hp]; simp [getR, show ¬ x0 < 128 by omega, show ¬ x1 < 128 by omega, show ¬ x2 < 128 by omega, show ¬ x3 < 128 by omega, l4]
    have c0 : w.cell? ⟨b, off + t, none⟩ = some (.int .u8 x0) := by have hh := hx 0 (by omega); rw [hp] at hh; exact hh
    have c1 : w.cell? ⟨b, off + t + 1, none⟩ = some (.int .u8 x1) := by have hh := hx 1 (by omega); rw [hp] at hh; exact hh
    have c2 : w.cell? ⟨b, off + t + 2, none⟩ = some (.int .u8 x2) := by have hh := hx 2 (by omega); rw [hp] at hh; exact hh
    have c3 : w.cell? ⟨b, off + t + 3, none⟩ = some (.int .u8 x3) := by have hh := hx 3 (by omega); rw [hp] at hh; exact hh
    have c4 : w.cell? ⟨b, off + t + 4, none⟩ = some (.int .u8 x4) := by have hh := hx 4 (by omega); rw [hp] at hh; exact hh
    refine (rowAt_w4 b off n c t x0 x1 x2 x3 x4 w hn hnc hcm (by omega) c0 c1 c2 c3 c4 g0 l0 g1 l1 g2 l2 g3 l3 g4 l4).mono ?_
    rintro e w' ⟨rfl, hb⟩
    exact ⟨[x0, x1, x2, x3, x4], 0, rfl, by simp, hb, rowPost_some htl hR⟩
  · rw [hp] at hdl; simp at hdl; omega
  · rw [hp] at hdl
    simp only [List.length_cons, List.length_nil] at hdl
    have hR : getR 5 (l.drop t) = none := by rw [hp]; simp [getR, show ¬ x0 < 128 by omega]
    have c0 : w.cell? ⟨b, off + t, none⟩ = some (.int .u8 x0) := by have hh := hx 0 (by omega); rw [hp] at hh; exact hh
    refine (rowAt_c1 b off n c t x0 w hn hnc hcm (by omega) (by omega) c0 g0 l0).mono ?_
    rintro e w' ⟨rfl, hb⟩
    exact ⟨[x0], 1, rfl, by simp, hb, rowPost_none _ htl hR (.inl rfl)⟩
  · rw [hp] at hdl
    simp only [List.length_cons, List.length_nil] at hdl
    have hR : getR 5 (l.drop t) = none := by rw [hp]; simp [getR, show ¬ x0 < 128 by omega, show ¬ x1 < 128 by omega]
    have c0 : w.cell? ⟨b, off + t, none⟩ = some (.int .u8 x0) := by have hh := hx 0 (by omega); rw [hp] at hh; exact hh
    have c1 : w.cell? ⟨b, off + t + 1, none⟩ = some (.int .u8 x1) := by have hh := hx 1 (by omega); rw [hp] at hh; exact hh
    refine (rowAt_c2 b off n c t x0 x1 w hn hnc hcm (by omega) (by omega) c0 c1 g0 l0 g1 l1).mono ?_
    rintro e w' ⟨rfl, hb⟩
    exact ⟨[x0, x1], 1, rfl, by simp, hb, rowPost_none _ htl hR (.inl rfl)⟩
  · rw [hp] at hdl
    simp only [List.length_cons, List.length_nil] at hdl
    have hR : getR 5 (l.drop t) = none := by rw [hp]; simp [getR, show ¬ x0 < 128 by omega, show ¬ x1 < 128 by omega, show ¬ x2 < 128 by omega]
    have c0 : w.cell? ⟨b, off + t, none⟩ = some (.int .u8 x0) := by have hh := hx 0 (by omega); rw [hp] at hh; exact hh
    have c1 : w.cell? ⟨b, off + t + 1, none⟩ = some (.int .u8 x1) := by have hh := hx 1 (by omega); rw [hp] at hh; exact hh
    have c2 : w.cell? ⟨b, off + t + 2, none⟩ = some (.int .u8 x2) := by have hh := hx 2 (by omega); rw [hp] at hh; exact hh
    refine (rowAt_c3 b off n c t x0 x1 x2 w hn hnc hcm (by omega) (by omega) c0 c1 c2 g0 l0 g1 l1 g2 l2).mono ?_
    rintro e w' ⟨rfl, hb⟩
    exact ⟨[x0, x1, x2], 1, rfl, by simp, hb, rowPost_none _ htl hR (.inl rfl)⟩
  · rw [hp] at hdl
    simp only [List.length_cons, List.length_nil] at hdl
    have hR : getR 5 (l.drop t) = none := by rw [hp]; simp [getR, show ¬ x0 < 128 by omega, show ¬ x1 < 128 by omega, show ¬ x2 < 128 by omega, show ¬ x3 < 128 by omega]
    have c0 : w.cell? ⟨b, off + t, none⟩ = some (.int .u8 x0) := by have hh := hx 0 (by omega); rw [hp] at hh; exact hh
    have c1 : w.cell? ⟨b, off + t + 1, none⟩ = some (.int .u8 x1) := by have hh := hx 1 (by omega); rw [hp] at hh; exact hh
    have c2 : w.cell? ⟨b, off + t + 2, none⟩ = some (.int .u8 x2) := by have hh := hx 2 (by omega); rw [hp] at hh; exact hh
    have c3 : w.cell? ⟨b, off + t + 3, none⟩ = some (.int .u8 x3) := by have hh := hx 3 (by omega); rw [hp] at hh; exact hh
    refine (rowAt_c4 b off n c t x0 x1 x2 x3 w hn hnc hcm (by omega) (by omega) c0 c1 c2 c3 g0 l0 g1 l1 g2 l2 g3 l3).mono ?_
    rintro e w' ⟨rfl, hb⟩
    exact ⟨[x0, x1, x2, x3], 1, rfl, by simp, hb, rowPost_none _ htl hR (.inl rfl)⟩
  · have hR : getR 5 (l.drop t) = none := by rw [hp]; simp [getR, show ¬ x0 < 128 by omega, show ¬ x1 < 128 by omega, show ¬ x2 < 128 by omega, show ¬ x3 < 128 by omega, show ¬ x4 < 128 by omega]
    rcases r with _ | ⟨y, r⟩
    · rw [hp] at hdl
      simp only [List.length_cons, List.length_nil] at hdl
      have c0 : w.cell? ⟨b, off + t, none⟩ = some (.int .u8 x0) := by have hh := hx 0 (by omega); rw [hp] at hh; exact hh
      have c1 : w.cell? ⟨b, off + t + 1, none⟩ = some (.int .u8 x1) := by have hh := hx 1 (by omega); rw [hp] at hh; exact hh
      have c2 : w.cell? ⟨b, off + t + 2, none⟩ = some (.int .u8 x2) := by have hh := hx 2 (by omega); rw [hp] at hh; exact hh
      have c3 : w.cell? ⟨b, off + t + 3, none⟩ = some (.int .u8 x3) := by have hh := hx 3 (by omega); rw [hp] at hh; exact hh
      have c4 : w.cell? ⟨b, off + t + 4, none⟩ = some (.int .u8 x4) := by have hh := hx 4 (by omega); rw [hp] at hh; exact hh
      refine (rowAt_c5 b off n c t x0 x1 x2 x3 x4 w hn hnc hcm (by omega) (by omega) c0 c1 c2 c3 c4 g0 l0 g1 l1 g2 l2 g3 l3 g4 l4).mono ?_
      rintro e w' ⟨rfl, hb⟩
      exact ⟨[x0, x1, x2, x3, x4], 1, rfl, by simp, hb, rowPost_none _ htl hR (.inl rfl)⟩
    · rw [hp] at hdl
      simp only [List.length_cons] at hdl
      have c0 : w.cell? ⟨b, off + t, none⟩ = some (.int .u8 x0) := by have hh := hx 0 (by omega); rw [hp] at hh; exact hh
      have c1 : w.cell? ⟨b, off + t + 1, none⟩ = some (.int .u8 x1) := by have hh := hx 1 (by omega); rw [hp] at hh; exact hh
      have c2 : w.cell? ⟨b, off + t + 2, none⟩ = some (.int .u8 x2) := by have hh := hx 2 (by omega); rw [hp] at hh; exact hh
      have c3 : w.cell? ⟨b, off + t + 3, none⟩ = some (.int .u8 x3) := by have hh := hx 3 (by omega); rw [hp] at hh; exact hh
      have c4 : w.cell? ⟨b, off + t + 4, none⟩ = some (.int .u8 x4) := by have hh := hx 4 (by omega); rw [hp] at hh; exact hh
      have cy : w.cell? ⟨b, off + t + 5, none⟩ = some (.int .u8 y) := by have hh := hx 5 (by omega); rw [hp] at hh; exact hh
      refine (rowAt_l b off n c t x0 x1 x2 x3 x4 w hn hnc hcm (by omega) c0 c1 c2 c3 c4 g0 l0 g1 l1 g2 l2 g3 l3 g4 l4 y cy).mono ?_
      rintro e w' ⟨rfl, hb⟩
      exact ⟨[x0, x1, x2, x3, x4], 2, rfl, by simp, hb, rowPost_none _ htl hR (.inr rfl)⟩

theorem numberM (d : List Int) (w : World) (h0 : 0 < d.length) (h5 : d.length ≤ 5) (hby : ∀ x ∈ d, 0 ≤ x ∧ x ≤ 255) :
    Calls Try.prog 62 #[rowV d] w fun e w' => e = .returned (.int .i64 (valI d)) ∧ Below w.heap.size w w' := by
  rcases d with _ | ⟨x0, d⟩
  · simp at h0
  have b0 := hby x0 (by simp)
  rcases d with _ | ⟨x1, d⟩
  · refine (number1 x0 0 0 0 0 w b0.1 b0.2).mono ?_
    rintro e w' ⟨rfl, hb⟩
    exact ⟨ret_int (by simp only [valI]; omega), hb⟩
  have b1 := hby x1 (by simp)
  rcases d with _ | ⟨x2, d⟩
  · refine (number2 x0 x1 0 0 0 w b0.1 b0.2 b1.1 b1.2).mono ?_
    rintro e w' ⟨rfl, hb⟩
    exact ⟨ret_int (by simp only [valI]; omega), hb⟩
  have b2 := hby x2 (by simp)
  rcases d with _ | ⟨x3, d⟩
  · refine (number3 x0 x1 x2 0 0 w b0.1 b0.2 b1.1 b1.2 b2.1 b2.2).mono ?_
    rintro e w' ⟨rfl, hb⟩
    exact ⟨ret_int (by simp only [valI]; omega), hb⟩
  have b3 := hby x3 (by simp)
  rcases d with _ | ⟨x4, d⟩
  · refine (number4 x0 x1 x2 x3 0 w b0.1 b0.2 b1.1 b1.2 b2.1 b2.2 b3.1 b3.2).mono ?_
    rintro e w' ⟨rfl, hb⟩
    exact ⟨ret_int (by simp only [valI]; omega), hb⟩
  have b4 := hby x4 (by simp)
  rcases d with _ | ⟨x5, d⟩
  · refine (number5 x0 x1 x2 x3 x4 w b0.1 b0.2 b1.1 b1.2 b2.1 b2.2 b3.1 b3.2 b4.1 b4.2).mono ?_
    rintro e w' ⟨rfl, hb⟩
    exact ⟨ret_int (by simp only [valI]; omega), hb⟩
  · simp at h5
end Go.Proofs.Ytnhebknckgffoaa

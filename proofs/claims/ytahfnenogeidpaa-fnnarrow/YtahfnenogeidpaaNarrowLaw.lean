/- The law of narrowed words returns true at all bytes, and writes nothing that was there. -/
import Derived.Test.YtahfnenogeidpaaDrawN
namespace Go.Proofs.Ytahfnenogeidpaa
open Go.RowKit
set_option linter.unusedVariables false

theorem and_sub (a b : Int) : (bits .andNot .i64 (bits .and .i64 a b) a == 0) = true := by
  have h : bits .andNot .i64 (bits .and .i64 a b) a = 0 := by
    show IntKind.i64.wrap (((BitVec.ofInt 64 (IntKind.i64.wrap (((BitVec.ofInt 64 a &&& BitVec.ofInt 64 b).toNat : Nat) : Int)) &&& ~~~ BitVec.ofInt 64 a).toNat : Nat) : Int) = 0
    rw [back64]
    have e : (BitVec.ofInt 64 a &&& BitVec.ofInt 64 b) &&& ~~~ BitVec.ofInt 64 a = 0#64 := by
      apply BitVec.eq_of_getLsbD_eq
      intro i hi
      simp [hi]
      intro h _; exact h
    rw [e]; decide
  simp [h]

theorem and_sub2 (a b : Int) : (bits .andNot .i64 (bits .and .i64 (bits .and .i64 a b) b) a == 0) = true := by
  have h : bits .andNot .i64 (bits .and .i64 (bits .and .i64 a b) b) a = 0 := by
    show IntKind.i64.wrap (((BitVec.ofInt 64 (IntKind.i64.wrap (((BitVec.ofInt 64 (IntKind.i64.wrap (((BitVec.ofInt 64 a &&& BitVec.ofInt 64 b).toNat : Nat) : Int)) &&& BitVec.ofInt 64 b).toNat : Nat) : Int)) &&& ~~~ BitVec.ofInt 64 a).toNat : Nat) : Int) = 0
    rw [back64, back64]
    have e : ((BitVec.ofInt 64 a &&& BitVec.ofInt 64 b) &&& BitVec.ofInt 64 b) &&& ~~~ BitVec.ofInt 64 a = 0#64 := by
      apply BitVec.eq_of_getLsbD_eq
      intro i hi
      simp [hi]
      intro h _; exact h
    rw [e]; decide
  simp [h]

theorem and_range (a b : Int) (h0 : 0 ≤ a) (h1 : a ≤ 31) : 0 ≤ bits .and .i64 a b ∧ bits .and .i64 a b ≤ 31 := by
  have hle : (BitVec.ofInt 64 a &&& BitVec.ofInt 64 b).toNat ≤ 31 := by
    rw [BitVec.toNat_and]
    refine Nat.le_trans Nat.and_le_left ?_
    rw [BitVec.toNat_ofInt]
    omega
  have e : bits .and .i64 a b = IntKind.i64.wrap (((BitVec.ofInt 64 a &&& BitVec.ofInt 64 b).toNat : Nat) : Int) := rfl
  rw [e, IntKind.wrap_i64]
  omega

theorem l4M (b : Bool) (w : World) :
    Calls Try.prog 12 #[.bool b] w fun e w' => e = .returned (.int .i64 (bif b then 1 else 0)) ∧ w' = w := by
  cases b
  · go_enter Try.func12, Try.ntmps12
    go_wp2
    go_ret
    exact ⟨rfl, rfl⟩
  · go_enter Try.func12, Try.ntmps12
    go_wp2
    go_ret
    exact ⟨rfl, rfl⟩

theorem below_seven {g B : Nat} {w w' : World} {u0 u1 u2 u3 u4 u5 u6 : Value} (hb : Below B w w') (hg : g < B) (hs : w.cell? ⟨g, 0, none⟩ = some u0 ∧ w.cell? ⟨g, 1, none⟩ = some u1 ∧ w.cell? ⟨g, 2, none⟩ = some u2 ∧ w.cell? ⟨g, 3, none⟩ = some u3 ∧ w.cell? ⟨g, 4, none⟩ = some u4 ∧ w.cell? ⟨g, 5, none⟩ = some u5 ∧ w.cell? ⟨g, 6, none⟩ = some u6) :
    w'.cell? ⟨g, 0, none⟩ = some u0 ∧ w'.cell? ⟨g, 1, none⟩ = some u1 ∧ w'.cell? ⟨g, 2, none⟩ = some u2 ∧ w'.cell? ⟨g, 3, none⟩ = some u3 ∧ w'.cell? ⟨g, 4, none⟩ = some u4 ∧ w'.cell? ⟨g, 5, none⟩ = some u5 ∧ w'.cell? ⟨g, 6, none⟩ = some u6 := by
  have e : ∀ i, w'.cell? ⟨g, i, none⟩ = w.cell? ⟨g, i, none⟩ := fun i => hb.cell hg
  rw [e, e, e, e, e, e, e]; exact hs

theorem seven_new (w : World) (u0 u1 u2 u3 u4 u5 u6 : Value) :
    (w.alloc (.cells #[u0, u1, u2, u3, u4, u5, u6] 24)).cell? ⟨w.heap.size, 0, none⟩ = some u0 ∧ (w.alloc (.cells #[u0, u1, u2, u3, u4, u5, u6] 24)).cell? ⟨w.heap.size, 1, none⟩ = some u1 ∧ (w.alloc (.cells #[u0, u1, u2, u3, u4, u5, u6] 24)).cell? ⟨w.heap.size, 2, none⟩ = some u2 ∧ (w.alloc (.cells #[u0, u1, u2, u3, u4, u5, u6] 24)).cell? ⟨w.heap.size, 3, none⟩ = some u3 ∧ (w.alloc (.cells #[u0, u1, u2, u3, u4, u5, u6] 24)).cell? ⟨w.heap.size, 4, none⟩ = some u4 ∧ (w.alloc (.cells #[u0, u1, u2, u3, u4, u5, u6] 24)).cell? ⟨w.heap.size, 5, none⟩ = some u5 ∧ (w.alloc (.cells #[u0, u1, u2, u3, u4, u5, u6] 24)).cell? ⟨w.heap.size, 6, none⟩ = some u6 :=
  seven_first (row_facts (heap_alloc_new w _))

set_option maxRecDepth 100000 in
set_option maxHeartbeats 4000000 in
theorem narrow_law (a0 : Option Addr) (len0 cap0 : Nat) (z0 : List Int) (w : World) (w0 : RowIn .u8 w a0 len0 cap0 z0) :
    Calls Try.prog 3 #[.slice a0 len0 cap0] w fun e w' => e = .returned (.bool true) ∧ Below w.heap.size w w' := by
  obtain ⟨hr, hlc, hm⟩ := w0.row
  unfold maxLen at hm
  go_enter Try.func3, Try.ntmps3
  go_wp2_with fail
  refine (drawNarrowM a0 len0 cap0 _ _ hr (by omega)).mono ?_
  rintro e w1 ⟨xt, xn, xl, xh, xa, xp, xs, lo, hi, p, rfl, hB1⟩
  clear w0 hr hm hlc
  have HX := seven_new w1 (.bool xt) (.int .i64 xn) (.int .i64 xl) (.int .i64 xh) (.int .i64 xa) (.int .i64 xp) (.int .i64 xs)
  have hB2 := hB1.alloc hB1.size (.cells #[.bool xt, .int .i64 xn, .int .i64 xl, .int .i64 xh, .int .i64 xa, .int .i64 xp, .int .i64 xs] 24)
  have hs2 : w1.heap.size < (w1.alloc (.cells #[.bool xt, .int .i64 xn, .int .i64 xl, .int .i64 xh, .int .i64 xa, .int .i64 xp, .int .i64 xs] 24)).heap.size := by simp
  have hs1 := hB1.size
  go_wp2_with fail
  obtain ⟨g, hg⟩ : ∃ g, g = w1.heap.size := ⟨_, rfl⟩
  rw [← hg] at HX hs2 hs1 ⊢
  generalize w1.alloc (.cells #[.bool xt, .int .i64 xn, .int .i64 xl, .int .i64 xh, .int .i64 xa, .int .i64 xp, .int .i64 xs] 24) = w2 at *
  clear hB1 hg
  have HN := implNarrowM xt xn xl xh xa xp xs lo hi p
  cases hn : narB xt xn xl xh xa xp xs lo hi
  · rw [hn] at HN
    simp only [sel, cond_false] at HN
    refine (HN _).mono ?_
    rintro e w3 ⟨rfl, hb3⟩
    have HX3 := below_seven hb3 hs2 HX
    have hB3 := hB2.trans (hb3.mono hB2.size)
    have hs3 := Nat.lt_of_lt_of_le hs2 hb3.size
    clear HX hB2 hb3 hs2 HN
    have HO := specOkM xt xn xl xh xa xp xs
    cases hok : okB xt xn xl xh xa xp xs
    · rw [hok] at HO
      clear hn hok
      have hne : g ≠ w3.heap.size := by omega
      go_wp2_with fail
      refine (HO _).mono ?_
      rintro e w4 ⟨rfl, o, d, rfl⟩
      go_wp2_with fail
      go_ret
      exact ⟨rfl, (by repeat (first | exact Below.refl _ _ | assumption | (refine below_drewN ?_ _) | apply Below.drew | (refine Below.alloc ?_ ?_ _) | (refine Below.setCell ?_ ?_ _) | omega | (simp; omega) | simp))⟩
    · rw [hok] at HO
      have hw := way_iff xt xn xl xh xa xp xs
      rw [hok, Bool.true_and] at hw
      have hne : g ≠ w3.heap.size := by omega
      go_wp2_with fail
      refine (HO _).mono ?_
      rintro e w4 ⟨rfl, o, d, rfl⟩
      have hb4 : Below w3.heap.size w3 ((((w3.alloc (.cells #[.bool false, .int .i64 0, .int .i64 0, .int .i64 0, .int .i64 0, .int .i64 0, .int .i64 0] 24)).alloc o).drewN d)) := (by repeat (first | exact Below.refl _ _ | assumption | (refine below_drewN ?_ _) | apply Below.drew | (refine Below.alloc ?_ ?_ _) | (refine Below.setCell ?_ ?_ _) | omega | (simp; omega) | simp))
      have HX4 := below_seven hb4 hs3 HX3
      have hB4 := hB3.trans (hb4.mono hB3.size)
      generalize ((w3.alloc (.cells #[.bool false, .int .i64 0, .int .i64 0, .int .i64 0, .int .i64 0, .int .i64 0, .int .i64 0] 24)).alloc o).drewN d = w4 at *
      clear HX3 hb4 hB3 HO
      cases xt
      · go_wp2_with fail
        go_ret
        exact ⟨rfl, hB4⟩
      · by_cases hxs : 0 < xs
        · go_wp2_with fail
          go_ret
          exact ⟨rfl, hB4⟩
        · by_cases hc : lo < xl ∨ xh < hi ∨ hi < lo
          · go_wp2_with fail
            all_goals first | (exfalso; omega) | go_ret
            all_goals exact ⟨rb (by first | rfl | (simp; omega)), hB4⟩
          · exfalso
            have h0 : xs = 0 := by
              simp only [okB, isIntB, entryB, wayB, inR, Bool.or_eq_true, Bool.and_eq_true, decide_eq_true_eq, beq_iff_eq, Bool.not_true, Bool.false_eq_true, false_and, false_or, true_and] at hok
              omega
            subst h0
            have hw' : wayB true xn xl xh xa xp 0 = true := by rw [← hw]; rfl
            rw [narB, hw'] at hn
            simp at hn
            omega
  · rw [hn] at HN
    simp only [sel, cond_true] at HN
    obtain ⟨hway, h1, h2, h3⟩ : wayB xt xn xl xh xa xp xs = true ∧ xl ≤ lo ∧ hi ≤ xh ∧ lo ≤ hi := by simpa [narB] using hn
    obtain ⟨rfl, rfl, rfl, ⟨hp0, hp1⟩, hl0, hlh, hh4, ha0, ha1⟩ := way_parts xt xn xl xh xa xp xs hway
    have hpr := and_range xp p hp0 hp1
    have hsub := and_sub xp p
    have hsub2 := and_sub2 xp p
    obtain ⟨pm, hpm⟩ : ∃ pm, pm = bits .and .i64 xp p := ⟨_, rfl⟩
    rw [← hpm] at HN hpr hsub hsub2
    have hsub3 := and_sub pm p
    obtain ⟨pm2, hpm2⟩ : ∃ pm2, pm2 = bits .and .i64 pm p := ⟨_, rfl⟩
    rw [← hpm2] at hsub2 hsub3
    clear hn hpm
    have hwr : wayB true 0 lo hi lo pm 0 = true := by simp [wayB, inR]; omega
    have hbase : ∃ hi2, hi2 = hi - (bif decide (lo < hi) then 1 else 0) := ⟨_, rfl⟩
    obtain ⟨hi2, hhi2⟩ := hbase
    have hy1 : lo ≤ hi2 ∧ hi2 ≤ hi := by
      rw [hhi2]
      by_cases h : lo < hi
      · simp [h]; omega
      · simp [h]; omega
    obtain ⟨hy1, hy2⟩ := hy1
    have hpr2 : 0 ≤ pm2 ∧ pm2 ≤ 31 := by rw [hpm2]; exact and_range pm p hpr.1 hpr.2
    have hwy : wayB true 0 lo hi2 lo pm2 0 = true := by simp [wayB, inR]; omega
    have hwz : wayB true 0 lo hi (lo + 3) pm 0 = true := by simp [wayB, inR]; omega
    have H2 : ∀ w, Calls Try.prog 10 #[.agg #[.bool true, .int .i64 0, .int .i64 lo, .int .i64 hi, .int .i64 lo, .int .i64 pm, .int .i64 0], .int .i64 lo, .int .i64 hi2, .int .i64 p] w fun e w' => e = .returned (.tuple #[.agg #[.bool true, .int .i64 0, .int .i64 lo, .int .i64 hi2, .int .i64 lo, .int .i64 pm2, .int .i64 0], .bool true]) ∧ Below w.heap.size w w' := by
      intro w
      have h := implNarrowM true 0 lo hi lo pm 0 lo hi2 p w
      have hb : narB true 0 lo hi lo pm 0 lo hi2 = true := by rw [narB, hwr]; simp; omega
      rw [hb, ← hpm2] at h
      exact h
    have H3 : ∀ w, Calls Try.prog 13 #[.agg #[.bool true, .int .i64 0, .int .i64 lo, .int .i64 hi, .int .i64 lo, .int .i64 pm, .int .i64 0], .int .i64 3] w fun e w' => e = .returned (.tuple #[.agg #[.bool true, .int .i64 0, .int .i64 lo, .int .i64 hi, .int .i64 (lo + 3), .int .i64 pm, .int .i64 0], .bool true]) ∧ Below w.heap.size w w' := by
      intro w
      have h := implShiftM true 0 lo hi lo pm 0 3 w
      have hb : shB true 0 lo hi lo pm 0 3 = true := by rw [shB, hwr]; simp [inR]; omega
      rw [hb] at h
      exact h
    have H4 : ∀ w, Calls Try.prog 14 #[.agg #[.bool true, .int .i64 0, .int .i64 lo, .int .i64 hi, .int .i64 lo, .int .i64 pm, .int .i64 0]] w fun e w' => e = .returned (.bool true) ∧ Below w.heap.size w w' := by
      intro w
      have h := implOkM true 0 lo hi lo pm 0 ⟨by decide, by decide⟩ w
      have hb : okB true 0 lo hi lo pm 0 = true := by rw [okB, hwr]; simp
      rw [hb] at h
      exact h
    have H5 : ∀ w, Calls Try.prog 15 #[.agg #[.bool true, .int .i64 0, .int .i64 lo, .int .i64 hi, .int .i64 lo, .int .i64 pm, .int .i64 0], .agg #[.bool true, .int .i64 0, .int .i64 xl, .int .i64 xh, .int .i64 xa, .int .i64 xp, .int .i64 0]] w fun e w' => e = .returned (.bool true) ∧ Below w.heap.size w w' := by
      intro w
      have h := implWithinM true 0 lo hi lo pm 0 true 0 xl xh xa xp 0 w
      have hb : withinB true 0 lo hi lo pm 0 true 0 xl xh xa xp 0 = true := by rw [withinB, hwr, hway, hsub]; simp; omega
      rw [hb] at h
      exact h
    have H6 : ∀ w, Calls Try.prog 15 #[.agg #[.bool true, .int .i64 0, .int .i64 lo, .int .i64 hi2, .int .i64 lo, .int .i64 pm2, .int .i64 0], .agg #[.bool true, .int .i64 0, .int .i64 xl, .int .i64 xh, .int .i64 xa, .int .i64 xp, .int .i64 0]] w fun e w' => e = .returned (.bool true) ∧ Below w.heap.size w w' := by
      intro w
      have h := implWithinM true 0 lo hi2 lo pm2 0 true 0 xl xh xa xp 0 w
      have hb : withinB true 0 lo hi2 lo pm2 0 true 0 xl xh xa xp 0 = true := by rw [withinB, hwy, hway, hsub2]; simp; omega
      rw [hb] at h
      exact h
    have H7 : ∀ w, Calls Try.prog 15 #[.agg #[.bool true, .int .i64 0, .int .i64 lo, .int .i64 hi2, .int .i64 lo, .int .i64 pm2, .int .i64 0], .agg #[.bool true, .int .i64 0, .int .i64 lo, .int .i64 hi, .int .i64 lo, .int .i64 pm, .int .i64 0]] w fun e w' => e = .returned (.bool true) ∧ Below w.heap.size w w' := by
      intro w
      have h := implWithinM true 0 lo hi2 lo pm2 0 true 0 lo hi lo pm 0 w
      have hb : withinB true 0 lo hi2 lo pm2 0 true 0 lo hi lo pm 0 = true := by rw [withinB, hwy, hwr, hsub3]; simp; omega
      rw [hb] at h
      exact h
    have H8 : ∀ w, Calls Try.prog 15 #[.agg #[.bool true, .int .i64 0, .int .i64 lo, .int .i64 hi, .int .i64 (lo + 3), .int .i64 pm, .int .i64 0], .agg #[.bool true, .int .i64 0, .int .i64 xl, .int .i64 xh, .int .i64 xa, .int .i64 xp, .int .i64 0]] w fun e w' => e = .returned (.bool true) ∧ Below w.heap.size w w' := by
      intro w
      have h := implWithinM true 0 lo hi (lo + 3) pm 0 true 0 xl xh xa xp 0 w
      have hb : withinB true 0 lo hi (lo + 3) pm 0 true 0 xl xh xa xp 0 = true := by rw [withinB, hwz, hway, hsub]; simp; omega
      rw [hb] at h
      exact h
    have H9 : ∀ w, Calls Try.prog 15 #[.agg #[.bool true, .int .i64 0, .int .i64 xl, .int .i64 xh, .int .i64 xa, .int .i64 xp, .int .i64 0], .agg #[.bool false, .int .i64 0, .int .i64 0, .int .i64 0, .int .i64 0, .int .i64 0, .int .i64 0]] w fun e w' => e = .returned (.bool false) ∧ Below w.heap.size w w' := by
      intro w
      have h := implWithinM true 0 xl xh xa xp 0 false 0 0 0 0 0 0 w
      have hb : withinB true 0 xl xh xa xp 0 false 0 0 0 0 0 0 = false := by simp [withinB, wayB]
      rw [hb] at h
      exact h
    clear hsub hsub2 hsub3 hwr hwy hwz hway hpr hpr2 hpm2
    refine (HN _).mono ?_
    rintro e w3 ⟨rfl, hb3⟩
    have HX3 := below_seven hb3 hs2 HX
    have hB3 := hB2.trans (hb3.mono hB2.size)
    have hs3 := Nat.lt_of_lt_of_le hs2 hb3.size
    clear HX hB2 hb3 hs2 HN
    have HX4 := below_seven ((Below.refl w3.heap.size w3).alloc (Nat.le_refl _) (.cells #[.bool true, .int .i64 0, .int .i64 lo, .int .i64 hi, .int .i64 lo, .int .i64 pm, .int .i64 0] 24)) hs3 HX3
    have HR4 := seven_new w3 (.bool true) (.int .i64 0) (.int .i64 lo) (.int .i64 hi) (.int .i64 lo) (.int .i64 pm) (.int .i64 0)
    have hB4 := hB3.alloc hB3.size (.cells #[.bool true, .int .i64 0, .int .i64 lo, .int .i64 hi, .int .i64 lo, .int .i64 pm, .int .i64 0] 24)
    have hk4 : w3.heap.size < (w3.alloc (.cells #[.bool true, .int .i64 0, .int .i64 lo, .int .i64 hi, .int .i64 lo, .int .i64 pm, .int .i64 0] 24)).heap.size := by simp
    go_wp2_with fail
    obtain ⟨k, hk⟩ : ∃ k, k = w3.heap.size := ⟨_, rfl⟩
    rw [← hk] at HR4 hk4 ⊢
    have hgk : g < k := by omega
    generalize w3.alloc (.cells #[.bool true, .int .i64 0, .int .i64 lo, .int .i64 hi, .int .i64 lo, .int .i64 pm, .int .i64 0] 24) = w4 at *
    clear HX3 hB3 hk hs3
    have hi64 : -9223372036854775808 ≤ hi ∧ hi ≤ 9223372036854775807 := by omega
    have HR0 : w4.drew.cell? ⟨k, 0, none⟩ = some (.bool true) ∧ w4.drew.cell? ⟨k, 1, none⟩ = some (.int .i64 0) ∧ w4.drew.cell? ⟨k, 2, none⟩ = some (.int .i64 lo) ∧ w4.drew.cell? ⟨k, 3, none⟩ = some (.int .i64 hi) ∧ w4.drew.cell? ⟨k, 4, none⟩ = some (.int .i64 lo) ∧ w4.drew.cell? ⟨k, 5, none⟩ = some (.int .i64 pm) ∧ w4.drew.cell? ⟨k, 6, none⟩ = some (.int .i64 0) := HR4
    have HX0 : w4.drew.cell? ⟨g, 0, none⟩ = some (.bool true) ∧ w4.drew.cell? ⟨g, 1, none⟩ = some (.int .i64 0) ∧ w4.drew.cell? ⟨g, 2, none⟩ = some (.int .i64 xl) ∧ w4.drew.cell? ⟨g, 3, none⟩ = some (.int .i64 xh) ∧ w4.drew.cell? ⟨g, 4, none⟩ = some (.int .i64 xa) ∧ w4.drew.cell? ⟨g, 5, none⟩ = some (.int .i64 xp) ∧ w4.drew.cell? ⟨g, 6, none⟩ = some (.int .i64 0) := HX4
    have hsa : ((w4.alloc (.cells #[.bool false, .int .i64 0, .int .i64 0, .int .i64 0, .int .i64 0, .int .i64 0, .int .i64 0] 24)).drew).heap.size = w4.heap.size + 1 := by simp
    have hBaa : w4.heap.size ≤ ((w4.alloc (.cells #[.bool false, .int .i64 0, .int .i64 0, .int .i64 0, .int .i64 0, .int .i64 0, .int .i64 0] 24)).drew).heap.size := by rw [hsa]; omega
    have HRa : (w4.alloc (.cells #[.bool false, .int .i64 0, .int .i64 0, .int .i64 0, .int .i64 0, .int .i64 0, .int .i64 0] 24)).drew.cell? ⟨k, 0, none⟩ = some (.bool true) ∧ (w4.alloc (.cells #[.bool false, .int .i64 0, .int .i64 0, .int .i64 0, .int .i64 0, .int .i64 0, .int .i64 0] 24)).drew.cell? ⟨k, 1, none⟩ = some (.int .i64 0) ∧ (w4.alloc (.cells #[.bool false, .int .i64 0, .int .i64 0, .int .i64 0, .int .i64 0, .int .i64 0, .int .i64 0] 24)).drew.cell? ⟨k, 2, none⟩ = some (.int .i64 lo) ∧ (w4.alloc (.cells #[.bool false, .int .i64 0, .int .i64 0, .int .i64 0, .int .i64 0, .int .i64 0, .int .i64 0] 24)).drew.cell? ⟨k, 3, none⟩ = some (.int .i64 hi) ∧ (w4.alloc (.cells #[.bool false, .int .i64 0, .int .i64 0, .int .i64 0, .int .i64 0, .int .i64 0, .int .i64 0] 24)).drew.cell? ⟨k, 4, none⟩ = some (.int .i64 lo) ∧ (w4.alloc (.cells #[.bool false, .int .i64 0, .int .i64 0, .int .i64 0, .int .i64 0, .int .i64 0, .int .i64 0] 24)).drew.cell? ⟨k, 5, none⟩ = some (.int .i64 pm) ∧ (w4.alloc (.cells #[.bool false, .int .i64 0, .int .i64 0, .int .i64 0, .int .i64 0, .int .i64 0, .int .i64 0] 24)).drew.cell? ⟨k, 6, none⟩ = some (.int .i64 0) := below_seven (w := w4) ((Below.refl w4.heap.size w4).alloc (Nat.le_refl _) (.cells #[.bool false, .int .i64 0, .int .i64 0, .int .i64 0, .int .i64 0, .int .i64 0, .int .i64 0] 24)).drew hk4 HR4
    have HXa : (w4.alloc (.cells #[.bool false, .int .i64 0, .int .i64 0, .int .i64 0, .int .i64 0, .int .i64 0, .int .i64 0] 24)).drew.cell? ⟨g, 0, none⟩ = some (.bool true) ∧ (w4.alloc (.cells #[.bool false, .int .i64 0, .int .i64 0, .int .i64 0, .int .i64 0, .int .i64 0, .int .i64 0] 24)).drew.cell? ⟨g, 1, none⟩ = some (.int .i64 0) ∧ (w4.alloc (.cells #[.bool false, .int .i64 0, .int .i64 0, .int .i64 0, .int .i64 0, .int .i64 0, .int .i64 0] 24)).drew.cell? ⟨g, 2, none⟩ = some (.int .i64 xl) ∧ (w4.alloc (.cells #[.bool false, .int .i64 0, .int .i64 0, .int .i64 0, .int .i64 0, .int .i64 0, .int .i64 0] 24)).drew.cell? ⟨g, 3, none⟩ = some (.int .i64 xh) ∧ (w4.alloc (.cells #[.bool false, .int .i64 0, .int .i64 0, .int .i64 0, .int .i64 0, .int .i64 0, .int .i64 0] 24)).drew.cell? ⟨g, 4, none⟩ = some (.int .i64 xa) ∧ (w4.alloc (.cells #[.bool false, .int .i64 0, .int .i64 0, .int .i64 0, .int .i64 0, .int .i64 0, .int .i64 0] 24)).drew.cell? ⟨g, 5, none⟩ = some (.int .i64 xp) ∧ (w4.alloc (.cells #[.bool false, .int .i64 0, .int .i64 0, .int .i64 0, .int .i64 0, .int .i64 0, .int .i64 0] 24)).drew.cell? ⟨g, 6, none⟩ = some (.int .i64 0) := below_seven (w := w4) ((Below.refl w4.heap.size w4).alloc (Nat.le_refl _) (.cells #[.bool false, .int .i64 0, .int .i64 0, .int .i64 0, .int .i64 0, .int .i64 0, .int .i64 0] 24)).drew (Nat.lt_trans hgk hk4) HX4
    have hBa : Below w.heap.size w ((w4.alloc (.cells #[.bool false, .int .i64 0, .int .i64 0, .int .i64 0, .int .i64 0, .int .i64 0, .int .i64 0] 24)).drew) := (hB4.alloc hB4.size _).drew
    have hza : ((w4.alloc (.cells #[.bool false, .int .i64 0, .int .i64 0, .int .i64 0, .int .i64 0, .int .i64 0, .int .i64 0] 24)).drew).heap[w4.heap.size]? = some (.cells #[.bool false, .int .i64 0, .int .i64 0, .int .i64 0, .int .i64 0, .int .i64 0, .int .i64 0] 24) := heap_alloc_new w4 _
    have hka : k < ((w4.alloc (.cells #[.bool false, .int .i64 0, .int .i64 0, .int .i64 0, .int .i64 0, .int .i64 0, .int .i64 0] 24)).drew).heap.size := Nat.lt_of_lt_of_le hk4 hBaa
    have hma : w4.heap.size < ((w4.alloc (.cells #[.bool false, .int .i64 0, .int .i64 0, .int .i64 0, .int .i64 0, .int .i64 0, .int .i64 0] 24)).drew).heap.size := Nat.lt_of_lt_of_le (Nat.lt_succ_self _) (Nat.le_of_eq hsa.symm)
    have hmk : k ≠ w4.heap.size := by omega
    by_cases hlt : lo < hi
    ·
      have hdec : decide (lo < hi) = true := by simpa using hlt
      have HL : ∀ w, Calls Try.prog 12 #[.bool true] w fun e w' => e = .returned (.int .i64 1) ∧ w = w' := fun w => (l4M true w).mono (fun e w' h => ⟨h.1, h.2.symm⟩)
      have he2 : IntKind.i64.wrap (hi - 1) = hi2 := by rw [hhi2, hdec, IntKind.wrap_i64]; simp only [cond_true]; omega
      clear hdec hhi2
      go_region_held3 (fun wx => wx.cell? ⟨k, 0, none⟩ = some (.bool true) ∧ wx.cell? ⟨k, 1, none⟩ = some (.int .i64 0) ∧ wx.cell? ⟨k, 2, none⟩ = some (.int .i64 lo) ∧ wx.cell? ⟨k, 3, none⟩ = some (.int .i64 hi) ∧ wx.cell? ⟨k, 4, none⟩ = some (.int .i64 lo) ∧ wx.cell? ⟨k, 5, none⟩ = some (.int .i64 pm) ∧ wx.cell? ⟨k, 6, none⟩ = some (.int .i64 0)) (with_reducible assumption) (first
        | (go_at_call 12; (with_reducible refine (HL _).mono ?_); rintro e wq ⟨rfl, rfl⟩)
        | (go_at_call 10; (with_reducible refine (H2 _).mono ?_); rintro e wl ⟨rfl, hbl⟩; first
            | ((with_reducible have hbA : Below w4.drew.heap.size w4.drew wl := hbl); have HRl := below_seven hbA (by exact hk4) HR0; have HXl := below_seven hbA (by exact Nat.lt_trans hgk hk4) HX0; have hBl : Below w.heap.size w wl := hB4.drew.trans (hbA.mono (by exact hB4.size)); have hkl : k < wl.heap.size := Nat.lt_of_lt_of_le hk4 hbA.size; have HRz := below_seven ((Below.refl wl.heap.size wl).alloc (Nat.le_refl _) (.cells #[.bool false, .int .i64 0, .int .i64 0, .int .i64 0, .int .i64 0, .int .i64 0, .int .i64 0] 24)) hkl HRl; have HRy := below_seven ((Below.refl wl.heap.size wl).alloc (Nat.le_refl _) (.cells #[.bool true, .int .i64 0, .int .i64 lo, .int .i64 hi2, .int .i64 lo, .int .i64 pm2, .int .i64 0] 24)) hkl HRl)
            | ((with_reducible have hbA : Below ((w4.alloc (.cells #[.bool false, .int .i64 0, .int .i64 0, .int .i64 0, .int .i64 0, .int .i64 0, .int .i64 0] 24)).drew).heap.size ((w4.alloc (.cells #[.bool false, .int .i64 0, .int .i64 0, .int .i64 0, .int .i64 0, .int .i64 0, .int .i64 0] 24)).drew) wl := hbl); have HRl := below_seven hbA hka HRa; have HXl := below_seven hbA (Nat.lt_trans hgk hka) HXa; have hBl : Below w.heap.size w wl := hBa.trans (hbA.mono hBa.size); have hkl : k < wl.heap.size := Nat.lt_of_lt_of_le hka hbA.size; have hml : w4.heap.size < wl.heap.size := Nat.lt_of_lt_of_le hma hbA.size; have hzl : wl.heap[w4.heap.size]? = _ := (hbA.block _ hma).trans hza; have hfacts := row_facts hzl; obtain ⟨c0, c1, c2, c3, c4, c5, c6, f0, f1, f2, f3, f4, f5, f6⟩ := hfacts; have HRp := seven_of _ _ _ _ _ _ _ (put7_other (w := wl) (j := w4.heap.size) (.bool true) (.int .i64 0) (.int .i64 lo) (.int .i64 hi2) (.int .i64 lo) (.int .i64 pm2) (.int .i64 0) hmk) HRl)))
      ·
        have HX5 := below_seven ((Below.refl wl.heap.size wl).alloc (Nat.le_refl _) (.cells #[.bool true, .int .i64 0, .int .i64 lo, .int .i64 hi2, .int .i64 lo, .int .i64 pm2, .int .i64 0] 24)) (Nat.lt_trans hgk hkl) HXl
        have HY5 := seven_new wl (.bool true) (.int .i64 0) (.int .i64 lo) (.int .i64 hi2) (.int .i64 lo) (.int .i64 pm2) (.int .i64 0)
        have hB5 := hBl.alloc hBl.size (.cells #[.bool true, .int .i64 0, .int .i64 lo, .int .i64 hi2, .int .i64 lo, .int .i64 pm2, .int .i64 0] 24)
        have hm5 : wl.heap.size < (wl.alloc (.cells #[.bool true, .int .i64 0, .int .i64 lo, .int .i64 hi2, .int .i64 lo, .int .i64 pm2, .int .i64 0] 24)).heap.size := by simp
        obtain ⟨m, hm⟩ : ∃ m, m = wl.heap.size := ⟨_, rfl⟩
        rw [← hm] at HY5 hm5 ⊢
        have hkm : k < m := by omega
        generalize wl.alloc (.cells #[.bool true, .int .i64 0, .int .i64 lo, .int .i64 hi2, .int .i64 lo, .int .i64 pm2, .int .i64 0] 24) = w5 at *
        clear HX4 HX0 HR4 HR0 hB4 hk4 HXl HRl hBl hkl HRz hbl hbA hm HL he2 H2 HRa HXa hBa hza hka hma hsa hBaa hmk
        go_wp2_with fail
        refine (H3 _).mono ?_
        rintro e w6 ⟨rfl, hb6⟩
        have HX6 := below_seven hb6 (Nat.lt_trans hgk (Nat.lt_trans hkm hm5)) HX5
        have HR6 := below_seven hb6 (Nat.lt_trans hkm hm5) HRy
        have HY6 := below_seven hb6 hm5 HY5
        have hB6 := hB5.trans (hb6.mono hB5.size)
        have hm6 := Nat.lt_of_lt_of_le hm5 hb6.size
        clear HX5 HRy HY5 hB5 hm5 hb6 H3
        have hz1 : g ≠ w6.heap.size := by omega
        have hz2 : k ≠ w6.heap.size := by omega
        have hz3 : m ≠ w6.heap.size := by omega
        have hbz : Below w6.heap.size w6 (w6.alloc (.cells #[.bool true, .int .i64 0, .int .i64 lo, .int .i64 hi, .int .i64 (lo + 3), .int .i64 pm, .int .i64 0] 24)) := (Below.refl _ _).alloc (Nat.le_refl _) _
        have HX7 := below_seven hbz (Nat.lt_trans hgk (Nat.lt_trans hkm hm6)) HX6
        have HR7 := below_seven hbz (Nat.lt_trans hkm hm6) HR6
        have HY7 := below_seven hbz hm6 HY6
        have HZ7 := seven_new w6 (.bool true) (.int .i64 0) (.int .i64 lo) (.int .i64 hi) (.int .i64 (lo + 3)) (.int .i64 pm) (.int .i64 0)
        have hB7 := hB6.trans (hbz.mono hB6.size)
        have hq7 : w6.heap.size < (w6.alloc (.cells #[.bool true, .int .i64 0, .int .i64 lo, .int .i64 hi, .int .i64 (lo + 3), .int .i64 pm, .int .i64 0] 24)).heap.size := by simp
        go_wp2_with fail
        obtain ⟨q, hq⟩ : ∃ q, q = w6.heap.size := ⟨_, rfl⟩
        rw [← hq] at HZ7 hq7 ⊢
        have hmq : m < q := by omega
        generalize w6.alloc (.cells #[.bool true, .int .i64 0, .int .i64 lo, .int .i64 hi, .int .i64 (lo + 3), .int .i64 pm, .int .i64 0] 24) = w7 at *
        clear HX6 HR6 HY6 hB6 hm6 hbz hz1 hz2 hz3 hq
        refine (H4 _).mono ?_
        rintro e w8 ⟨rfl, hb⟩
        have HX8 := below_seven hb (Nat.lt_trans hgk (Nat.lt_trans hkm (Nat.lt_trans hmq hq7))) HX7
        have HR8 := below_seven hb (Nat.lt_trans hkm (Nat.lt_trans hmq hq7)) HR7
        have HY8 := below_seven hb (Nat.lt_trans hmq hq7) HY7
        have HZ8 := below_seven hb hq7 HZ7
        have hB8 := hB7.trans (hb.mono hB7.size)
        have hq8 := Nat.lt_of_lt_of_le hq7 hb.size
        clear hb HX7 HR7 HY7 HZ7 hB7 hq7 H4
        go_wp2_with fail
        refine (H5 _).mono ?_
        rintro e w9 ⟨rfl, hb⟩
        have HX9 := below_seven hb (Nat.lt_trans hgk (Nat.lt_trans hkm (Nat.lt_trans hmq hq8))) HX8
        have HR9 := below_seven hb (Nat.lt_trans hkm (Nat.lt_trans hmq hq8)) HR8
        have HY9 := below_seven hb (Nat.lt_trans hmq hq8) HY8
        have HZ9 := below_seven hb hq8 HZ8
        have hB9 := hB8.trans (hb.mono hB8.size)
        have hq9 := Nat.lt_of_lt_of_le hq8 hb.size
        clear hb HX8 HR8 HY8 HZ8 hB8 hq8 H5
        go_wp2_with fail
        refine (H6 _).mono ?_
        rintro e w10 ⟨rfl, hb⟩
        have HX10 := below_seven hb (Nat.lt_trans hgk (Nat.lt_trans hkm (Nat.lt_trans hmq hq9))) HX9
        have HR10 := below_seven hb (Nat.lt_trans hkm (Nat.lt_trans hmq hq9)) HR9
        have HY10 := below_seven hb (Nat.lt_trans hmq hq9) HY9
        have HZ10 := below_seven hb hq9 HZ9
        have hB10 := hB9.trans (hb.mono hB9.size)
        have hq10 := Nat.lt_of_lt_of_le hq9 hb.size
        clear hb HX9 HR9 HY9 HZ9 hB9 hq9 H6
        go_wp2_with fail
        refine (H7 _).mono ?_
        rintro e w11 ⟨rfl, hb⟩
        have HX11 := below_seven hb (Nat.lt_trans hgk (Nat.lt_trans hkm (Nat.lt_trans hmq hq10))) HX10
        have HR11 := below_seven hb (Nat.lt_trans hkm (Nat.lt_trans hmq hq10)) HR10
        have HY11 := below_seven hb (Nat.lt_trans hmq hq10) HY10
        have HZ11 := below_seven hb hq10 HZ10
        have hB11 := hB10.trans (hb.mono hB10.size)
        have hq11 := Nat.lt_of_lt_of_le hq10 hb.size
        clear hb HX10 HR10 HY10 HZ10 hB10 hq10 H7
        go_wp2_with fail
        refine (H8 _).mono ?_
        rintro e w12 ⟨rfl, hb⟩
        have HX12 := below_seven hb (Nat.lt_trans hgk (Nat.lt_trans hkm (Nat.lt_trans hmq hq11))) HX11
        have HR12 := below_seven hb (Nat.lt_trans hkm (Nat.lt_trans hmq hq11)) HR11
        have HY12 := below_seven hb (Nat.lt_trans hmq hq11) HY11
        have HZ12 := below_seven hb hq11 HZ11
        have hB12 := hB11.trans (hb.mono hB11.size)
        have hq12 := Nat.lt_of_lt_of_le hq11 hb.size
        clear hb HX11 HR11 HY11 HZ11 hB11 hq11 H8
        go_wp2_with fail
        refine (H9 _).mono ?_
        rintro e w13 ⟨rfl, hb⟩
        have hB13 := hB12.trans (hb.mono hB12.size)
        go_wp2_with fail
        go_ret
        exact ⟨rfl, hB13⟩
      ·
        have HX5 := seven_of _ _ _ _ _ _ _ (put7_other (w := wl) (j := w4.heap.size) (k := g) (.bool true) (.int .i64 0) (.int .i64 lo) (.int .i64 hi2) (.int .i64 lo) (.int .i64 pm2) (.int .i64 0) (by omega)) HXl
        have HRy := HRp
        have HY5 : (put7 wl w4.heap.size (.bool true) (.int .i64 0) (.int .i64 lo) (.int .i64 hi2) (.int .i64 lo) (.int .i64 pm2) (.int .i64 0)).cell? ⟨w4.heap.size, 0, none⟩ = some (.bool true) ∧ (put7 wl w4.heap.size (.bool true) (.int .i64 0) (.int .i64 lo) (.int .i64 hi2) (.int .i64 lo) (.int .i64 pm2) (.int .i64 0)).cell? ⟨w4.heap.size, 1, none⟩ = some (.int .i64 0) ∧ (put7 wl w4.heap.size (.bool true) (.int .i64 0) (.int .i64 lo) (.int .i64 hi2) (.int .i64 lo) (.int .i64 pm2) (.int .i64 0)).cell? ⟨w4.heap.size, 2, none⟩ = some (.int .i64 lo) ∧ (put7 wl w4.heap.size (.bool true) (.int .i64 0) (.int .i64 lo) (.int .i64 hi2) (.int .i64 lo) (.int .i64 pm2) (.int .i64 0)).cell? ⟨w4.heap.size, 3, none⟩ = some (.int .i64 hi2) ∧ (put7 wl w4.heap.size (.bool true) (.int .i64 0) (.int .i64 lo) (.int .i64 hi2) (.int .i64 lo) (.int .i64 pm2) (.int .i64 0)).cell? ⟨w4.heap.size, 4, none⟩ = some (.int .i64 lo) ∧ (put7 wl w4.heap.size (.bool true) (.int .i64 0) (.int .i64 lo) (.int .i64 hi2) (.int .i64 lo) (.int .i64 pm2) (.int .i64 0)).cell? ⟨w4.heap.size, 5, none⟩ = some (.int .i64 pm2) ∧ (put7 wl w4.heap.size (.bool true) (.int .i64 0) (.int .i64 lo) (.int .i64 hi2) (.int .i64 lo) (.int .i64 pm2) (.int .i64 0)).cell? ⟨w4.heap.size, 6, none⟩ = some (.int .i64 0) := seven_first (row_facts (put7_block (.bool true) (.int .i64 0) (.int .i64 lo) (.int .i64 hi2) (.int .i64 lo) (.int .i64 pm2) (.int .i64 0) hzl))
        have hB5 : Below w.heap.size w (put7 wl w4.heap.size (.bool true) (.int .i64 0) (.int .i64 lo) (.int .i64 hi2) (.int .i64 lo) (.int .i64 pm2) (.int .i64 0)) := hBl.grown (put7_grown ..) hBl.size (by intro j hj; cases hj; exact hB4.size)
        have hm5 : w4.heap.size < (put7 wl w4.heap.size (.bool true) (.int .i64 0) (.int .i64 lo) (.int .i64 hi2) (.int .i64 lo) (.int .i64 pm2) (.int .i64 0)).heap.size := Nat.lt_of_lt_of_le hml (put7_grown ..).size
        have hkm : k < w4.heap.size := by omega
        have HX5' : (put7 wl w4.heap.size (.bool true) (.int .i64 0) (.int .i64 lo) (.int .i64 hi2) (.int .i64 lo) (.int .i64 pm2) (.int .i64 0)).cell? ⟨g, 0, none⟩ = some (.bool true) ∧ (put7 wl w4.heap.size (.bool true) (.int .i64 0) (.int .i64 lo) (.int .i64 hi2) (.int .i64 lo) (.int .i64 pm2) (.int .i64 0)).cell? ⟨g, 1, none⟩ = some (.int .i64 0) ∧ (put7 wl w4.heap.size (.bool true) (.int .i64 0) (.int .i64 lo) (.int .i64 hi2) (.int .i64 lo) (.int .i64 pm2) (.int .i64 0)).cell? ⟨g, 2, none⟩ = some (.int .i64 xl) ∧ (put7 wl w4.heap.size (.bool true) (.int .i64 0) (.int .i64 lo) (.int .i64 hi2) (.int .i64 lo) (.int .i64 pm2) (.int .i64 0)).cell? ⟨g, 3, none⟩ = some (.int .i64 xh) ∧ (put7 wl w4.heap.size (.bool true) (.int .i64 0) (.int .i64 lo) (.int .i64 hi2) (.int .i64 lo) (.int .i64 pm2) (.int .i64 0)).cell? ⟨g, 4, none⟩ = some (.int .i64 xa) ∧ (put7 wl w4.heap.size (.bool true) (.int .i64 0) (.int .i64 lo) (.int .i64 hi2) (.int .i64 lo) (.int .i64 pm2) (.int .i64 0)).cell? ⟨g, 5, none⟩ = some (.int .i64 xp) ∧ (put7 wl w4.heap.size (.bool true) (.int .i64 0) (.int .i64 lo) (.int .i64 hi2) (.int .i64 lo) (.int .i64 pm2) (.int .i64 0)).cell? ⟨g, 6, none⟩ = some (.int .i64 0) := HX5
        have HRy' : (put7 wl w4.heap.size (.bool true) (.int .i64 0) (.int .i64 lo) (.int .i64 hi2) (.int .i64 lo) (.int .i64 pm2) (.int .i64 0)).cell? ⟨k, 0, none⟩ = some (.bool true) ∧ (put7 wl w4.heap.size (.bool true) (.int .i64 0) (.int .i64 lo) (.int .i64 hi2) (.int .i64 lo) (.int .i64 pm2) (.int .i64 0)).cell? ⟨k, 1, none⟩ = some (.int .i64 0) ∧ (put7 wl w4.heap.size (.bool true) (.int .i64 0) (.int .i64 lo) (.int .i64 hi2) (.int .i64 lo) (.int .i64 pm2) (.int .i64 0)).cell? ⟨k, 2, none⟩ = some (.int .i64 lo) ∧ (put7 wl w4.heap.size (.bool true) (.int .i64 0) (.int .i64 lo) (.int .i64 hi2) (.int .i64 lo) (.int .i64 pm2) (.int .i64 0)).cell? ⟨k, 3, none⟩ = some (.int .i64 hi) ∧ (put7 wl w4.heap.size (.bool true) (.int .i64 0) (.int .i64 lo) (.int .i64 hi2) (.int .i64 lo) (.int .i64 pm2) (.int .i64 0)).cell? ⟨k, 4, none⟩ = some (.int .i64 lo) ∧ (put7 wl w4.heap.size (.bool true) (.int .i64 0) (.int .i64 lo) (.int .i64 hi2) (.int .i64 lo) (.int .i64 pm2) (.int .i64 0)).cell? ⟨k, 5, none⟩ = some (.int .i64 pm) ∧ (put7 wl w4.heap.size (.bool true) (.int .i64 0) (.int .i64 lo) (.int .i64 hi2) (.int .i64 lo) (.int .i64 pm2) (.int .i64 0)).cell? ⟨k, 6, none⟩ = some (.int .i64 0) := HRy
        clear HX5 HRy HRp
        have HX5 := HX5'
        have HRy := HRy'
        clear HX5' HRy'
        show Exit.then _ _ _ _ (put7 wl w4.heap.size (.bool true) (.int .i64 0) (.int .i64 lo) (.int .i64 hi2) (.int .i64 lo) (.int .i64 pm2) (.int .i64 0))
        generalize put7 wl w4.heap.size (.bool true) (.int .i64 0) (.int .i64 lo) (.int .i64 hi2) (.int .i64 lo) (.int .i64 pm2) (.int .i64 0) = w5 at *
        clear HX4 HX0 HR4 HR0 hB4 HXl HRl hBl hkl hbl hbA HL he2 H2 HRa HXa hBa hza hka hma hsa hBaa hmk hml hzl c0 c1 c2 c3 c4 c5 c6 f0 f1 f2 f3 f4 f5 f6
        go_wp2_with fail
        refine (H3 _).mono ?_
        rintro e w6 ⟨rfl, hb6⟩
        have HX6 := below_seven hb6 (Nat.lt_trans hgk (Nat.lt_trans hkm hm5)) HX5
        have HR6 := below_seven hb6 (Nat.lt_trans hkm hm5) HRy
        have HY6 := below_seven hb6 hm5 HY5
        have hB6 := hB5.trans (hb6.mono hB5.size)
        have hm6 := Nat.lt_of_lt_of_le hm5 hb6.size
        clear HX5 HRy HY5 hB5 hm5 hb6 H3
        have hz1 : g ≠ w6.heap.size := by omega
        have hz2 : k ≠ w6.heap.size := by omega
        have hz3 : w4.heap.size ≠ w6.heap.size := by omega
        have hbz : Below w6.heap.size w6 (w6.alloc (.cells #[.bool true, .int .i64 0, .int .i64 lo, .int .i64 hi, .int .i64 (lo + 3), .int .i64 pm, .int .i64 0] 24)) := (Below.refl _ _).alloc (Nat.le_refl _) _
        have HX7 := below_seven hbz (Nat.lt_trans hgk (Nat.lt_trans hkm hm6)) HX6
        have HR7 := below_seven hbz (Nat.lt_trans hkm hm6) HR6
        have HY7 := below_seven hbz hm6 HY6
        have HZ7 := seven_new w6 (.bool true) (.int .i64 0) (.int .i64 lo) (.int .i64 hi) (.int .i64 (lo + 3)) (.int .i64 pm) (.int .i64 0)
        have hB7 := hB6.trans (hbz.mono hB6.size)
        have hq7 : w6.heap.size < (w6.alloc (.cells #[.bool true, .int .i64 0, .int .i64 lo, .int .i64 hi, .int .i64 (lo + 3), .int .i64 pm, .int .i64 0] 24)).heap.size := by simp
        go_wp2_with fail
        obtain ⟨q, hq⟩ : ∃ q, q = w6.heap.size := ⟨_, rfl⟩
        rw [← hq] at HZ7 hq7 ⊢
        have hmq : w4.heap.size < q := by omega
        generalize w6.alloc (.cells #[.bool true, .int .i64 0, .int .i64 lo, .int .i64 hi, .int .i64 (lo + 3), .int .i64 pm, .int .i64 0] 24) = w7 at *
        clear HX6 HR6 HY6 hB6 hm6 hbz hz1 hz2 hz3 hq
        refine (H4 _).mono ?_
        rintro e w8 ⟨rfl, hb⟩
        have HX8 := below_seven hb (Nat.lt_trans hgk (Nat.lt_trans hkm (Nat.lt_trans hmq hq7))) HX7
        have HR8 := below_seven hb (Nat.lt_trans hkm (Nat.lt_trans hmq hq7)) HR7
        have HY8 := below_seven hb (Nat.lt_trans hmq hq7) HY7
        have HZ8 := below_seven hb hq7 HZ7
        have hB8 := hB7.trans (hb.mono hB7.size)
        have hq8 := Nat.lt_of_lt_of_le hq7 hb.size
        clear hb HX7 HR7 HY7 HZ7 hB7 hq7 H4
        go_wp2_with fail
        refine (H5 _).mono ?_
        rintro e w9 ⟨rfl, hb⟩
        have HX9 := below_seven hb (Nat.lt_trans hgk (Nat.lt_trans hkm (Nat.lt_trans hmq hq8))) HX8
        have HR9 := below_seven hb (Nat.lt_trans hkm (Nat.lt_trans hmq hq8)) HR8
        have HY9 := below_seven hb (Nat.lt_trans hmq hq8) HY8
        have HZ9 := below_seven hb hq8 HZ8
        have hB9 := hB8.trans (hb.mono hB8.size)
        have hq9 := Nat.lt_of_lt_of_le hq8 hb.size
        clear hb HX8 HR8 HY8 HZ8 hB8 hq8 H5
        go_wp2_with fail
        refine (H6 _).mono ?_
        rintro e w10 ⟨rfl, hb⟩
        have HX10 := below_seven hb (Nat.lt_trans hgk (Nat.lt_trans hkm (Nat.lt_trans hmq hq9))) HX9
        have HR10 := below_seven hb (Nat.lt_trans hkm (Nat.lt_trans hmq hq9)) HR9
        have HY10 := below_seven hb (Nat.lt_trans hmq hq9) HY9
        have HZ10 := below_seven hb hq9 HZ9
        have hB10 := hB9.trans (hb.mono hB9.size)
        have hq10 := Nat.lt_of_lt_of_le hq9 hb.size
        clear hb HX9 HR9 HY9 HZ9 hB9 hq9 H6
        go_wp2_with fail
        refine (H7 _).mono ?_
        rintro e w11 ⟨rfl, hb⟩
        have HX11 := below_seven hb (Nat.lt_trans hgk (Nat.lt_trans hkm (Nat.lt_trans hmq hq10))) HX10
        have HR11 := below_seven hb (Nat.lt_trans hkm (Nat.lt_trans hmq hq10)) HR10
        have HY11 := below_seven hb (Nat.lt_trans hmq hq10) HY10
        have HZ11 := below_seven hb hq10 HZ10
        have hB11 := hB10.trans (hb.mono hB10.size)
        have hq11 := Nat.lt_of_lt_of_le hq10 hb.size
        clear hb HX10 HR10 HY10 HZ10 hB10 hq10 H7
        go_wp2_with fail
        refine (H8 _).mono ?_
        rintro e w12 ⟨rfl, hb⟩
        have HX12 := below_seven hb (Nat.lt_trans hgk (Nat.lt_trans hkm (Nat.lt_trans hmq hq11))) HX11
        have HR12 := below_seven hb (Nat.lt_trans hkm (Nat.lt_trans hmq hq11)) HR11
        have HY12 := below_seven hb (Nat.lt_trans hmq hq11) HY11
        have HZ12 := below_seven hb hq11 HZ11
        have hB12 := hB11.trans (hb.mono hB11.size)
        have hq12 := Nat.lt_of_lt_of_le hq11 hb.size
        clear hb HX11 HR11 HY11 HZ11 hB11 hq11 H8
        go_wp2_with fail
        refine (H9 _).mono ?_
        rintro e w13 ⟨rfl, hb⟩
        have hB13 := hB12.trans (hb.mono hB12.size)
        go_wp2_with fail
        go_ret
        exact ⟨rfl, hB13⟩
      ·
        have HX5 := seven_of _ _ _ _ _ _ _ (put7_other (w := wl) (j := w4.heap.size) (k := g) (.bool true) (.int .i64 0) (.int .i64 lo) (.int .i64 hi2) (.int .i64 lo) (.int .i64 pm2) (.int .i64 0) (by omega)) HXl
        have HRy := HRp
        have HY5 : (put7 wl w4.heap.size (.bool true) (.int .i64 0) (.int .i64 lo) (.int .i64 hi2) (.int .i64 lo) (.int .i64 pm2) (.int .i64 0)).cell? ⟨w4.heap.size, 0, none⟩ = some (.bool true) ∧ (put7 wl w4.heap.size (.bool true) (.int .i64 0) (.int .i64 lo) (.int .i64 hi2) (.int .i64 lo) (.int .i64 pm2) (.int .i64 0)).cell? ⟨w4.heap.size, 1, none⟩ = some (.int .i64 0) ∧ (put7 wl w4.heap.size (.bool true) (.int .i64 0) (.int .i64 lo) (.int .i64 hi2) (.int .i64 lo) (.int .i64 pm2) (.int .i64 0)).cell? ⟨w4.heap.size, 2, none⟩ = some (.int .i64 lo) ∧ (put7 wl w4.heap.size (.bool true) (.int .i64 0) (.int .i64 lo) (.int .i64 hi2) (.int .i64 lo) (.int .i64 pm2) (.int .i64 0)).cell? ⟨w4.heap.size, 3, none⟩ = some (.int .i64 hi2) ∧ (put7 wl w4.heap.size (.bool true) (.int .i64 0) (.int .i64 lo) (.int .i64 hi2) (.int .i64 lo) (.int .i64 pm2) (.int .i64 0)).cell? ⟨w4.heap.size, 4, none⟩ = some (.int .i64 lo) ∧ (put7 wl w4.heap.size (.bool true) (.int .i64 0) (.int .i64 lo) (.int .i64 hi2) (.int .i64 lo) (.int .i64 pm2) (.int .i64 0)).cell? ⟨w4.heap.size, 5, none⟩ = some (.int .i64 pm2) ∧ (put7 wl w4.heap.size (.bool true) (.int .i64 0) (.int .i64 lo) (.int .i64 hi2) (.int .i64 lo) (.int .i64 pm2) (.int .i64 0)).cell? ⟨w4.heap.size, 6, none⟩ = some (.int .i64 0) := seven_first (row_facts (put7_block (.bool true) (.int .i64 0) (.int .i64 lo) (.int .i64 hi2) (.int .i64 lo) (.int .i64 pm2) (.int .i64 0) hzl))
        have hB5 : Below w.heap.size w (put7 wl w4.heap.size (.bool true) (.int .i64 0) (.int .i64 lo) (.int .i64 hi2) (.int .i64 lo) (.int .i64 pm2) (.int .i64 0)) := hBl.grown (put7_grown ..) hBl.size (by intro j hj; cases hj; exact hB4.size)
        have hm5 : w4.heap.size < (put7 wl w4.heap.size (.bool true) (.int .i64 0) (.int .i64 lo) (.int .i64 hi2) (.int .i64 lo) (.int .i64 pm2) (.int .i64 0)).heap.size := Nat.lt_of_lt_of_le hml (put7_grown ..).size
        have hkm : k < w4.heap.size := by omega
        have HX5' : (put7 wl w4.heap.size (.bool true) (.int .i64 0) (.int .i64 lo) (.int .i64 hi2) (.int .i64 lo) (.int .i64 pm2) (.int .i64 0)).cell? ⟨g, 0, none⟩ = some (.bool true) ∧ (put7 wl w4.heap.size (.bool true) (.int .i64 0) (.int .i64 lo) (.int .i64 hi2) (.int .i64 lo) (.int .i64 pm2) (.int .i64 0)).cell? ⟨g, 1, none⟩ = some (.int .i64 0) ∧ (put7 wl w4.heap.size (.bool true) (.int .i64 0) (.int .i64 lo) (.int .i64 hi2) (.int .i64 lo) (.int .i64 pm2) (.int .i64 0)).cell? ⟨g, 2, none⟩ = some (.int .i64 xl) ∧ (put7 wl w4.heap.size (.bool true) (.int .i64 0) (.int .i64 lo) (.int .i64 hi2) (.int .i64 lo) (.int .i64 pm2) (.int .i64 0)).cell? ⟨g, 3, none⟩ = some (.int .i64 xh) ∧ (put7 wl w4.heap.size (.bool true) (.int .i64 0) (.int .i64 lo) (.int .i64 hi2) (.int .i64 lo) (.int .i64 pm2) (.int .i64 0)).cell? ⟨g, 4, none⟩ = some (.int .i64 xa) ∧ (put7 wl w4.heap.size (.bool true) (.int .i64 0) (.int .i64 lo) (.int .i64 hi2) (.int .i64 lo) (.int .i64 pm2) (.int .i64 0)).cell? ⟨g, 5, none⟩ = some (.int .i64 xp) ∧ (put7 wl w4.heap.size (.bool true) (.int .i64 0) (.int .i64 lo) (.int .i64 hi2) (.int .i64 lo) (.int .i64 pm2) (.int .i64 0)).cell? ⟨g, 6, none⟩ = some (.int .i64 0) := HX5
        have HRy' : (put7 wl w4.heap.size (.bool true) (.int .i64 0) (.int .i64 lo) (.int .i64 hi2) (.int .i64 lo) (.int .i64 pm2) (.int .i64 0)).cell? ⟨k, 0, none⟩ = some (.bool true) ∧ (put7 wl w4.heap.size (.bool true) (.int .i64 0) (.int .i64 lo) (.int .i64 hi2) (.int .i64 lo) (.int .i64 pm2) (.int .i64 0)).cell? ⟨k, 1, none⟩ = some (.int .i64 0) ∧ (put7 wl w4.heap.size (.bool true) (.int .i64 0) (.int .i64 lo) (.int .i64 hi2) (.int .i64 lo) (.int .i64 pm2) (.int .i64 0)).cell? ⟨k, 2, none⟩ = some (.int .i64 lo) ∧ (put7 wl w4.heap.size (.bool true) (.int .i64 0) (.int .i64 lo) (.int .i64 hi2) (.int .i64 lo) (.int .i64 pm2) (.int .i64 0)).cell? ⟨k, 3, none⟩ = some (.int .i64 hi) ∧ (put7 wl w4.heap.size (.bool true) (.int .i64 0) (.int .i64 lo) (.int .i64 hi2) (.int .i64 lo) (.int .i64 pm2) (.int .i64 0)).cell? ⟨k, 4, none⟩ = some (.int .i64 lo) ∧ (put7 wl w4.heap.size (.bool true) (.int .i64 0) (.int .i64 lo) (.int .i64 hi2) (.int .i64 lo) (.int .i64 pm2) (.int .i64 0)).cell? ⟨k, 5, none⟩ = some (.int .i64 pm) ∧ (put7 wl w4.heap.size (.bool true) (.int .i64 0) (.int .i64 lo) (.int .i64 hi2) (.int .i64 lo) (.int .i64 pm2) (.int .i64 0)).cell? ⟨k, 6, none⟩ = some (.int .i64 0) := HRy
        clear HX5 HRy HRp
        have HX5 := HX5'
        have HRy := HRy'
        clear HX5' HRy'
        show Exit.then _ _ _ _ (put7 wl w4.heap.size (.bool true) (.int .i64 0) (.int .i64 lo) (.int .i64 hi2) (.int .i64 lo) (.int .i64 pm2) (.int .i64 0))
        generalize put7 wl w4.heap.size (.bool true) (.int .i64 0) (.int .i64 lo) (.int .i64 hi2) (.int .i64 lo) (.int .i64 pm2) (.int .i64 0) = w5 at *
        clear HX4 HX0 HR4 HR0 hB4 HXl HRl hBl hkl hbl hbA HL he2 H2 HRa HXa hBa hza hka hma hsa hBaa hmk hml hzl c0 c1 c2 c3 c4 c5 c6 f0 f1 f2 f3 f4 f5 f6
        go_wp2_with fail
        refine (H3 _).mono ?_
        rintro e w6 ⟨rfl, hb6⟩
        have HX6 := below_seven hb6 (Nat.lt_trans hgk (Nat.lt_trans hkm hm5)) HX5
        have HR6 := below_seven hb6 (Nat.lt_trans hkm hm5) HRy
        have HY6 := below_seven hb6 hm5 HY5
        have hB6 := hB5.trans (hb6.mono hB5.size)
        have hm6 := Nat.lt_of_lt_of_le hm5 hb6.size
        clear HX5 HRy HY5 hB5 hm5 hb6 H3
        have hz1 : g ≠ w6.heap.size := by omega
        have hz2 : k ≠ w6.heap.size := by omega
        have hz3 : w4.heap.size ≠ w6.heap.size := by omega
        have hbz : Below w6.heap.size w6 (w6.alloc (.cells #[.bool true, .int .i64 0, .int .i64 lo, .int .i64 hi, .int .i64 (lo + 3), .int .i64 pm, .int .i64 0] 24)) := (Below.refl _ _).alloc (Nat.le_refl _) _
        have HX7 := below_seven hbz (Nat.lt_trans hgk (Nat.lt_trans hkm hm6)) HX6
        have HR7 := below_seven hbz (Nat.lt_trans hkm hm6) HR6
        have HY7 := below_seven hbz hm6 HY6
        have HZ7 := seven_new w6 (.bool true) (.int .i64 0) (.int .i64 lo) (.int .i64 hi) (.int .i64 (lo + 3)) (.int .i64 pm) (.int .i64 0)
        have hB7 := hB6.trans (hbz.mono hB6.size)
        have hq7 : w6.heap.size < (w6.alloc (.cells #[.bool true, .int .i64 0, .int .i64 lo, .int .i64 hi, .int .i64 (lo + 3), .int .i64 pm, .int .i64 0] 24)).heap.size := by simp
        go_wp2_with fail
        obtain ⟨q, hq⟩ : ∃ q, q = w6.heap.size := ⟨_, rfl⟩
        rw [← hq] at HZ7 hq7 ⊢
        have hmq : w4.heap.size < q := by omega
        generalize w6.alloc (.cells #[.bool true, .int .i64 0, .int .i64 lo, .int .i64 hi, .int .i64 (lo + 3), .int .i64 pm, .int .i64 0] 24) = w7 at *
        clear HX6 HR6 HY6 hB6 hm6 hbz hz1 hz2 hz3 hq
        refine (H4 _).mono ?_
        rintro e w8 ⟨rfl, hb⟩
        have HX8 := below_seven hb (Nat.lt_trans hgk (Nat.lt_trans hkm (Nat.lt_trans hmq hq7))) HX7
        have HR8 := below_seven hb (Nat.lt_trans hkm (Nat.lt_trans hmq hq7)) HR7
        have HY8 := below_seven hb (Nat.lt_trans hmq hq7) HY7
        have HZ8 := below_seven hb hq7 HZ7
        have hB8 := hB7.trans (hb.mono hB7.size)
        have hq8 := Nat.lt_of_lt_of_le hq7 hb.size
        clear hb HX7 HR7 HY7 HZ7 hB7 hq7 H4
        go_wp2_with fail
        refine (H5 _).mono ?_
        rintro e w9 ⟨rfl, hb⟩
        have HX9 := below_seven hb (Nat.lt_trans hgk (Nat.lt_trans hkm (Nat.lt_trans hmq hq8))) HX8
        have HR9 := below_seven hb (Nat.lt_trans hkm (Nat.lt_trans hmq hq8)) HR8
        have HY9 := below_seven hb (Nat.lt_trans hmq hq8) HY8
        have HZ9 := below_seven hb hq8 HZ8
        have hB9 := hB8.trans (hb.mono hB8.size)
        have hq9 := Nat.lt_of_lt_of_le hq8 hb.size
        clear hb HX8 HR8 HY8 HZ8 hB8 hq8 H5
        go_wp2_with fail
        refine (H6 _).mono ?_
        rintro e w10 ⟨rfl, hb⟩
        have HX10 := below_seven hb (Nat.lt_trans hgk (Nat.lt_trans hkm (Nat.lt_trans hmq hq9))) HX9
        have HR10 := below_seven hb (Nat.lt_trans hkm (Nat.lt_trans hmq hq9)) HR9
        have HY10 := below_seven hb (Nat.lt_trans hmq hq9) HY9
        have HZ10 := below_seven hb hq9 HZ9
        have hB10 := hB9.trans (hb.mono hB9.size)
        have hq10 := Nat.lt_of_lt_of_le hq9 hb.size
        clear hb HX9 HR9 HY9 HZ9 hB9 hq9 H6
        go_wp2_with fail
        refine (H7 _).mono ?_
        rintro e w11 ⟨rfl, hb⟩
        have HX11 := below_seven hb (Nat.lt_trans hgk (Nat.lt_trans hkm (Nat.lt_trans hmq hq10))) HX10
        have HR11 := below_seven hb (Nat.lt_trans hkm (Nat.lt_trans hmq hq10)) HR10
        have HY11 := below_seven hb (Nat.lt_trans hmq hq10) HY10
        have HZ11 := below_seven hb hq10 HZ10
        have hB11 := hB10.trans (hb.mono hB10.size)
        have hq11 := Nat.lt_of_lt_of_le hq10 hb.size
        clear hb HX10 HR10 HY10 HZ10 hB10 hq10 H7
        go_wp2_with fail
        refine (H8 _).mono ?_
        rintro e w12 ⟨rfl, hb⟩
        have HX12 := below_seven hb (Nat.lt_trans hgk (Nat.lt_trans hkm (Nat.lt_trans hmq hq11))) HX11
        have HR12 := below_seven hb (Nat.lt_trans hkm (Nat.lt_trans hmq hq11)) HR11
        have HY12 := below_seven hb (Nat.lt_trans hmq hq11) HY11
        have HZ12 := below_seven hb hq11 HZ11
        have hB12 := hB11.trans (hb.mono hB11.size)
        have hq12 := Nat.lt_of_lt_of_le hq11 hb.size
        clear hb HX11 HR11 HY11 HZ11 hB11 hq11 H8
        go_wp2_with fail
        refine (H9 _).mono ?_
        rintro e w13 ⟨rfl, hb⟩
        have hB13 := hB12.trans (hb.mono hB12.size)
        go_wp2_with fail
        go_ret
        exact ⟨rfl, hB13⟩
    ·
      have hdec : decide (lo < hi) = false := by simpa using hlt
      have HL : ∀ w, Calls Try.prog 12 #[.bool false] w fun e w' => e = .returned (.int .i64 0) ∧ w = w' := fun w => (l4M false w).mono (fun e w' h => ⟨h.1, h.2.symm⟩)
      have he2 : IntKind.i64.wrap hi = hi2 := by rw [hhi2, hdec, IntKind.wrap_i64]; simp only [cond_false]; omega
      clear hdec hhi2
      go_region_held3 (fun wx => wx.cell? ⟨k, 0, none⟩ = some (.bool true) ∧ wx.cell? ⟨k, 1, none⟩ = some (.int .i64 0) ∧ wx.cell? ⟨k, 2, none⟩ = some (.int .i64 lo) ∧ wx.cell? ⟨k, 3, none⟩ = some (.int .i64 hi) ∧ wx.cell? ⟨k, 4, none⟩ = some (.int .i64 lo) ∧ wx.cell? ⟨k, 5, none⟩ = some (.int .i64 pm) ∧ wx.cell? ⟨k, 6, none⟩ = some (.int .i64 0)) (with_reducible assumption) (first
        | (go_at_call 12; (with_reducible refine (HL _).mono ?_); rintro e wq ⟨rfl, rfl⟩)
        | (go_at_call 10; (with_reducible refine (H2 _).mono ?_); rintro e wl ⟨rfl, hbl⟩; first
            | ((with_reducible have hbA : Below w4.drew.heap.size w4.drew wl := hbl); have HRl := below_seven hbA (by exact hk4) HR0; have HXl := below_seven hbA (by exact Nat.lt_trans hgk hk4) HX0; have hBl : Below w.heap.size w wl := hB4.drew.trans (hbA.mono (by exact hB4.size)); have hkl : k < wl.heap.size := Nat.lt_of_lt_of_le hk4 hbA.size; have HRz := below_seven ((Below.refl wl.heap.size wl).alloc (Nat.le_refl _) (.cells #[.bool false, .int .i64 0, .int .i64 0, .int .i64 0, .int .i64 0, .int .i64 0, .int .i64 0] 24)) hkl HRl; have HRy := below_seven ((Below.refl wl.heap.size wl).alloc (Nat.le_refl _) (.cells #[.bool true, .int .i64 0, .int .i64 lo, .int .i64 hi2, .int .i64 lo, .int .i64 pm2, .int .i64 0] 24)) hkl HRl)
            | ((with_reducible have hbA : Below ((w4.alloc (.cells #[.bool false, .int .i64 0, .int .i64 0, .int .i64 0, .int .i64 0, .int .i64 0, .int .i64 0] 24)).drew).heap.size ((w4.alloc (.cells #[.bool false, .int .i64 0, .int .i64 0, .int .i64 0, .int .i64 0, .int .i64 0, .int .i64 0] 24)).drew) wl := hbl); have HRl := below_seven hbA hka HRa; have HXl := below_seven hbA (Nat.lt_trans hgk hka) HXa; have hBl : Below w.heap.size w wl := hBa.trans (hbA.mono hBa.size); have hkl : k < wl.heap.size := Nat.lt_of_lt_of_le hka hbA.size; have hml : w4.heap.size < wl.heap.size := Nat.lt_of_lt_of_le hma hbA.size; have hzl : wl.heap[w4.heap.size]? = _ := (hbA.block _ hma).trans hza; have hfacts := row_facts hzl; obtain ⟨c0, c1, c2, c3, c4, c5, c6, f0, f1, f2, f3, f4, f5, f6⟩ := hfacts; have HRp := seven_of _ _ _ _ _ _ _ (put7_other (w := wl) (j := w4.heap.size) (.bool true) (.int .i64 0) (.int .i64 lo) (.int .i64 hi2) (.int .i64 lo) (.int .i64 pm2) (.int .i64 0) hmk) HRl)))
      ·
        have HX5 := below_seven ((Below.refl wl.heap.size wl).alloc (Nat.le_refl _) (.cells #[.bool true, .int .i64 0, .int .i64 lo, .int .i64 hi2, .int .i64 lo, .int .i64 pm2, .int .i64 0] 24)) (Nat.lt_trans hgk hkl) HXl
        have HY5 := seven_new wl (.bool true) (.int .i64 0) (.int .i64 lo) (.int .i64 hi2) (.int .i64 lo) (.int .i64 pm2) (.int .i64 0)
        have hB5 := hBl.alloc hBl.size (.cells #[.bool true, .int .i64 0, .int .i64 lo, .int .i64 hi2, .int .i64 lo, .int .i64 pm2, .int .i64 0] 24)
        have hm5 : wl.heap.size < (wl.alloc (.cells #[.bool true, .int .i64 0, .int .i64 lo, .int .i64 hi2, .int .i64 lo, .int .i64 pm2, .int .i64 0] 24)).heap.size := by simp
        obtain ⟨m, hm⟩ : ∃ m, m = wl.heap.size := ⟨_, rfl⟩
        rw [← hm] at HY5 hm5 ⊢
        have hkm : k < m := by omega
        generalize wl.alloc (.cells #[.bool true, .int .i64 0, .int .i64 lo, .int .i64 hi2, .int .i64 lo, .int .i64 pm2, .int .i64 0] 24) = w5 at *
        clear HX4 HX0 HR4 HR0 hB4 hk4 HXl HRl hBl hkl HRz hbl hbA hm HL he2 H2 HRa HXa hBa hza hka hma hsa hBaa hmk
        go_wp2_with fail
        refine (H3 _).mono ?_
        rintro e w6 ⟨rfl, hb6⟩
        have HX6 := below_seven hb6 (Nat.lt_trans hgk (Nat.lt_trans hkm hm5)) HX5
        have HR6 := below_seven hb6 (Nat.lt_trans hkm hm5) HRy
        have HY6 := below_seven hb6 hm5 HY5
        have hB6 := hB5.trans (hb6.mono hB5.size)
        have hm6 := Nat.lt_of_lt_of_le hm5 hb6.size
        clear HX5 HRy HY5 hB5 hm5 hb6 H3
        have hz1 : g ≠ w6.heap.size := by omega
        have hz2 : k ≠ w6.heap.size := by omega
        have hz3 : m ≠ w6.heap.size := by omega
        have hbz : Below w6.heap.size w6 (w6.alloc (.cells #[.bool true, .int .i64 0, .int .i64 lo, .int .i64 hi, .int .i64 (lo + 3), .int .i64 pm, .int .i64 0] 24)) := (Below.refl _ _).alloc (Nat.le_refl _) _
        have HX7 := below_seven hbz (Nat.lt_trans hgk (Nat.lt_trans hkm hm6)) HX6
        have HR7 := below_seven hbz (Nat.lt_trans hkm hm6) HR6
        have HY7 := below_seven hbz hm6 HY6
        have HZ7 := seven_new w6 (.bool true) (.int .i64 0) (.int .i64 lo) (.int .i64 hi) (.int .i64 (lo + 3)) (.int .i64 pm) (.int .i64 0)
        have hB7 := hB6.trans (hbz.mono hB6.size)
        have hq7 : w6.heap.size < (w6.alloc (.cells #[.bool true, .int .i64 0, .int .i64 lo, .int .i64 hi, .int .i64 (lo + 3), .int .i64 pm, .int .i64 0] 24)).heap.size := by simp
        go_wp2_with fail
        obtain ⟨q, hq⟩ : ∃ q, q = w6.heap.size := ⟨_, rfl⟩
        rw [← hq] at HZ7 hq7 ⊢
        have hmq : m < q := by omega
        generalize w6.alloc (.cells #[.bool true, .int .i64 0, .int .i64 lo, .int .i64 hi, .int .i64 (lo + 3), .int .i64 pm, .int .i64 0] 24) = w7 at *
        clear HX6 HR6 HY6 hB6 hm6 hbz hz1 hz2 hz3 hq
        refine (H4 _).mono ?_
        rintro e w8 ⟨rfl, hb⟩
        have HX8 := below_seven hb (Nat.lt_trans hgk (Nat.lt_trans hkm (Nat.lt_trans hmq hq7))) HX7
        have HR8 := below_seven hb (Nat.lt_trans hkm (Nat.lt_trans hmq hq7)) HR7
        have HY8 := below_seven hb (Nat.lt_trans hmq hq7) HY7
        have HZ8 := below_seven hb hq7 HZ7
        have hB8 := hB7.trans (hb.mono hB7.size)
        have hq8 := Nat.lt_of_lt_of_le hq7 hb.size
        clear hb HX7 HR7 HY7 HZ7 hB7 hq7 H4
        go_wp2_with fail
        refine (H5 _).mono ?_
        rintro e w9 ⟨rfl, hb⟩
        have HX9 := below_seven hb (Nat.lt_trans hgk (Nat.lt_trans hkm (Nat.lt_trans hmq hq8))) HX8
        have HR9 := below_seven hb (Nat.lt_trans hkm (Nat.lt_trans hmq hq8)) HR8
        have HY9 := below_seven hb (Nat.lt_trans hmq hq8) HY8
        have HZ9 := below_seven hb hq8 HZ8
        have hB9 := hB8.trans (hb.mono hB8.size)
        have hq9 := Nat.lt_of_lt_of_le hq8 hb.size
        clear hb HX8 HR8 HY8 HZ8 hB8 hq8 H5
        go_wp2_with fail
        refine (H6 _).mono ?_
        rintro e w10 ⟨rfl, hb⟩
        have HX10 := below_seven hb (Nat.lt_trans hgk (Nat.lt_trans hkm (Nat.lt_trans hmq hq9))) HX9
        have HR10 := below_seven hb (Nat.lt_trans hkm (Nat.lt_trans hmq hq9)) HR9
        have HY10 := below_seven hb (Nat.lt_trans hmq hq9) HY9
        have HZ10 := below_seven hb hq9 HZ9
        have hB10 := hB9.trans (hb.mono hB9.size)
        have hq10 := Nat.lt_of_lt_of_le hq9 hb.size
        clear hb HX9 HR9 HY9 HZ9 hB9 hq9 H6
        go_wp2_with fail
        refine (H7 _).mono ?_
        rintro e w11 ⟨rfl, hb⟩
        have HX11 := below_seven hb (Nat.lt_trans hgk (Nat.lt_trans hkm (Nat.lt_trans hmq hq10))) HX10
        have HR11 := below_seven hb (Nat.lt_trans hkm (Nat.lt_trans hmq hq10)) HR10
        have HY11 := below_seven hb (Nat.lt_trans hmq hq10) HY10
        have HZ11 := below_seven hb hq10 HZ10
        have hB11 := hB10.trans (hb.mono hB10.size)
        have hq11 := Nat.lt_of_lt_of_le hq10 hb.size
        clear hb HX10 HR10 HY10 HZ10 hB10 hq10 H7
        go_wp2_with fail
        refine (H8 _).mono ?_
        rintro e w12 ⟨rfl, hb⟩
        have HX12 := below_seven hb (Nat.lt_trans hgk (Nat.lt_trans hkm (Nat.lt_trans hmq hq11))) HX11
        have HR12 := below_seven hb (Nat.lt_trans hkm (Nat.lt_trans hmq hq11)) HR11
        have HY12 := below_seven hb (Nat.lt_trans hmq hq11) HY11
        have HZ12 := below_seven hb hq11 HZ11
        have hB12 := hB11.trans (hb.mono hB11.size)
        have hq12 := Nat.lt_of_lt_of_le hq11 hb.size
        clear hb HX11 HR11 HY11 HZ11 hB11 hq11 H8
        go_wp2_with fail
        refine (H9 _).mono ?_
        rintro e w13 ⟨rfl, hb⟩
        have hB13 := hB12.trans (hb.mono hB12.size)
        go_wp2_with fail
        go_ret
        exact ⟨rfl, hB13⟩
      ·
        have HX5 := seven_of _ _ _ _ _ _ _ (put7_other (w := wl) (j := w4.heap.size) (k := g) (.bool true) (.int .i64 0) (.int .i64 lo) (.int .i64 hi2) (.int .i64 lo) (.int .i64 pm2) (.int .i64 0) (by omega)) HXl
        have HRy := HRp
        have HY5 : (put7 wl w4.heap.size (.bool true) (.int .i64 0) (.int .i64 lo) (.int .i64 hi2) (.int .i64 lo) (.int .i64 pm2) (.int .i64 0)).cell? ⟨w4.heap.size, 0, none⟩ = some (.bool true) ∧ (put7 wl w4.heap.size (.bool true) (.int .i64 0) (.int .i64 lo) (.int .i64 hi2) (.int .i64 lo) (.int .i64 pm2) (.int .i64 0)).cell? ⟨w4.heap.size, 1, none⟩ = some (.int .i64 0) ∧ (put7 wl w4.heap.size (.bool true) (.int .i64 0) (.int .i64 lo) (.int .i64 hi2) (.int .i64 lo) (.int .i64 pm2) (.int .i64 0)).cell? ⟨w4.heap.size, 2, none⟩ = some (.int .i64 lo) ∧ (put7 wl w4.heap.size (.bool true) (.int .i64 0) (.int .i64 lo) (.int .i64 hi2) (.int .i64 lo) (.int .i64 pm2) (.int .i64 0)).cell? ⟨w4.heap.size, 3, none⟩ = some (.int .i64 hi2) ∧ (put7 wl w4.heap.size (.bool true) (.int .i64 0) (.int .i64 lo) (.int .i64 hi2) (.int .i64 lo) (.int .i64 pm2) (.int .i64 0)).cell? ⟨w4.heap.size, 4, none⟩ = some (.int .i64 lo) ∧ (put7 wl w4.heap.size (.bool true) (.int .i64 0) (.int .i64 lo) (.int .i64 hi2) (.int .i64 lo) (.int .i64 pm2) (.int .i64 0)).cell? ⟨w4.heap.size, 5, none⟩ = some (.int .i64 pm2) ∧ (put7 wl w4.heap.size (.bool true) (.int .i64 0) (.int .i64 lo) (.int .i64 hi2) (.int .i64 lo) (.int .i64 pm2) (.int .i64 0)).cell? ⟨w4.heap.size, 6, none⟩ = some (.int .i64 0) := seven_first (row_facts (put7_block (.bool true) (.int .i64 0) (.int .i64 lo) (.int .i64 hi2) (.int .i64 lo) (.int .i64 pm2) (.int .i64 0) hzl))
        have hB5 : Below w.heap.size w (put7 wl w4.heap.size (.bool true) (.int .i64 0) (.int .i64 lo) (.int .i64 hi2) (.int .i64 lo) (.int .i64 pm2) (.int .i64 0)) := hBl.grown (put7_grown ..) hBl.size (by intro j hj; cases hj; exact hB4.size)
        have hm5 : w4.heap.size < (put7 wl w4.heap.size (.bool true) (.int .i64 0) (.int .i64 lo) (.int .i64 hi2) (.int .i64 lo) (.int .i64 pm2) (.int .i64 0)).heap.size := Nat.lt_of_lt_of_le hml (put7_grown ..).size
        have hkm : k < w4.heap.size := by omega
        have HX5' : (put7 wl w4.heap.size (.bool true) (.int .i64 0) (.int .i64 lo) (.int .i64 hi2) (.int .i64 lo) (.int .i64 pm2) (.int .i64 0)).cell? ⟨g, 0, none⟩ = some (.bool true) ∧ (put7 wl w4.heap.size (.bool true) (.int .i64 0) (.int .i64 lo) (.int .i64 hi2) (.int .i64 lo) (.int .i64 pm2) (.int .i64 0)).cell? ⟨g, 1, none⟩ = some (.int .i64 0) ∧ (put7 wl w4.heap.size (.bool true) (.int .i64 0) (.int .i64 lo) (.int .i64 hi2) (.int .i64 lo) (.int .i64 pm2) (.int .i64 0)).cell? ⟨g, 2, none⟩ = some (.int .i64 xl) ∧ (put7 wl w4.heap.size (.bool true) (.int .i64 0) (.int .i64 lo) (.int .i64 hi2) (.int .i64 lo) (.int .i64 pm2) (.int .i64 0)).cell? ⟨g, 3, none⟩ = some (.int .i64 xh) ∧ (put7 wl w4.heap.size (.bool true) (.int .i64 0) (.int .i64 lo) (.int .i64 hi2) (.int .i64 lo) (.int .i64 pm2) (.int .i64 0)).cell? ⟨g, 4, none⟩ = some (.int .i64 xa) ∧ (put7 wl w4.heap.size (.bool true) (.int .i64 0) (.int .i64 lo) (.int .i64 hi2) (.int .i64 lo) (.int .i64 pm2) (.int .i64 0)).cell? ⟨g, 5, none⟩ = some (.int .i64 xp) ∧ (put7 wl w4.heap.size (.bool true) (.int .i64 0) (.int .i64 lo) (.int .i64 hi2) (.int .i64 lo) (.int .i64 pm2) (.int .i64 0)).cell? ⟨g, 6, none⟩ = some (.int .i64 0) := HX5
        have HRy' : (put7 wl w4.heap.size (.bool true) (.int .i64 0) (.int .i64 lo) (.int .i64 hi2) (.int .i64 lo) (.int .i64 pm2) (.int .i64 0)).cell? ⟨k, 0, none⟩ = some (.bool true) ∧ (put7 wl w4.heap.size (.bool true) (.int .i64 0) (.int .i64 lo) (.int .i64 hi2) (.int .i64 lo) (.int .i64 pm2) (.int .i64 0)).cell? ⟨k, 1, none⟩ = some (.int .i64 0) ∧ (put7 wl w4.heap.size (.bool true) (.int .i64 0) (.int .i64 lo) (.int .i64 hi2) (.int .i64 lo) (.int .i64 pm2) (.int .i64 0)).cell? ⟨k, 2, none⟩ = some (.int .i64 lo) ∧ (put7 wl w4.heap.size (.bool true) (.int .i64 0) (.int .i64 lo) (.int .i64 hi2) (.int .i64 lo) (.int .i64 pm2) (.int .i64 0)).cell? ⟨k, 3, none⟩ = some (.int .i64 hi) ∧ (put7 wl w4.heap.size (.bool true) (.int .i64 0) (.int .i64 lo) (.int .i64 hi2) (.int .i64 lo) (.int .i64 pm2) (.int .i64 0)).cell? ⟨k, 4, none⟩ = some (.int .i64 lo) ∧ (put7 wl w4.heap.size (.bool true) (.int .i64 0) (.int .i64 lo) (.int .i64 hi2) (.int .i64 lo) (.int .i64 pm2) (.int .i64 0)).cell? ⟨k, 5, none⟩ = some (.int .i64 pm) ∧ (put7 wl w4.heap.size (.bool true) (.int .i64 0) (.int .i64 lo) (.int .i64 hi2) (.int .i64 lo) (.int .i64 pm2) (.int .i64 0)).cell? ⟨k, 6, none⟩ = some (.int .i64 0) := HRy
        clear HX5 HRy HRp
        have HX5 := HX5'
        have HRy := HRy'
        clear HX5' HRy'
        show Exit.then _ _ _ _ (put7 wl w4.heap.size (.bool true) (.int .i64 0) (.int .i64 lo) (.int .i64 hi2) (.int .i64 lo) (.int .i64 pm2) (.int .i64 0))
        generalize put7 wl w4.heap.size (.bool true) (.int .i64 0) (.int .i64 lo) (.int .i64 hi2) (.int .i64 lo) (.int .i64 pm2) (.int .i64 0) = w5 at *
        clear HX4 HX0 HR4 HR0 hB4 HXl HRl hBl hkl hbl hbA HL he2 H2 HRa HXa hBa hza hka hma hsa hBaa hmk hml hzl c0 c1 c2 c3 c4 c5 c6 f0 f1 f2 f3 f4 f5 f6
        go_wp2_with fail
        refine (H3 _).mono ?_
        rintro e w6 ⟨rfl, hb6⟩
        have HX6 := below_seven hb6 (Nat.lt_trans hgk (Nat.lt_trans hkm hm5)) HX5
        have HR6 := below_seven hb6 (Nat.lt_trans hkm hm5) HRy
        have HY6 := below_seven hb6 hm5 HY5
        have hB6 := hB5.trans (hb6.mono hB5.size)
        have hm6 := Nat.lt_of_lt_of_le hm5 hb6.size
        clear HX5 HRy HY5 hB5 hm5 hb6 H3
        have hz1 : g ≠ w6.heap.size := by omega
        have hz2 : k ≠ w6.heap.size := by omega
        have hz3 : w4.heap.size ≠ w6.heap.size := by omega
        have hbz : Below w6.heap.size w6 (w6.alloc (.cells #[.bool true, .int .i64 0, .int .i64 lo, .int .i64 hi, .int .i64 (lo + 3), .int .i64 pm, .int .i64 0] 24)) := (Below.refl _ _).alloc (Nat.le_refl _) _
        have HX7 := below_seven hbz (Nat.lt_trans hgk (Nat.lt_trans hkm hm6)) HX6
        have HR7 := below_seven hbz (Nat.lt_trans hkm hm6) HR6
        have HY7 := below_seven hbz hm6 HY6
        have HZ7 := seven_new w6 (.bool true) (.int .i64 0) (.int .i64 lo) (.int .i64 hi) (.int .i64 (lo + 3)) (.int .i64 pm) (.int .i64 0)
        have hB7 := hB6.trans (hbz.mono hB6.size)
        have hq7 : w6.heap.size < (w6.alloc (.cells #[.bool true, .int .i64 0, .int .i64 lo, .int .i64 hi, .int .i64 (lo + 3), .int .i64 pm, .int .i64 0] 24)).heap.size := by simp
        go_wp2_with fail
        obtain ⟨q, hq⟩ : ∃ q, q = w6.heap.size := ⟨_, rfl⟩
        rw [← hq] at HZ7 hq7 ⊢
        have hmq : w4.heap.size < q := by omega
        generalize w6.alloc (.cells #[.bool true, .int .i64 0, .int .i64 lo, .int .i64 hi, .int .i64 (lo + 3), .int .i64 pm, .int .i64 0] 24) = w7 at *
        clear HX6 HR6 HY6 hB6 hm6 hbz hz1 hz2 hz3 hq
        refine (H4 _).mono ?_
        rintro e w8 ⟨rfl, hb⟩
        have HX8 := below_seven hb (Nat.lt_trans hgk (Nat.lt_trans hkm (Nat.lt_trans hmq hq7))) HX7
        have HR8 := below_seven hb (Nat.lt_trans hkm (Nat.lt_trans hmq hq7)) HR7
        have HY8 := below_seven hb (Nat.lt_trans hmq hq7) HY7
        have HZ8 := below_seven hb hq7 HZ7
        have hB8 := hB7.trans (hb.mono hB7.size)
        have hq8 := Nat.lt_of_lt_of_le hq7 hb.size
        clear hb HX7 HR7 HY7 HZ7 hB7 hq7 H4
        go_wp2_with fail
        refine (H5 _).mono ?_
        rintro e w9 ⟨rfl, hb⟩
        have HX9 := below_seven hb (Nat.lt_trans hgk (Nat.lt_trans hkm (Nat.lt_trans hmq hq8))) HX8
        have HR9 := below_seven hb (Nat.lt_trans hkm (Nat.lt_trans hmq hq8)) HR8
        have HY9 := below_seven hb (Nat.lt_trans hmq hq8) HY8
        have HZ9 := below_seven hb hq8 HZ8
        have hB9 := hB8.trans (hb.mono hB8.size)
        have hq9 := Nat.lt_of_lt_of_le hq8 hb.size
        clear hb HX8 HR8 HY8 HZ8 hB8 hq8 H5
        go_wp2_with fail
        refine (H6 _).mono ?_
        rintro e w10 ⟨rfl, hb⟩
        have HX10 := below_seven hb (Nat.lt_trans hgk (Nat.lt_trans hkm (Nat.lt_trans hmq hq9))) HX9
        have HR10 := below_seven hb (Nat.lt_trans hkm (Nat.lt_trans hmq hq9)) HR9
        have HY10 := below_seven hb (Nat.lt_trans hmq hq9) HY9
        have HZ10 := below_seven hb hq9 HZ9
        have hB10 := hB9.trans (hb.mono hB9.size)
        have hq10 := Nat.lt_of_lt_of_le hq9 hb.size
        clear hb HX9 HR9 HY9 HZ9 hB9 hq9 H6
        go_wp2_with fail
        refine (H7 _).mono ?_
        rintro e w11 ⟨rfl, hb⟩
        have HX11 := below_seven hb (Nat.lt_trans hgk (Nat.lt_trans hkm (Nat.lt_trans hmq hq10))) HX10
        have HR11 := below_seven hb (Nat.lt_trans hkm (Nat.lt_trans hmq hq10)) HR10
        have HY11 := below_seven hb (Nat.lt_trans hmq hq10) HY10
        have HZ11 := below_seven hb hq10 HZ10
        have hB11 := hB10.trans (hb.mono hB10.size)
        have hq11 := Nat.lt_of_lt_of_le hq10 hb.size
        clear hb HX10 HR10 HY10 HZ10 hB10 hq10 H7
        go_wp2_with fail
        refine (H8 _).mono ?_
        rintro e w12 ⟨rfl, hb⟩
        have HX12 := below_seven hb (Nat.lt_trans hgk (Nat.lt_trans hkm (Nat.lt_trans hmq hq11))) HX11
        have HR12 := below_seven hb (Nat.lt_trans hkm (Nat.lt_trans hmq hq11)) HR11
        have HY12 := below_seven hb (Nat.lt_trans hmq hq11) HY11
        have HZ12 := below_seven hb hq11 HZ11
        have hB12 := hB11.trans (hb.mono hB11.size)
        have hq12 := Nat.lt_of_lt_of_le hq11 hb.size
        clear hb HX11 HR11 HY11 HZ11 hB11 hq11 H8
        go_wp2_with fail
        refine (H9 _).mono ?_
        rintro e w13 ⟨rfl, hb⟩
        have hB13 := hB12.trans (hb.mono hB12.size)
        go_wp2_with fail
        go_ret
        exact ⟨rfl, hB13⟩
      ·
        have HX5 := seven_of _ _ _ _ _ _ _ (put7_other (w := wl) (j := w4.heap.size) (k := g) (.bool true) (.int .i64 0) (.int .i64 lo) (.int .i64 hi2) (.int .i64 lo) (.int .i64 pm2) (.int .i64 0) (by omega)) HXl
        have HRy := HRp
        have HY5 : (put7 wl w4.heap.size (.bool true) (.int .i64 0) (.int .i64 lo) (.int .i64 hi2) (.int .i64 lo) (.int .i64 pm2) (.int .i64 0)).cell? ⟨w4.heap.size, 0, none⟩ = some (.bool true) ∧ (put7 wl w4.heap.size (.bool true) (.int .i64 0) (.int .i64 lo) (.int .i64 hi2) (.int .i64 lo) (.int .i64 pm2) (.int .i64 0)).cell? ⟨w4.heap.size, 1, none⟩ = some (.int .i64 0) ∧ (put7 wl w4.heap.size (.bool true) (.int .i64 0) (.int .i64 lo) (.int .i64 hi2) (.int .i64 lo) (.int .i64 pm2) (.int .i64 0)).cell? ⟨w4.heap.size, 2, none⟩ = some (.int .i64 lo) ∧ (put7 wl w4.heap.size (.bool true) (.int .i64 0) (.int .i64 lo) (.int .i64 hi2) (.int .i64 lo) (.int .i64 pm2) (.int .i64 0)).cell? ⟨w4.heap.size, 3, none⟩ = some (.int .i64 hi2) ∧ (put7 wl w4.heap.size (.bool true) (.int .i64 0) (.int .i64 lo) (.int .i64 hi2) (.int .i64 lo) (.int .i64 pm2) (.int .i64 0)).cell? ⟨w4.heap.size, 4, none⟩ = some (.int .i64 lo) ∧ (put7 wl w4.heap.size (.bool true) (.int .i64 0) (.int .i64 lo) (.int .i64 hi2) (.int .i64 lo) (.int .i64 pm2) (.int .i64 0)).cell? ⟨w4.heap.size, 5, none⟩ = some (.int .i64 pm2) ∧ (put7 wl w4.heap.size (.bool true) (.int .i64 0) (.int .i64 lo) (.int .i64 hi2) (.int .i64 lo) (.int .i64 pm2) (.int .i64 0)).cell? ⟨w4.heap.size, 6, none⟩ = some (.int .i64 0) := seven_first (row_facts (put7_block (.bool true) (.int .i64 0) (.int .i64 lo) (.int .i64 hi2) (.int .i64 lo) (.int .i64 pm2) (.int .i64 0) hzl))
        have hB5 : Below w.heap.size w (put7 wl w4.heap.size (.bool true) (.int .i64 0) (.int .i64 lo) (.int .i64 hi2) (.int .i64 lo) (.int .i64 pm2) (.int .i64 0)) := hBl.grown (put7_grown ..) hBl.size (by intro j hj; cases hj; exact hB4.size)
        have hm5 : w4.heap.size < (put7 wl w4.heap.size (.bool true) (.int .i64 0) (.int .i64 lo) (.int .i64 hi2) (.int .i64 lo) (.int .i64 pm2) (.int .i64 0)).heap.size := Nat.lt_of_lt_of_le hml (put7_grown ..).size
        have hkm : k < w4.heap.size := by omega
        have HX5' : (put7 wl w4.heap.size (.bool true) (.int .i64 0) (.int .i64 lo) (.int .i64 hi2) (.int .i64 lo) (.int .i64 pm2) (.int .i64 0)).cell? ⟨g, 0, none⟩ = some (.bool true) ∧ (put7 wl w4.heap.size (.bool true) (.int .i64 0) (.int .i64 lo) (.int .i64 hi2) (.int .i64 lo) (.int .i64 pm2) (.int .i64 0)).cell? ⟨g, 1, none⟩ = some (.int .i64 0) ∧ (put7 wl w4.heap.size (.bool true) (.int .i64 0) (.int .i64 lo) (.int .i64 hi2) (.int .i64 lo) (.int .i64 pm2) (.int .i64 0)).cell? ⟨g, 2, none⟩ = some (.int .i64 xl) ∧ (put7 wl w4.heap.size (.bool true) (.int .i64 0) (.int .i64 lo) (.int .i64 hi2) (.int .i64 lo) (.int .i64 pm2) (.int .i64 0)).cell? ⟨g, 3, none⟩ = some (.int .i64 xh) ∧ (put7 wl w4.heap.size (.bool true) (.int .i64 0) (.int .i64 lo) (.int .i64 hi2) (.int .i64 lo) (.int .i64 pm2) (.int .i64 0)).cell? ⟨g, 4, none⟩ = some (.int .i64 xa) ∧ (put7 wl w4.heap.size (.bool true) (.int .i64 0) (.int .i64 lo) (.int .i64 hi2) (.int .i64 lo) (.int .i64 pm2) (.int .i64 0)).cell? ⟨g, 5, none⟩ = some (.int .i64 xp) ∧ (put7 wl w4.heap.size (.bool true) (.int .i64 0) (.int .i64 lo) (.int .i64 hi2) (.int .i64 lo) (.int .i64 pm2) (.int .i64 0)).cell? ⟨g, 6, none⟩ = some (.int .i64 0) := HX5
        have HRy' : (put7 wl w4.heap.size (.bool true) (.int .i64 0) (.int .i64 lo) (.int .i64 hi2) (.int .i64 lo) (.int .i64 pm2) (.int .i64 0)).cell? ⟨k, 0, none⟩ = some (.bool true) ∧ (put7 wl w4.heap.size (.bool true) (.int .i64 0) (.int .i64 lo) (.int .i64 hi2) (.int .i64 lo) (.int .i64 pm2) (.int .i64 0)).cell? ⟨k, 1, none⟩ = some (.int .i64 0) ∧ (put7 wl w4.heap.size (.bool true) (.int .i64 0) (.int .i64 lo) (.int .i64 hi2) (.int .i64 lo) (.int .i64 pm2) (.int .i64 0)).cell? ⟨k, 2, none⟩ = some (.int .i64 lo) ∧ (put7 wl w4.heap.size (.bool true) (.int .i64 0) (.int .i64 lo) (.int .i64 hi2) (.int .i64 lo) (.int .i64 pm2) (.int .i64 0)).cell? ⟨k, 3, none⟩ = some (.int .i64 hi) ∧ (put7 wl w4.heap.size (.bool true) (.int .i64 0) (.int .i64 lo) (.int .i64 hi2) (.int .i64 lo) (.int .i64 pm2) (.int .i64 0)).cell? ⟨k, 4, none⟩ = some (.int .i64 lo) ∧ (put7 wl w4.heap.size (.bool true) (.int .i64 0) (.int .i64 lo) (.int .i64 hi2) (.int .i64 lo) (.int .i64 pm2) (.int .i64 0)).cell? ⟨k, 5, none⟩ = some (.int .i64 pm) ∧ (put7 wl w4.heap.size (.bool true) (.int .i64 0) (.int .i64 lo) (.int .i64 hi2) (.int .i64 lo) (.int .i64 pm2) (.int .i64 0)).cell? ⟨k, 6, none⟩ = some (.int .i64 0) := HRy
        clear HX5 HRy HRp
        have HX5 := HX5'
        have HRy := HRy'
        clear HX5' HRy'
        show Exit.then _ _ _ _ (put7 wl w4.heap.size (.bool true) (.int .i64 0) (.int .i64 lo) (.int .i64 hi2) (.int .i64 lo) (.int .i64 pm2) (.int .i64 0))
        generalize put7 wl w4.heap.size (.bool true) (.int .i64 0) (.int .i64 lo) (.int .i64 hi2) (.int .i64 lo) (.int .i64 pm2) (.int .i64 0) = w5 at *
        clear HX4 HX0 HR4 HR0 hB4 HXl HRl hBl hkl hbl hbA HL he2 H2 HRa HXa hBa hza hka hma hsa hBaa hmk hml hzl c0 c1 c2 c3 c4 c5 c6 f0 f1 f2 f3 f4 f5 f6
        go_wp2_with fail
        refine (H3 _).mono ?_
        rintro e w6 ⟨rfl, hb6⟩
        have HX6 := below_seven hb6 (Nat.lt_trans hgk (Nat.lt_trans hkm hm5)) HX5
        have HR6 := below_seven hb6 (Nat.lt_trans hkm hm5) HRy
        have HY6 := below_seven hb6 hm5 HY5
        have hB6 := hB5.trans (hb6.mono hB5.size)
        have hm6 := Nat.lt_of_lt_of_le hm5 hb6.size
        clear HX5 HRy HY5 hB5 hm5 hb6 H3
        have hz1 : g ≠ w6.heap.size := by omega
        have hz2 : k ≠ w6.heap.size := by omega
        have hz3 : w4.heap.size ≠ w6.heap.size := by omega
        have hbz : Below w6.heap.size w6 (w6.alloc (.cells #[.bool true, .int .i64 0, .int .i64 lo, .int .i64 hi, .int .i64 (lo + 3), .int .i64 pm, .int .i64 0] 24)) := (Below.refl _ _).alloc (Nat.le_refl _) _
        have HX7 := below_seven hbz (Nat.lt_trans hgk (Nat.lt_trans hkm hm6)) HX6
        have HR7 := below_seven hbz (Nat.lt_trans hkm hm6) HR6
        have HY7 := below_seven hbz hm6 HY6
        have HZ7 := seven_new w6 (.bool true) (.int .i64 0) (.int .i64 lo) (.int .i64 hi) (.int .i64 (lo + 3)) (.int .i64 pm) (.int .i64 0)
        have hB7 := hB6.trans (hbz.mono hB6.size)
        have hq7 : w6.heap.size < (w6.alloc (.cells #[.bool true, .int .i64 0, .int .i64 lo, .int .i64 hi, .int .i64 (lo + 3), .int .i64 pm, .int .i64 0] 24)).heap.size := by simp
        go_wp2_with fail
        obtain ⟨q, hq⟩ : ∃ q, q = w6.heap.size := ⟨_, rfl⟩
        rw [← hq] at HZ7 hq7 ⊢
        have hmq : w4.heap.size < q := by omega
        generalize w6.alloc (.cells #[.bool true, .int .i64 0, .int .i64 lo, .int .i64 hi, .int .i64 (lo + 3), .int .i64 pm, .int .i64 0] 24) = w7 at *
        clear HX6 HR6 HY6 hB6 hm6 hbz hz1 hz2 hz3 hq
        refine (H4 _).mono ?_
        rintro e w8 ⟨rfl, hb⟩
        have HX8 := below_seven hb (Nat.lt_trans hgk (Nat.lt_trans hkm (Nat.lt_trans hmq hq7))) HX7
        have HR8 := below_seven hb (Nat.lt_trans hkm (Nat.lt_trans hmq hq7)) HR7
        have HY8 := below_seven hb (Nat.lt_trans hmq hq7) HY7
        have HZ8 := below_seven hb hq7 HZ7
        have hB8 := hB7.trans (hb.mono hB7.size)
        have hq8 := Nat.lt_of_lt_of_le hq7 hb.size
        clear hb HX7 HR7 HY7 HZ7 hB7 hq7 H4
        go_wp2_with fail
        refine (H5 _).mono ?_
        rintro e w9 ⟨rfl, hb⟩
        have HX9 := below_seven hb (Nat.lt_trans hgk (Nat.lt_trans hkm (Nat.lt_trans hmq hq8))) HX8
        have HR9 := below_seven hb (Nat.lt_trans hkm (Nat.lt_trans hmq hq8)) HR8
        have HY9 := below_seven hb (Nat.lt_trans hmq hq8) HY8
        have HZ9 := below_seven hb hq8 HZ8
        have hB9 := hB8.trans (hb.mono hB8.size)
        have hq9 := Nat.lt_of_lt_of_le hq8 hb.size
        clear hb HX8 HR8 HY8 HZ8 hB8 hq8 H5
        go_wp2_with fail
        refine (H6 _).mono ?_
        rintro e w10 ⟨rfl, hb⟩
        have HX10 := below_seven hb (Nat.lt_trans hgk (Nat.lt_trans hkm (Nat.lt_trans hmq hq9))) HX9
        have HR10 := below_seven hb (Nat.lt_trans hkm (Nat.lt_trans hmq hq9)) HR9
        have HY10 := below_seven hb (Nat.lt_trans hmq hq9) HY9
        have HZ10 := below_seven hb hq9 HZ9
        have hB10 := hB9.trans (hb.mono hB9.size)
        have hq10 := Nat.lt_of_lt_of_le hq9 hb.size
        clear hb HX9 HR9 HY9 HZ9 hB9 hq9 H6
        go_wp2_with fail
        refine (H7 _).mono ?_
        rintro e w11 ⟨rfl, hb⟩
        have HX11 := below_seven hb (Nat.lt_trans hgk (Nat.lt_trans hkm (Nat.lt_trans hmq hq10))) HX10
        have HR11 := below_seven hb (Nat.lt_trans hkm (Nat.lt_trans hmq hq10)) HR10
        have HY11 := below_seven hb (Nat.lt_trans hmq hq10) HY10
        have HZ11 := below_seven hb hq10 HZ10
        have hB11 := hB10.trans (hb.mono hB10.size)
        have hq11 := Nat.lt_of_lt_of_le hq10 hb.size
        clear hb HX10 HR10 HY10 HZ10 hB10 hq10 H7
        go_wp2_with fail
        refine (H8 _).mono ?_
        rintro e w12 ⟨rfl, hb⟩
        have HX12 := below_seven hb (Nat.lt_trans hgk (Nat.lt_trans hkm (Nat.lt_trans hmq hq11))) HX11
        have HR12 := below_seven hb (Nat.lt_trans hkm (Nat.lt_trans hmq hq11)) HR11
        have HY12 := below_seven hb (Nat.lt_trans hmq hq11) HY11
        have HZ12 := below_seven hb hq11 HZ11
        have hB12 := hB11.trans (hb.mono hB11.size)
        have hq12 := Nat.lt_of_lt_of_le hq11 hb.size
        clear hb HX11 HR11 HY11 HZ11 hB11 hq11 H8
        go_wp2_with fail
        refine (H9 _).mono ?_
        rintro e w13 ⟨rfl, hb⟩
        have hB13 := hB12.trans (hb.mono hB12.size)
        go_wp2_with fail
        go_ret
        exact ⟨rfl, hB13⟩
end Go.Proofs.Ytahfnenogeidpaa

/- Words as values: which may be, by the program and by the specification: the same. -/
import Derived.Test.YtjojildjnafgiaaWords
import Derived.Deep.RegionWith
namespace Go.Proofs.Ytjojildjnafgiaa
open Go.RowKit
set_option linter.unusedVariables false
set_option linter.unusedSimpArgs false

def In64 (v : Int) : Prop := -9223372036854775808 ≤ v ∧ v ≤ 9223372036854775807

theorem perm16 (p : Int) (h0 : 0 ≤ p) (h1 : p ≤ 31) : (bits .andNot .i64 p 16 == 0) = ((p == 0) || (p == 16)) := by
  obtain ⟨k, rfl⟩ := Int.eq_ofNat_of_zero_le h0
  have hk : k < 32 := by omega
  clear h0 h1
  have hall : ∀ k : Fin 32, (bits .andNot .i64 ((k.val : Nat) : Int) 16 == 0) = ((((k.val : Nat) : Int) == 0) || (((k.val : Nat) : Int) == 16)) := by decide
  exact hall ⟨k, hk⟩

theorem go16 : bits .andNot .i64 16 16 = 0 := by decide

def entryB (xt : Bool) (xn xl xh xa xp xs : Int) : Bool := (xt && ((xn == 0) && ((xl == 0) && (xh == 0)))) && (inR xs 1 8 && (inR xa 0 4000 && ((xp == 0) || (xp == 16))))

def okB (xt : Bool) (xn xl xh xa xp xs : Int) : Bool := isIntB xt xn xl xh xa xp xs || (entryB xt xn xl xh xa xp xs || wayB xt xn xl xh xa xp xs)

theorem cell_alloc_old (w : World) (o : Obj) {p : Addr} (h : p.block < w.heap.size) : (w.alloc o).cell? p = w.cell? p := by
  have hb : Below w.heap.size w (w.alloc o) := (Below.refl _ _).alloc (Nat.le_refl _) o
  exact hb.cell h

theorem word_kept {B g : Nat} {w wl : World} {xt xn xl xh xa xp xs : Value} (hb : Below B w wl) (hg : g < B) (c0 : w.cell? ⟨g, 0, none⟩ = some xt) (c1 : w.cell? ⟨g, 1, none⟩ = some xn) (c2 : w.cell? ⟨g, 2, none⟩ = some xl) (c3 : w.cell? ⟨g, 3, none⟩ = some xh) (c4 : w.cell? ⟨g, 4, none⟩ = some xa) (c5 : w.cell? ⟨g, 5, none⟩ = some xp) (c6 : w.cell? ⟨g, 6, none⟩ = some xs) :
    wl.cell? ⟨g, 0, none⟩ = some xt ∧ wl.cell? ⟨g, 1, none⟩ = some xn ∧ wl.cell? ⟨g, 2, none⟩ = some xl ∧ wl.cell? ⟨g, 3, none⟩ = some xh ∧ wl.cell? ⟨g, 4, none⟩ = some xa ∧ wl.cell? ⟨g, 5, none⟩ = some xp ∧ wl.cell? ⟨g, 6, none⟩ = some xs :=
  ⟨(hb.cell hg).trans c0, (hb.cell hg).trans c1, (hb.cell hg).trans c2, (hb.cell hg).trans c3, (hb.cell hg).trans c4, (hb.cell hg).trans c5, (hb.cell hg).trans c6⟩

theorem lackBelow (xt : Bool) (xn xl xh xa xp xs : Int) (p : Int) (w : World) :
    Calls Try.prog 28 #[.agg #[.bool xt, .int .i64 xn, .int .i64 xl, .int .i64 xh, .int .i64 xa, .int .i64 xp, .int .i64 xs], .int .i64 p] w fun e w' => e = .returned (.agg #[.bool xt, .int .i64 xn, .int .i64 xl, .int .i64 xh, .int .i64 xa, .int .i64 (bits .andNot .i64 xp p), .int .i64 xs]) ∧ Below w.heap.size w w' := by
  refine (lackM xt xn xl xh xa xp xs p w).mono ?_
  rintro e w' ⟨rfl, o1, o2, rfl⟩
  exact ⟨rfl, ((Below.refl _ _).alloc (Nat.le_refl _) _).alloc (by simp) _⟩

theorem ent_of (s a : Int) (hs : In64 s) (h : entB (wrap64 (s - 1)) a = true) : wrap64 (s - 1) = s - 1 ∧ inR s 1 8 = true ∧ inR a 0 4000 = true := by
  simp only [entB, inR, Bool.and_eq_true, decide_eq_true_eq] at h ⊢
  obtain ⟨h1, h2⟩ := hs
  unfold wrap64 at h ⊢
  omega

theorem ent_not (s a : Int) (hs : In64 s) (h : entB (wrap64 (s - 1)) a = false) : (inR s 1 8 && inR a 0 4000) = false := by
  rw [Bool.eq_false_iff] at h ⊢
  intro hc
  apply h
  simp only [entB, inR, Bool.and_eq_true, decide_eq_true_eq] at hc ⊢
  unfold wrap64
  omega

set_option maxRecDepth 100000 in
set_option maxHeartbeats 2000000 in
theorem isEntryM (xt : Bool) (xn xl xh xa xp xs : Int) (hs : In64 xs) (w : World) :
    Calls Try.prog 22 #[.agg #[.bool xt, .int .i64 xn, .int .i64 xl, .int .i64 xh, .int .i64 xa, .int .i64 xp, .int .i64 xs]] w fun e w' => e = .returned (.bool (entryB xt xn xl xh xa xp xs)) ∧ Below w.heap.size w w' := by
  by_cases hE : entB (wrap64 (xs - 1)) xa = true
  · obtain ⟨e1, e2, e3⟩ := ent_of xs xa hs hE
    have e5 : xs - 1 + 1 = xs := by omega
    have hs1 : 1 ≤ xs ∧ xs ≤ 8 := by simpa [inR] using e2
    have e6 : wrap64 (xs - 1 + 1) = xs := by unfold wrap64; omega
    have hq1 : ∀ w : World, (binOp .eql 29 (.agg #[.bool xt, .int .i64 xn, .int .i64 xl, .int .i64 xh, .int .i64 xa, .int .i64 xp, .int .i64 xs]) (.agg #[.bool true, .int .i64 0, .int .i64 0, .int .i64 0, .int .i64 xa, .int .i64 16, .int .i64 xs])).run Try.prog w = .ok (.bool ((xt && ((xn == 0) && ((xl == 0) && (xh == 0)))) && (xp == 16))) w := by
      intro w; rw [word_eq]; congr 2; simp [Bool.and_assoc]
    have hq2 : ∀ w : World, (binOp .eql 29 (.agg #[.bool xt, .int .i64 xn, .int .i64 xl, .int .i64 xh, .int .i64 xa, .int .i64 xp, .int .i64 xs]) (.agg #[.bool true, .int .i64 0, .int .i64 0, .int .i64 0, .int .i64 xa, .int .i64 0, .int .i64 xs])).run Try.prog w = .ok (.bool ((xt && ((xn == 0) && ((xl == 0) && (xh == 0)))) && (xp == 0))) w := by
      intro w; rw [word_eq]; congr 2; simp [Bool.and_assoc]
    have hR : entryB xt xn xl xh xa xp xs = (((xt && ((xn == 0) && ((xl == 0) && (xh == 0)))) && (xp == 16)) || ((xt && ((xn == 0) && ((xl == 0) && (xh == 0)))) && (xp == 0))) := by
      rw [entryB, e2, e3, Bool.true_and, Bool.true_and, ← Bool.and_or_distrib_left, Bool.or_comm]
    rw [hR]
    clear hR e2 e3
    generalize ((xt && ((xn == 0) && ((xl == 0) && (xh == 0)))) && (xp == 0)) = b2 at hq2 ⊢
    generalize ((xt && ((xn == 0) && ((xl == 0) && (xh == 0)))) && (xp == 16)) = b1 at hq1 ⊢
    have g16 := go16
    cases b1
    · go_enter Try.func22, Try.ntmps22
      go_wp2_with fail
      refine (entryM _ _ _).mono ?_
      rintro e w1 ⟨rfl, hb⟩
      rw [← e1, hE]
      simp only [sel, cond_true, e1, e5]
      go_wp2_with fail
      obtain ⟨w2, hw2⟩ : ∃ w2, w2 = w1.alloc (.cells #[.bool true, .int .i64 0, .int .i64 0, .int .i64 0, .int .i64 xa, .int .i64 16, .int .i64 xs] 29) := ⟨_, rfl⟩
      rw [← hw2]
      have hlt : w.heap.size < w1.heap.size := by have := hb.size; simp at this; omega
      have hb2 : Below w.heap.size w w2 := by rw [hw2]; exact ((Below.alloc (Below.refl _ _) (Nat.le_refl _) _).trans (hb.mono (by simp))).alloc (by omega) _
      have hgs : w.heap.size < w2.heap.size := by rw [hw2]; simp; omega
      have hsz : w1.heap.size < w2.heap.size := by rw [hw2]; simp
      have cx_w20 : w2.cell? ⟨w.heap.size, 0, none⟩ = some (.bool (xt)) := by rw [hw2, cell_alloc_old _ _ (by simpa using hlt)]; exact (hb.cell (by simp)).trans (by simp [go_sem])
      have cx_w21 : w2.cell? ⟨w.heap.size, 1, none⟩ = some (.int .i64 (xn)) := by rw [hw2, cell_alloc_old _ _ (by simpa using hlt)]; exact (hb.cell (by simp)).trans (by simp [go_sem])
      have cx_w22 : w2.cell? ⟨w.heap.size, 2, none⟩ = some (.int .i64 (xl)) := by rw [hw2, cell_alloc_old _ _ (by simpa using hlt)]; exact (hb.cell (by simp)).trans (by simp [go_sem])
      have cx_w23 : w2.cell? ⟨w.heap.size, 3, none⟩ = some (.int .i64 (xh)) := by rw [hw2, cell_alloc_old _ _ (by simpa using hlt)]; exact (hb.cell (by simp)).trans (by simp [go_sem])
      have cx_w24 : w2.cell? ⟨w.heap.size, 4, none⟩ = some (.int .i64 (xa)) := by rw [hw2, cell_alloc_old _ _ (by simpa using hlt)]; exact (hb.cell (by simp)).trans (by simp [go_sem])
      have cx_w25 : w2.cell? ⟨w.heap.size, 5, none⟩ = some (.int .i64 (xp)) := by rw [hw2, cell_alloc_old _ _ (by simpa using hlt)]; exact (hb.cell (by simp)).trans (by simp [go_sem])
      have cx_w26 : w2.cell? ⟨w.heap.size, 6, none⟩ = some (.int .i64 (xs)) := by rw [hw2, cell_alloc_old _ _ (by simpa using hlt)]; exact (hb.cell (by simp)).trans (by simp [go_sem])
      have ce_w20 : w2.cell? ⟨w1.heap.size, 0, none⟩ = some (.bool (true)) := by rw [hw2]; simp [go_sem]
      have ce_w21 : w2.cell? ⟨w1.heap.size, 1, none⟩ = some (.int .i64 (0)) := by rw [hw2]; simp [go_sem]
      have ce_w22 : w2.cell? ⟨w1.heap.size, 2, none⟩ = some (.int .i64 (0)) := by rw [hw2]; simp [go_sem]
      have ce_w23 : w2.cell? ⟨w1.heap.size, 3, none⟩ = some (.int .i64 (0)) := by rw [hw2]; simp [go_sem]
      have ce_w24 : w2.cell? ⟨w1.heap.size, 4, none⟩ = some (.int .i64 (xa)) := by rw [hw2]; simp [go_sem]
      have ce_w25 : w2.cell? ⟨w1.heap.size, 5, none⟩ = some (.int .i64 (16)) := by rw [hw2]; simp [go_sem]
      have ce_w26 : w2.cell? ⟨w1.heap.size, 6, none⟩ = some (.int .i64 (xs)) := by rw [hw2]; simp [go_sem]
      generalize w1.heap.size = k at *
      clear hw2 hb hlt
      go_region_with (go_at_call 28; refine (lackBelow _ _ _ _ _ _ _ _ _).mono ?_; rintro e wl ⟨rfl, hbl⟩; rw [g16]; have hkl := word_kept hbl (by exact hgs) cx_w20 cx_w21 cx_w22 cx_w23 cx_w24 cx_w25 cx_w26; have hkm := word_kept hbl (by exact hsz) ce_w20 ce_w21 ce_w22 ce_w23 ce_w24 ce_w25 ce_w26; obtain ⟨l0, l1, l2, l3, l4, l5, l6⟩ := hkl; obtain ⟨m0, m1, m2, m3, m4, m5, m6⟩ := hkm)
      all_goals go_wp2_with fail
      all_goals go_ret
      all_goals exact ⟨rb (by simp), hb2.drew.trans (hbl.mono (show w.heap.size ≤ w2.heap.size by omega))⟩
    · go_enter Try.func22, Try.ntmps22
      go_wp2_with fail
      refine (entryM _ _ _).mono ?_
      rintro e w1 ⟨rfl, hb⟩
      rw [← e1, hE]
      simp only [sel, cond_true, e1, e5]
      go_wp2_with fail
      obtain ⟨w2, hw2⟩ : ∃ w2, w2 = w1.alloc (.cells #[.bool true, .int .i64 0, .int .i64 0, .int .i64 0, .int .i64 xa, .int .i64 16, .int .i64 xs] 29) := ⟨_, rfl⟩
      rw [← hw2]
      have hlt : w.heap.size < w1.heap.size := by have := hb.size; simp at this; omega
      have hb2 : Below w.heap.size w w2 := by rw [hw2]; exact ((Below.alloc (Below.refl _ _) (Nat.le_refl _) _).trans (hb.mono (by simp))).alloc (by omega) _
      have hgs : w.heap.size < w2.heap.size := by rw [hw2]; simp; omega
      have hsz : w1.heap.size < w2.heap.size := by rw [hw2]; simp
      have cx_w20 : w2.cell? ⟨w.heap.size, 0, none⟩ = some (.bool (xt)) := by rw [hw2, cell_alloc_old _ _ (by simpa using hlt)]; exact (hb.cell (by simp)).trans (by simp [go_sem])
      have cx_w21 : w2.cell? ⟨w.heap.size, 1, none⟩ = some (.int .i64 (xn)) := by rw [hw2, cell_alloc_old _ _ (by simpa using hlt)]; exact (hb.cell (by simp)).trans (by simp [go_sem])
      have cx_w22 : w2.cell? ⟨w.heap.size, 2, none⟩ = some (.int .i64 (xl)) := by rw [hw2, cell_alloc_old _ _ (by simpa using hlt)]; exact (hb.cell (by simp)).trans (by simp [go_sem])
      have cx_w23 : w2.cell? ⟨w.heap.size, 3, none⟩ = some (.int .i64 (xh)) := by rw [hw2, cell_alloc_old _ _ (by simpa using hlt)]; exact (hb.cell (by simp)).trans (by simp [go_sem])
      have cx_w24 : w2.cell? ⟨w.heap.size, 4, none⟩ = some (.int .i64 (xa)) := by rw [hw2, cell_alloc_old _ _ (by simpa using hlt)]; exact (hb.cell (by simp)).trans (by simp [go_sem])
      have cx_w25 : w2.cell? ⟨w.heap.size, 5, none⟩ = some (.int .i64 (xp)) := by rw [hw2, cell_alloc_old _ _ (by simpa using hlt)]; exact (hb.cell (by simp)).trans (by simp [go_sem])
      have cx_w26 : w2.cell? ⟨w.heap.size, 6, none⟩ = some (.int .i64 (xs)) := by rw [hw2, cell_alloc_old _ _ (by simpa using hlt)]; exact (hb.cell (by simp)).trans (by simp [go_sem])
      have ce_w20 : w2.cell? ⟨w1.heap.size, 0, none⟩ = some (.bool (true)) := by rw [hw2]; simp [go_sem]
      have ce_w21 : w2.cell? ⟨w1.heap.size, 1, none⟩ = some (.int .i64 (0)) := by rw [hw2]; simp [go_sem]
      have ce_w22 : w2.cell? ⟨w1.heap.size, 2, none⟩ = some (.int .i64 (0)) := by rw [hw2]; simp [go_sem]
      have ce_w23 : w2.cell? ⟨w1.heap.size, 3, none⟩ = some (.int .i64 (0)) := by rw [hw2]; simp [go_sem]
      have ce_w24 : w2.cell? ⟨w1.heap.size, 4, none⟩ = some (.int .i64 (xa)) := by rw [hw2]; simp [go_sem]
      have ce_w25 : w2.cell? ⟨w1.heap.size, 5, none⟩ = some (.int .i64 (16)) := by rw [hw2]; simp [go_sem]
      have ce_w26 : w2.cell? ⟨w1.heap.size, 6, none⟩ = some (.int .i64 (xs)) := by rw [hw2]; simp [go_sem]
      generalize w1.heap.size = k at *
      clear hw2 hb hlt
      go_quiet (fail)
      go_wp2_with fail
      go_ret
      exact ⟨rb (by simp), below_drewN hb2 _⟩
  · rw [Bool.not_eq_true] at hE
    have hR : entryB xt xn xl xh xa xp xs = false := by
      have h := ent_not xs xa hs hE
      rw [entryB, ← Bool.and_assoc (inR xs 1 8), h]; simp
    rw [hR]
    clear hR
    go_enter Try.func22, Try.ntmps22
    go_wp2_with fail
    refine (entryM _ _ _).mono ?_
    rintro e w1 ⟨rfl, hb⟩
    have hb1 : Below w.heap.size w w1 := (Below.alloc (Below.refl _ _) (Nat.le_refl _) _).trans (hb.mono (by simp))
    rw [hE]
    simp only [sel, cond_false]
    clear hb hE
    go_wp2_with fail
    go_quiet (fail)
    go_wp2_with fail
    go_ret
    exact ⟨rb rfl, below_drewN (hb1.alloc hb1.size _) _⟩

set_option maxRecDepth 100000 in
set_option maxHeartbeats 2000000 in
theorem implOkM (xt : Bool) (xn xl xh xa xp xs : Int) (hs : In64 xs) (w : World) :
    Calls Try.prog 14 #[.agg #[.bool xt, .int .i64 xn, .int .i64 xl, .int .i64 xh, .int .i64 xa, .int .i64 xp, .int .i64 xs]] w fun e w' => e = .returned (.bool (okB xt xn xl xh xa xp xs)) ∧ Below w.heap.size w w' := by
  unfold okB
  have H1 := isIntM xt xn xl xh xa xp xs
  have H2 := isEntryM xt xn xl xh xa xp xs hs
  have H3 := isWayM xt xn xl xh xa xp xs
  generalize isIntB xt xn xl xh xa xp xs = b1 at *
  generalize entryB xt xn xl xh xa xp xs = b2 at *
  generalize wayB xt xn xl xh xa xp xs = b3 at *
  go_enter Try.func14, Try.ntmps14
  go_wp2_with fail
  refine (H1 _).mono ?_
  rintro e w1 ⟨rfl, hb1⟩
  have hw1 : Below w.heap.size w w1 := (Below.alloc (Below.refl _ _) (Nat.le_refl _) _).trans (hb1.mono (by simp))
  cases b1
  · have hs1 := hb1.size
    have cx_w10 : w1.cell? ⟨w.heap.size, 0, none⟩ = some (.bool (xt)) := (hb1.cell (by simp)).trans (by simp [go_sem])
    have cx_w11 : w1.cell? ⟨w.heap.size, 1, none⟩ = some (.int .i64 (xn)) := (hb1.cell (by simp)).trans (by simp [go_sem])
    have cx_w12 : w1.cell? ⟨w.heap.size, 2, none⟩ = some (.int .i64 (xl)) := (hb1.cell (by simp)).trans (by simp [go_sem])
    have cx_w13 : w1.cell? ⟨w.heap.size, 3, none⟩ = some (.int .i64 (xh)) := (hb1.cell (by simp)).trans (by simp [go_sem])
    have cx_w14 : w1.cell? ⟨w.heap.size, 4, none⟩ = some (.int .i64 (xa)) := (hb1.cell (by simp)).trans (by simp [go_sem])
    have cx_w15 : w1.cell? ⟨w.heap.size, 5, none⟩ = some (.int .i64 (xp)) := (hb1.cell (by simp)).trans (by simp [go_sem])
    have cx_w16 : w1.cell? ⟨w.heap.size, 6, none⟩ = some (.int .i64 (xs)) := (hb1.cell (by simp)).trans (by simp [go_sem])
    go_wp2_with fail
    refine (H2 _).mono ?_
    rintro e w2 ⟨rfl, hb2⟩
    have hw2 : Below w.heap.size w w2 := hw1.trans (hb2.mono hw1.size)
    cases b2
    ·
      have cx_w20 : w2.cell? ⟨w.heap.size, 0, none⟩ = some (.bool (xt)) := (hb2.cell (by simp at hs1 ⊢; omega)).trans (by assumption)
      have cx_w21 : w2.cell? ⟨w.heap.size, 1, none⟩ = some (.int .i64 (xn)) := (hb2.cell (by simp at hs1 ⊢; omega)).trans (by assumption)
      have cx_w22 : w2.cell? ⟨w.heap.size, 2, none⟩ = some (.int .i64 (xl)) := (hb2.cell (by simp at hs1 ⊢; omega)).trans (by assumption)
      have cx_w23 : w2.cell? ⟨w.heap.size, 3, none⟩ = some (.int .i64 (xh)) := (hb2.cell (by simp at hs1 ⊢; omega)).trans (by assumption)
      have cx_w24 : w2.cell? ⟨w.heap.size, 4, none⟩ = some (.int .i64 (xa)) := (hb2.cell (by simp at hs1 ⊢; omega)).trans (by assumption)
      have cx_w25 : w2.cell? ⟨w.heap.size, 5, none⟩ = some (.int .i64 (xp)) := (hb2.cell (by simp at hs1 ⊢; omega)).trans (by assumption)
      have cx_w26 : w2.cell? ⟨w.heap.size, 6, none⟩ = some (.int .i64 (xs)) := (hb2.cell (by simp at hs1 ⊢; omega)).trans (by assumption)
      go_wp2_with fail
      refine (H3 _).mono ?_
      rintro e w3 ⟨rfl, o, rfl⟩
      go_wp2_with fail
      go_ret
      exact ⟨rb (by simp), hw2.alloc hw2.size _⟩
    · go_wp2_with fail
      go_ret
      exact ⟨rb (by simp), hw2⟩
  · go_wp2_with fail
    go_ret
    exact ⟨rb (by simp), hw1⟩

end Go.Proofs.Ytjojildjnafgiaa

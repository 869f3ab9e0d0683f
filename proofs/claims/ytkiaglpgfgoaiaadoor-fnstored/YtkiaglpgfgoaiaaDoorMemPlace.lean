/- Where a way leads, by the program: as the specification tells it. -/
import Derived.Test.YtkiaglpgfgoaiaaDoorMemSpec3
import Derived.Test.YtkiaglpgfgoaiaaDoorErrs
namespace Go.Proofs.YtkiaglpgfgoaiaaDoor
open Go.RowKit
set_option linter.unusedVariables false
set_option linter.unusedSimpArgs false

theorem may1 (p : Int) (h0 : 0 ≤ p) (h1 : p ≤ 31) : (bits .andNot .i64 1 p == 0) = (bits .and .i64 p 1 == 1) := by
  obtain ⟨k, rfl⟩ := Int.eq_ofNat_of_zero_le h0
  have hk : k < 32 := by omega
  clear h0 h1
  have hall : ∀ k : Fin 32, (bits .andNot .i64 1 ((k.val : Nat) : Int) == 0) = (bits .and .i64 ((k.val : Nat) : Int) 1 == 1) := by decide
  exact hall ⟨k, hk⟩
theorem may2 (p : Int) (h0 : 0 ≤ p) (h1 : p ≤ 31) : (bits .andNot .i64 2 p == 0) = (bits .and .i64 p 2 == 2) := by
  obtain ⟨k, rfl⟩ := Int.eq_ofNat_of_zero_le h0
  have hk : k < 32 := by omega
  clear h0 h1
  have hall : ∀ k : Fin 32, (bits .andNot .i64 2 ((k.val : Nat) : Int) == 0) = (bits .and .i64 ((k.val : Nat) : Int) 2 == 2) := by decide
  exact hall ⟨k, hk⟩
theorem may4 (p : Int) (h0 : 0 ≤ p) (h1 : p ≤ 31) : (bits .andNot .i64 4 p == 0) = !(bits .and .i64 p 4 == 0) := by
  obtain ⟨k, rfl⟩ := Int.eq_ofNat_of_zero_le h0
  have hk : k < 32 := by omega
  clear h0 h1
  have hall : ∀ k : Fin 32, (bits .andNot .i64 4 ((k.val : Nat) : Int) == 0) = !(bits .and .i64 ((k.val : Nat) : Int) 4 == 0) := by decide
  exact hall ⟨k, hk⟩

def trapJ (n : Nat) (xt : Bool) (xn xl xh xa xp xs : Int) (by_ perm : Int) : Int := bif wayB xt xn xl xh xa xp xs then trapV n xt xn xl xh xa xp xs by_ perm else 1
def placeJ (n : Nat) (xt : Bool) (xn xl xh xa xp xs : Int) (by_ perm : Int) : Int := bif trapJ n xt xn xl xh xa xp xs by_ perm == 0 then xa + by_ else 0

/-- What is there behind a call: the box of a word, a memory's cell, the sentinels. -/
structure Kept (w w1 : World) (g : Nat) (v : Value) (xt xn xl xh xa xp xs : Value) (p t b : Addr) : Prop where
  box : w1.heap[w.heap.size]? = some (.cells #[xt, xn, xl, xh, xa, xp, xs] 27 (0, 0))
  cg : w1.cell? ⟨g, 0, none⟩ = some v
  cp : w1.cell? ⟨0, 0, none⟩ = some (.iface 83 (.pointer (some p)))
  ct : w1.cell? ⟨1, 0, none⟩ = some (.iface 83 (.pointer (some t)))
  cb : w1.cell? ⟨2, 0, none⟩ = some (.iface 83 (.pointer (some b)))
  below : Below w.heap.size w w1
  size : w.heap.size < w1.heap.size

theorem Kept.first {w : World} {g : Nat} {v : Value} {xt xn xl xh xa xp xs : Value} {p t b : Addr} (hs : Sents w p t b) (cg : w.cell? ⟨g, 0, none⟩ = some v) : Kept w (w.alloc (.cells #[xt, xn, xl, xh, xa, xp, xs] 27)) g v xt xn xl xh xa xp xs p t b := by
  have hb : Below w.heap.size w (w.alloc (.cells #[xt, xn, xl, xh, xa, xp, xs] 27)) := (Below.refl _ _).alloc (Nat.le_refl _) _
  have h := hs.below hb
  exact ⟨heap_alloc_new w _, (hb.cell (World.block_lt_of_cell? w _ cg)).trans cg, h.cp, h.ct, h.cb, hb, by simp⟩

theorem Kept.next {w w1 w2 : World} {g : Nat} {v : Value} {xt xn xl xh xa xp xs : Value} {p t b : Addr} (h : Kept w w1 g v xt xn xl xh xa xp xs p t b) (hb : Below w1.heap.size w1 w2) : Kept w w2 g v xt xn xl xh xa xp xs p t b :=
  ⟨(hb.block _ (Array.getElem?_eq_some_iff.1 h.box).1).trans h.box, (hb.cell (World.block_lt_of_cell? w1 _ h.cg)).trans h.cg, (hb.cell (World.block_lt_of_cell? w1 _ h.cp)).trans h.cp, (hb.cell (World.block_lt_of_cell? w1 _ h.ct)).trans h.ct, (hb.cell (World.block_lt_of_cell? w1 _ h.cb)).trans h.cb, h.below.trans (hb.mono h.below.size), Nat.lt_of_lt_of_le h.size hb.size⟩

set_option maxRecDepth 100000 in
set_option maxHeartbeats 4000000 in
theorem iplaceM (g : Nat) (a : Option Addr) (n c : Nat) (xt : Bool) (xn xl xh xa xp xs : Int) (by_ perm : Int) (p t b : Addr) (w : World) (cg : w.cell? ⟨g, 0, none⟩ = some (.slice a n c)) (hs : Sents w p t b) (hp : perm = 1 ∨ perm = 2) (hn : n ≤ 4000) :
    Calls Tryd.prog 27 #[.pointer (some ⟨g, 0, none⟩), .agg #[.bool xt, .int .i64 xn, .int .i64 xl, .int .i64 xh, .int .i64 xa, .int .i64 xp, .int .i64 xs], .int .i64 by_, .int .i64 perm] w fun e w' => e = .returned (.tuple #[.int .i64 (placeJ n xt xn xl xh xa xp xs by_ perm), errV p t b (trapJ n xt xn xl xh xa xp xs by_ perm)]) ∧ Below w.heap.size w w' := by
  have HW := isWayM xt xn xl xh xa xp xs
  have K0 := Kept.first (xt := .bool xt) (xn := .int .i64 xn) (xl := .int .i64 xl) (xh := .int .i64 xh) (xa := .int .i64 xa) (xp := .int .i64 xp) (xs := .int .i64 xs) hs cg
  have HK0 : Hid _ := K0
  cases hw : wayB xt xn xl xh xa xp xs
  · have e1 : trapJ n xt xn xl xh xa xp xs by_ perm = 1 := by rw [trapJ, hw]; rfl
    have e2 : placeJ n xt xn xl xh xa xp xs by_ perm = 0 := by rw [placeJ, e1]; rfl
    rw [e1, e2, show errV p t b 1 = .iface 83 (.pointer (some t)) from rfl]
    rw [hw] at HW
    clear e1 e2 hw hs cg K0
    go_enter Tryd.func27, Tryd.ntmps27
    go_wp2_with fail
    refine (HW _).mono ?_
    rintro e w1 ⟨rfl, o, rfl⟩
    obtain ⟨w1, e1⟩ : ∃ w1, w1 = (w.alloc (.cells #[.bool xt, .int .i64 xn, .int .i64 xl, .int .i64 xh, .int .i64 xa, .int .i64 xp, .int .i64 xs] 27)).alloc o := ⟨_, rfl⟩
    have K1 := HK0.out.next (w2 := w1) (by rw [e1]; exact (by repeat (first | exact Below.refl _ _ | assumption | (refine below_drewN ?_ _) | apply Below.drew | (refine Below.alloc ?_ ?_ _) | (refine Below.setCell ?_ ?_ _) | omega | (simp; omega) | simp)))
    rw [← e1]
    obtain ⟨_, _, cp, ct, cb, hb1, _⟩ := K1
    have HB : Hid _ := hb1
    clear e1 HK0 HW hb1
    go_wp2_with fail
    go_quiet (fail)
    go_wp2_with fail
    go_ret2
    exact ⟨rfl, below_drewN HB.out _⟩
  · obtain ⟨rfl, rfl, rfl, ⟨p0, p1⟩, l0, l1, l2, a0, a1⟩ := way_parts _ _ _ _ _ _ _ hw
    have HM := mayM true 0 xl xh xa xp 0 perm
    have hmay : (bits .andNot .i64 perm xp == 0) = (bits .and .i64 xp perm == perm) := by
      rcases hp with rfl | rfl
      · exact may1 xp p0 p1
      · exact may2 xp p0 p1
    rw [hmay] at HM
    rw [hw] at HW
    cases hpm : (bits .and .i64 xp perm == perm)
    · have e1 : trapJ n true 0 xl xh xa xp 0 by_ perm = 3 := by rw [trapJ, hw, trapV, hpm]; rfl
      have e2 : placeJ n true 0 xl xh xa xp 0 by_ perm = 0 := by rw [placeJ, e1]; rfl
      rw [e1, e2, show errV p t b 3 = .iface 83 (.pointer (some p)) from rfl]
      rw [hpm] at HM
      clear e1 e2 hw hs cg K0 hmay hpm hp
      go_enter Tryd.func27, Tryd.ntmps27
      go_wp2_with fail
      refine (HW _).mono ?_
      rintro e w1 ⟨rfl, o, rfl⟩
      obtain ⟨w1, e1⟩ : ∃ w1, w1 = (w.alloc (.cells #[.bool true, .int .i64 0, .int .i64 xl, .int .i64 xh, .int .i64 xa, .int .i64 xp, .int .i64 0] 27)).alloc o := ⟨_, rfl⟩
      have K1 := HK0.out.next (w2 := w1) (by rw [e1]; exact (by repeat (first | exact Below.refl _ _ | assumption | (refine below_drewN ?_ _) | apply Below.drew | (refine Below.alloc ?_ ?_ _) | (refine Below.setCell ?_ ?_ _) | omega | (simp; omega) | simp)))
      rw [← e1]
      clear e1 HK0 HW
      obtain ⟨x0, x1, x2, x3, x4, x5, x6, _⟩ := row_facts K1.box
      have HK1 : Hid _ := K1
      clear K1
      go_wp2_with fail
      refine (HM _).mono ?_
      rintro e w2 ⟨rfl, rfl⟩
      obtain ⟨w2, e2⟩ : ∃ w2, w2 = w1.alloc (.cells #[.bool true, .int .i64 0, .int .i64 xl, .int .i64 xh, .int .i64 xa, .int .i64 xp, .int .i64 0] 27) := ⟨_, rfl⟩
      have K2 := HK1.out.next (w2 := w2) (by rw [e2]; exact (by repeat (first | exact Below.refl _ _ | assumption | (refine below_drewN ?_ _) | apply Below.drew | (refine Below.alloc ?_ ?_ _) | (refine Below.setCell ?_ ?_ _) | omega | (simp; omega) | simp)))
      rw [← e2]
      clear e2 HK1 HM x0 x1 x2 x3 x4 x5 x6
      obtain ⟨_, _, cp, ct, cb, hb1, _⟩ := K2
      have HB : Hid _ := hb1
      clear hb1
      go_wp2_with fail
      go_quiet (fail)
      go_wp2_with fail
      go_ret2
      exact ⟨rfl, below_drewN HB.out _⟩
    · rw [hpm] at HM
      cases hin : inR by_ (xl - xa) (xh - 1 - xa)
      · have hh : hitB n xl xh xa by_ = false := by
          rw [Bool.eq_false_iff]; intro h
          rw [Bool.eq_false_iff] at hin; apply hin
          simp only [hitB, inR, Bool.and_eq_true, decide_eq_true_eq] at h ⊢
          omega
        have e1 : trapJ n true 0 xl xh xa xp 0 by_ perm = 2 := by rw [trapJ, hw, trapV, hpm, hh]; rfl
        have e2 : placeJ n true 0 xl xh xa xp 0 by_ perm = 0 := by rw [placeJ, e1]; rfl
        rw [e1, e2, show errV p t b 2 = .iface 83 (.pointer (some b)) from rfl]
        have HI := fun w => inRangeM by_ (xl - xa) (xh - 1 - xa) w
        rw [hin] at HI
        clear e1 e2 hw hs cg K0 hmay hpm hp hh hin
        go_enter Tryd.func27, Tryd.ntmps27
        go_wp2_with fail
        refine (HW _).mono ?_
        rintro e w1 ⟨rfl, o, rfl⟩
        obtain ⟨w1, e1⟩ : ∃ w1, w1 = (w.alloc (.cells #[.bool true, .int .i64 0, .int .i64 xl, .int .i64 xh, .int .i64 xa, .int .i64 xp, .int .i64 0] 27)).alloc o := ⟨_, rfl⟩
        have K1 := HK0.out.next (w2 := w1) (by rw [e1]; exact (by repeat (first | exact Below.refl _ _ | assumption | (refine below_drewN ?_ _) | apply Below.drew | (refine Below.alloc ?_ ?_ _) | (refine Below.setCell ?_ ?_ _) | omega | (simp; omega) | simp)))
        rw [← e1]
        clear e1 HK0 HW
        obtain ⟨x0, x1, x2, x3, x4, x5, x6, _⟩ := row_facts K1.box
        have HK1 : Hid _ := K1
        clear K1
        go_wp2_with fail
        refine (HM _).mono ?_
        rintro e w2 ⟨rfl, rfl⟩
        obtain ⟨w2, e2⟩ : ∃ w2, w2 = w1.alloc (.cells #[.bool true, .int .i64 0, .int .i64 xl, .int .i64 xh, .int .i64 xa, .int .i64 xp, .int .i64 0] 27) := ⟨_, rfl⟩
        have K2 := HK1.out.next (w2 := w2) (by rw [e2]; exact (by repeat (first | exact Below.refl _ _ | assumption | (refine below_drewN ?_ _) | apply Below.drew | (refine Below.alloc ?_ ?_ _) | (refine Below.setCell ?_ ?_ _) | omega | (simp; omega) | simp)))
        rw [← e2]
        clear e2 HK1 HM x0 x1 x2 x3 x4 x5 x6
        obtain ⟨hbx, cg, cp, ct, cb, hb1, _⟩ := K2
        obtain ⟨x0, x1, x2, x3, x4, x5, x6, _⟩ := row_facts hbx
        have HB : Hid _ := hb1
        clear hb1 hbx
        go_wp2_with fail
        go_quiet ((go_at_call 37; exact Calls.quiet_of_same (HI _)))
        go_wp2_with fail
        go_quiet (fail)
        go_wp2_with fail
        go_ret2
        exact ⟨rfl, below_drewN (below_drewN HB.out _) _⟩
      · have HI := fun w => inRangeM by_ (xl - xa) (xh - 1 - xa) w
        rw [hin] at HI
        simp only [inR, Bool.and_eq_true, decide_eq_true_eq] at hin
        obtain ⟨i0, i1⟩ := hin
        have b0 : -8000 ≤ by_ := by omega
        have b1 : by_ ≤ 8000 := by omega
        have s0 : 0 ≤ xa + by_ := by omega
        have s1 : xa + by_ ≤ 4000 := by omega
        by_cases hlt : xa + by_ < (n : Int)
        · have hh : hitB n xl xh xa by_ = true := by
            simp only [hitB, inR, Bool.and_eq_true, decide_eq_true_eq]
            omega
          have e1 : trapJ n true 0 xl xh xa xp 0 by_ perm = 0 := by rw [trapJ, hw, trapV, hpm, hh]; rfl
          have e2 : placeJ n true 0 xl xh xa xp 0 by_ perm = xa + by_ := by rw [placeJ, e1]; rfl
          rw [e1, e2, show errV p t b 0 = .nilIface from rfl]
          clear e1 e2 hw hs cg K0 hmay hpm hp hh i0 i1
          go_enter Tryd.func27, Tryd.ntmps27
          go_wp2_with fail
          refine (HW _).mono ?_
          rintro e w1 ⟨rfl, o, rfl⟩
          obtain ⟨w1, e1⟩ : ∃ w1, w1 = (w.alloc (.cells #[.bool true, .int .i64 0, .int .i64 xl, .int .i64 xh, .int .i64 xa, .int .i64 xp, .int .i64 0] 27)).alloc o := ⟨_, rfl⟩
          have K1 := HK0.out.next (w2 := w1) (by rw [e1]; exact (by repeat (first | exact Below.refl _ _ | assumption | (refine below_drewN ?_ _) | apply Below.drew | (refine Below.alloc ?_ ?_ _) | (refine Below.setCell ?_ ?_ _) | omega | (simp; omega) | simp)))
          rw [← e1]
          clear e1 HK0 HW
          obtain ⟨x0, x1, x2, x3, x4, x5, x6, _⟩ := row_facts K1.box
          have HK1 : Hid _ := K1
          clear K1
          go_wp2_with fail
          refine (HM _).mono ?_
          rintro e w2 ⟨rfl, rfl⟩
          obtain ⟨w2, e2⟩ : ∃ w2, w2 = w1.alloc (.cells #[.bool true, .int .i64 0, .int .i64 xl, .int .i64 xh, .int .i64 xa, .int .i64 xp, .int .i64 0] 27) := ⟨_, rfl⟩
          have K2 := HK1.out.next (w2 := w2) (by rw [e2]; exact (by repeat (first | exact Below.refl _ _ | assumption | (refine below_drewN ?_ _) | apply Below.drew | (refine Below.alloc ?_ ?_ _) | (refine Below.setCell ?_ ?_ _) | omega | (simp; omega) | simp)))
          rw [← e2]
          clear e2 HK1 HM x0 x1 x2 x3 x4 x5 x6
          obtain ⟨hbx, cg, cp, ct, cb, hb1, _⟩ := K2
          obtain ⟨x0, x1, x2, x3, x4, x5, x6, _⟩ := row_facts hbx
          have HB : Hid _ := hb1
          clear hb1 hbx
          go_wp2_with fail
          go_quiet ((go_at_call 37; exact Calls.quiet_of_same (HI _)))
          go_wp2_with fail
          go_ret2
          exact ⟨rfl, below_drewN HB.out _⟩
        · have hh : hitB n xl xh xa by_ = false := by
            rw [Bool.eq_false_iff]; intro h
            simp only [hitB, inR, Bool.and_eq_true, decide_eq_true_eq] at h
            omega
          have e1 : trapJ n true 0 xl xh xa xp 0 by_ perm = 2 := by rw [trapJ, hw, trapV, hpm, hh]; rfl
          have e2 : placeJ n true 0 xl xh xa xp 0 by_ perm = 0 := by rw [placeJ, e1]; rfl
          rw [e1, e2, show errV p t b 2 = .iface 83 (.pointer (some b)) from rfl]
          clear e1 e2 hw hs cg K0 hmay hpm hp hh i0 i1
          go_enter Tryd.func27, Tryd.ntmps27
          go_wp2_with fail
          refine (HW _).mono ?_
          rintro e w1 ⟨rfl, o, rfl⟩
          obtain ⟨w1, e1⟩ : ∃ w1, w1 = (w.alloc (.cells #[.bool true, .int .i64 0, .int .i64 xl, .int .i64 xh, .int .i64 xa, .int .i64 xp, .int .i64 0] 27)).alloc o := ⟨_, rfl⟩
          have K1 := HK0.out.next (w2 := w1) (by rw [e1]; exact (by repeat (first | exact Below.refl _ _ | assumption | (refine below_drewN ?_ _) | apply Below.drew | (refine Below.alloc ?_ ?_ _) | (refine Below.setCell ?_ ?_ _) | omega | (simp; omega) | simp)))
          rw [← e1]
          clear e1 HK0 HW
          obtain ⟨x0, x1, x2, x3, x4, x5, x6, _⟩ := row_facts K1.box
          have HK1 : Hid _ := K1
          clear K1
          go_wp2_with fail
          refine (HM _).mono ?_
          rintro e w2 ⟨rfl, rfl⟩
          obtain ⟨w2, e2⟩ : ∃ w2, w2 = w1.alloc (.cells #[.bool true, .int .i64 0, .int .i64 xl, .int .i64 xh, .int .i64 xa, .int .i64 xp, .int .i64 0] 27) := ⟨_, rfl⟩
          have K2 := HK1.out.next (w2 := w2) (by rw [e2]; exact (by repeat (first | exact Below.refl _ _ | assumption | (refine below_drewN ?_ _) | apply Below.drew | (refine Below.alloc ?_ ?_ _) | (refine Below.setCell ?_ ?_ _) | omega | (simp; omega) | simp)))
          rw [← e2]
          clear e2 HK1 HM x0 x1 x2 x3 x4 x5 x6
          obtain ⟨hbx, cg, cp, ct, cb, hb1, _⟩ := K2
          obtain ⟨x0, x1, x2, x3, x4, x5, x6, _⟩ := row_facts hbx
          have HB : Hid _ := hb1
          clear hb1 hbx
          go_wp2_with fail
          go_quiet ((go_at_call 37; exact Calls.quiet_of_same (HI _)))
          go_wp2_with fail
          go_quiet (fail)
          go_wp2_with fail
          go_ret2
          exact ⟨rfl, below_drewN (below_drewN HB.out _) _⟩
end Go.Proofs.YtkiaglpgfgoaiaaDoor

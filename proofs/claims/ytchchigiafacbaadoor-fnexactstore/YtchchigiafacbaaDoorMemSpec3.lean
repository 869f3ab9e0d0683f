/- What is loaded, by the specification. -/
import Derived.Test.YtchchigiafacbaaDoorMemSpec2
import Derived.Test.YtchchigiafacbaaDoorPut7
import Derived.Deep.Cut
namespace Go.Proofs.YtchchigiafacbaaDoor
open Go.RowKit
set_option linter.unusedVariables false
set_option linter.unusedSimpArgs false

def seeB (xp : Int) (v : Wd) : Bool := v.t && (bits .and .i64 xp 4 == 0)
/-- What is loaded: the trap, and the word. -/
def loadT (l : List Wd) (xt : Bool) (xn xl xh xa xp xs : Int) (by_ : Int) : Int :=
  bif trapV l.length xt xn xl xh xa xp xs by_ 1 == 0 then (bif seeB xp (l[(xa + by_).toNat]?.getD zeroW) then 3 else 0) else trapV l.length xt xn xl xh xa xp xs by_ 1
def loadV (l : List Wd) (xt : Bool) (xn xl xh xa xp xs : Int) (by_ : Int) : Wd := bif loadT l xt xn xl xh xa xp xs by_ == 0 then l[(xa + by_).toNat]?.getD zeroW else zeroW

theorem hit_of {n : Nat} (xt : Bool) (xn xl xh xa xp xs : Int) {by_ perm : Int} (h : trapV n xt xn xl xh xa xp xs by_ perm = 0) : (xt && (xs == 0)) = true ∧ xl ≤ xa + by_ ∧ xa + by_ < xh ∧ xa + by_ < (n : Int) := by
  cases hd : (xt && (xs == 0))
  · rw [trapV, hd] at h; simp at h
  · cases hp : (bits .and .i64 xp perm == perm)
    · rw [trapV, hd, hp] at h; simp at h
    · cases hh : hitB n xl xh xa by_
      · rw [trapV, hd, hp, hh] at h; simp at h
      · simp [hitB, inR] at hh
        exact ⟨rfl, hh.2.1, hh.2.2.1, hh.2.2.2⟩

/-- What a call leaves behind two blocks: the box of a word, the result. -/
theorem two_kept {w w1 : World} {x0 x1 x2 x3 x4 x5 x6 : Value} {z0 z1 z2 z3 z4 z5 z6 : Value} {wA : World} (e : wA = (w.alloc (.cells #[x0, x1, x2, x3, x4, x5, x6] 26)).alloc (.cells #[z0, z1, z2, z3, z4, z5, z6] 26)) (hb : Below wA.heap.size wA w1) :
    w1.heap[w.heap.size]? = some (.cells #[x0, x1, x2, x3, x4, x5, x6] 26 (0, 0)) ∧ w1.heap[w.heap.size + 1]? = some (.cells #[z0, z1, z2, z3, z4, z5, z6] 26 (0, 0)) ∧ Below w.heap.size w w1 ∧ w.heap.size + 2 ≤ w1.heap.size := by
  subst e
  have h1 : ((w.alloc (.cells #[x0, x1, x2, x3, x4, x5, x6] 26)).alloc (.cells #[z0, z1, z2, z3, z4, z5, z6] 26)).heap[w.heap.size]? = some (.cells #[x0, x1, x2, x3, x4, x5, x6] 26 (0, 0)) := by
    rw [old_block (by simp)]; exact heap_alloc_new w _
  have h2 : ((w.alloc (.cells #[x0, x1, x2, x3, x4, x5, x6] 26)).alloc (.cells #[z0, z1, z2, z3, z4, z5, z6] 26)).heap[w.heap.size + 1]? = some (.cells #[z0, z1, z2, z3, z4, z5, z6] 26 (0, 0)) := by
    have := heap_alloc_new (w.alloc (.cells #[x0, x1, x2, x3, x4, x5, x6] 26)) (.cells #[z0, z1, z2, z3, z4, z5, z6] 26)
    simpa using this
  have hs := hb.size
  simp at hs
  exact ⟨(hb.block _ (by simp; omega)).trans h1, (hb.block _ (by simp)).trans h2, (((Below.refl _ _).alloc (Nat.le_refl _) _).alloc (by simp) _).trans (hb.mono (by simp; omega)), by omega⟩

theorem put7_below {B : Nat} {a w : World} (h : Below B a w) {k : Nat} (hk : B ≤ k) (v0 v1 v2 v3 v4 v5 v6 : Value) : Below B a (put7 w k v0 v1 v2 v3 v4 v5 v6) := by
  unfold put7
  exact (((((((h.setCell hk _).setCell hk _).setCell hk _).setCell hk _).setCell hk _).setCell hk _).setCell hk _)

set_option maxRecDepth 100000 in
set_option maxHeartbeats 4000000 in
theorem l3loadM (a : Option Addr) (n c : Nat) (l : List Wd) (xt : Bool) (xn xl xh xa xp xs : Int) (by_ : Int) (w : World) (h : WRow w a n l) (hx : (xt && (xs == 0)) = true → (-4000 ≤ xa ∧ xa ≤ 8000) ∧ 0 ≤ xl) (hn : n ≤ 4000) :
    Calls Tryd.prog 46 #[.slice a n c, .agg #[.bool xt, .int .i64 xn, .int .i64 xl, .int .i64 xh, .int .i64 xa, .int .i64 xp, .int .i64 xs], .int .i64 by_] w fun e w' => e = .returned (.tuple #[.agg #[.bool (loadV l xt xn xl xh xa xp xs by_).t, .int .i64 (loadV l xt xn xl xh xa xp xs by_).n, .int .i64 (loadV l xt xn xl xh xa xp xs by_).l, .int .i64 (loadV l xt xn xl xh xa xp xs by_).h, .int .i64 (loadV l xt xn xl xh xa xp xs by_).a, .int .i64 (loadV l xt xn xl xh xa xp xs by_).p, .int .i64 (loadV l xt xn xl xh xa xp xs by_).s], .int .i64 (loadT l xt xn xl xh xa xp xs by_)]) ∧ Below w.heap.size w w' := by
  have hl := h.1
  have H := fun w => placeM a n c xt xn xl xh xa xp xs by_ 1 w (fun hd => (hx hd).1) (by omega)
  by_cases ht : trapV n xt xn xl xh xa xp xs by_ 1 = 0
  · obtain ⟨hd, h1, h2, h3⟩ := hit_of xt xn xl xh xa xp xs ht
    obtain ⟨⟨ha0, ha1⟩, hl0⟩ := hx hd
    have e2 : placeV n xt xn xl xh xa xp xs by_ 1 = xa + by_ := by rw [placeV, ht]; rfl
    obtain ⟨k, hk⟩ := Int.eq_ofNat_of_zero_le (show 0 ≤ xa + by_ by omega)
    have hkn : k < n := by omega
    obtain ⟨b, off, rfl, _⟩ := h.2 (by omega)
    obtain ⟨v, hv, _⟩ := WRow.el h hkn
    have Hh : Hid (WRow w (some ⟨b, off, none⟩) n l) := h
    have eT : loadT l xt xn xl xh xa xp xs by_ = bif seeB xp v then 3 else 0 := by
      rw [loadT, hl, ht, hk, Int.toNat_natCast, hv]; rfl
    have eV : loadV l xt xn xl xh xa xp xs by_ = bif seeB xp v then zeroW else v := by
      rw [loadV, eT, hk, Int.toNat_natCast, hv]; cases seeB xp v <;> rfl
    rw [eV, eT]
    simp only [ht, e2, hk] at H
    have Hv : Hid (l[k]? = some v) := hv
    clear eV eT h hl hx hv ht e2 hd h1 h2 h3 ha0 ha1 hl0
    cases hs : seeB xp v
    · have hs' : (v.t = true → (bits .and .i64 xp 4 == 0) = false) := by intro e; rw [seeB, e] at hs; simpa using hs
      rw [cond_false, cond_false]
      clear hs
      cases hvt : v.t
      · clear hs'
        go_enter Tryd.func46, Tryd.ntmps46
        go_wp2_with fail
        refine (H _).mono ?_
        rintro e w1 ⟨rfl, o1, o2, rfl⟩
        obtain ⟨w1, e1⟩ : ∃ w1, w1 = ((((w.alloc (.cells #[.bool xt, .int .i64 xn, .int .i64 xl, .int .i64 xh, .int .i64 xa, .int .i64 xp, .int .i64 xs] 26)).alloc (.cells #[.bool false, .int .i64 0, .int .i64 0, .int .i64 0, .int .i64 0, .int .i64 0, .int .i64 0] 26)).alloc o1).alloc o2) := ⟨_, rfl⟩
        obtain ⟨hx1, hr1, hb1, hs1⟩ := two_kept rfl (show Below _ _ w1 by rw [e1]; exact (by repeat (first | exact Below.refl _ _ | assumption | (refine below_drewN ?_ _) | apply Below.drew | (refine Below.alloc ?_ ?_ _) | (refine Below.setCell ?_ ?_ _) | omega | (simp; omega) | simp)))
        rw [← e1]
        clear e1 H
        obtain ⟨v', hv', p0, p1, p2, p3, p4, p5, p6⟩ := WRow.el (WRow.below Hh.out hb1) hkn
        obtain rfl : v = v' := Option.some.inj (Hv.out.symm.trans hv')
        rw [hvt] at p0
        clear hv'
        go_upto_region 5 with fail
        clear p0 p1 p2 p3 p4 p5 p6
        obtain ⟨w2, e2⟩ : ∃ w2, w2 = w1.alloc (.cells #[.bool false, .int .i64 v.n, .int .i64 v.l, .int .i64 v.h, .int .i64 v.a, .int .i64 v.p, .int .i64 v.s] 26) := ⟨_, rfl⟩
        have hx2 := (old_block (o := .cells #[.bool false, .int .i64 v.n, .int .i64 v.l, .int .i64 v.h, .int .i64 v.a, .int .i64 v.p, .int .i64 v.s] 26) (by omega)).trans hx1
        have hr2 := (old_block (o := .cells #[.bool false, .int .i64 v.n, .int .i64 v.l, .int .i64 v.h, .int .i64 v.a, .int .i64 v.p, .int .i64 v.s] 26) (by omega)).trans hr1
        have hv2 := heap_alloc_new w1 (.cells #[.bool false, .int .i64 v.n, .int .i64 v.l, .int .i64 v.h, .int .i64 v.a, .int .i64 v.p, .int .i64 v.s] 26)
        have hb2 : Below w.heap.size w w2 := by rw [e2]; exact hb1.alloc (by omega) _
        rw [← e2] at hx2 hr2 hv2 ⊢
        clear e2 hx1 hr1 hb1
        generalize w1.heap.size = gv at *
        obtain ⟨v0, v1, v2, v3, v4, v5, v6, _⟩ := row_facts hv2
        obtain ⟨x0, x1, x2, x3, x4, x5, x6, _⟩ := row_facts hx2
        obtain ⟨r0, r1, r2, r3, r4, r5, r6, f0, f1, f2, f3, f4, f5, f6⟩ := row_facts hr2
        generalize hgb : w.heap.size = gb at *
        have Hg : Hid (w.heap.size = gb) := hgb
        clear hgb
        have HbF : Hid (Below gb w w2) := hb2
        have HrF : Hid (w2.heap[gb + 1]? = some (.cells #[.bool false, .int .i64 0, .int .i64 0, .int .i64 0, .int .i64 0, .int .i64 0, .int .i64 0] 26 (0, 0))) := hr2
        clear hx2 hr2 hb2 hv2 Hh Hv hvt
        go_wp2_with fail
        have hrF := HrF.out
        have hbF := HbF.out
        have hbW := put7_block (.bool false) (.int .i64 v.n) (.int .i64 v.l) (.int .i64 v.h) (.int .i64 v.a) (.int .i64 v.p) (.int .i64 v.s) hrF
        have hdW := put7_below hbF (show gb ≤ (gb + 1) by omega) (.bool false) (.int .i64 v.n) (.int .i64 v.l) (.int .i64 v.h) (.int .i64 v.a) (.int .i64 v.p) (.int .i64 v.s)
        show bodyPost _ _ _ _ _ (put7 w2 (gb + 1) (.bool false) (.int .i64 v.n) (.int .i64 v.l) (.int .i64 v.h) (.int .i64 v.a) (.int .i64 v.p) (.int .i64 v.s))
        generalize put7 w2 (gb + 1) (.bool false) (.int .i64 v.n) (.int .i64 v.l) (.int .i64 v.h) (.int .i64 v.a) (.int .i64 v.p) (.int .i64 v.s) = W at hbW hdW ⊢
        obtain ⟨d0, d1, d2, d3, d4, d5, d6, _⟩ := row_facts hbW
        refine bodyPost_ret (v := .tuple #[.agg #[.bool false, .int .i64 v.n, .int .i64 v.l, .int .i64 v.h, .int .i64 v.a, .int .i64 v.p, .int .i64 v.s], .int .i64 0]) (by simp [results, Tryd.results46, go_sem, d0, d1, d2, d3, d4, d5, d6]) rfl ⟨rfl, by rw [Hg.out]; exact hdW⟩
      · have hb4 := hs' hvt
        clear hs'
        go_enter Tryd.func46, Tryd.ntmps46
        go_wp2_with fail
        refine (H _).mono ?_
        rintro e w1 ⟨rfl, o1, o2, rfl⟩
        obtain ⟨w1, e1⟩ : ∃ w1, w1 = ((((w.alloc (.cells #[.bool xt, .int .i64 xn, .int .i64 xl, .int .i64 xh, .int .i64 xa, .int .i64 xp, .int .i64 xs] 26)).alloc (.cells #[.bool false, .int .i64 0, .int .i64 0, .int .i64 0, .int .i64 0, .int .i64 0, .int .i64 0] 26)).alloc o1).alloc o2) := ⟨_, rfl⟩
        obtain ⟨hx1, hr1, hb1, hs1⟩ := two_kept rfl (show Below _ _ w1 by rw [e1]; exact (by repeat (first | exact Below.refl _ _ | assumption | (refine below_drewN ?_ _) | apply Below.drew | (refine Below.alloc ?_ ?_ _) | (refine Below.setCell ?_ ?_ _) | omega | (simp; omega) | simp)))
        rw [← e1]
        clear e1 H
        obtain ⟨v', hv', p0, p1, p2, p3, p4, p5, p6⟩ := WRow.el (WRow.below Hh.out hb1) hkn
        obtain rfl : v = v' := Option.some.inj (Hv.out.symm.trans hv')
        rw [hvt] at p0
        clear hv'
        go_upto_region 5 with fail
        clear p0 p1 p2 p3 p4 p5 p6
        obtain ⟨w2, e2⟩ : ∃ w2, w2 = w1.alloc (.cells #[.bool true, .int .i64 v.n, .int .i64 v.l, .int .i64 v.h, .int .i64 v.a, .int .i64 v.p, .int .i64 v.s] 26) := ⟨_, rfl⟩
        have hx2 := (old_block (o := .cells #[.bool true, .int .i64 v.n, .int .i64 v.l, .int .i64 v.h, .int .i64 v.a, .int .i64 v.p, .int .i64 v.s] 26) (by omega)).trans hx1
        have hr2 := (old_block (o := .cells #[.bool true, .int .i64 v.n, .int .i64 v.l, .int .i64 v.h, .int .i64 v.a, .int .i64 v.p, .int .i64 v.s] 26) (by omega)).trans hr1
        have hv2 := heap_alloc_new w1 (.cells #[.bool true, .int .i64 v.n, .int .i64 v.l, .int .i64 v.h, .int .i64 v.a, .int .i64 v.p, .int .i64 v.s] 26)
        have hb2 : Below w.heap.size w w2 := by rw [e2]; exact hb1.alloc (by omega) _
        rw [← e2] at hx2 hr2 hv2 ⊢
        clear e2 hx1 hr1 hb1
        generalize w1.heap.size = gv at *
        obtain ⟨v0, v1, v2, v3, v4, v5, v6, _⟩ := row_facts hv2
        obtain ⟨x0, x1, x2, x3, x4, x5, x6, _⟩ := row_facts hx2
        obtain ⟨r0, r1, r2, r3, r4, r5, r6, f0, f1, f2, f3, f4, f5, f6⟩ := row_facts hr2
        generalize hgb : w.heap.size = gb at *
        have Hg : Hid (w.heap.size = gb) := hgb
        clear hgb
        have HbF : Hid (Below gb w w2) := hb2
        have HrF : Hid (w2.heap[gb + 1]? = some (.cells #[.bool false, .int .i64 0, .int .i64 0, .int .i64 0, .int .i64 0, .int .i64 0, .int .i64 0] 26 (0, 0))) := hr2
        clear hx2 hr2 hb2 hv2 Hh Hv hvt
        go_wp2_with fail
        have hrF := HrF.out
        have hbF := HbF.out
        have hbW := put7_block (.bool true) (.int .i64 v.n) (.int .i64 v.l) (.int .i64 v.h) (.int .i64 v.a) (.int .i64 v.p) (.int .i64 v.s) hrF
        have hdW := put7_below hbF (show gb ≤ (gb + 1) by omega) (.bool true) (.int .i64 v.n) (.int .i64 v.l) (.int .i64 v.h) (.int .i64 v.a) (.int .i64 v.p) (.int .i64 v.s)
        show bodyPost _ _ _ _ _ (put7 w2 (gb + 1) (.bool true) (.int .i64 v.n) (.int .i64 v.l) (.int .i64 v.h) (.int .i64 v.a) (.int .i64 v.p) (.int .i64 v.s))
        generalize put7 w2 (gb + 1) (.bool true) (.int .i64 v.n) (.int .i64 v.l) (.int .i64 v.h) (.int .i64 v.a) (.int .i64 v.p) (.int .i64 v.s) = W at hbW hdW ⊢
        obtain ⟨d0, d1, d2, d3, d4, d5, d6, _⟩ := row_facts hbW
        refine bodyPost_ret (v := .tuple #[.agg #[.bool true, .int .i64 v.n, .int .i64 v.l, .int .i64 v.h, .int .i64 v.a, .int .i64 v.p, .int .i64 v.s], .int .i64 0]) (by simp [results, Tryd.results46, go_sem, d0, d1, d2, d3, d4, d5, d6]) rfl ⟨rfl, by rw [Hg.out]; exact hdW⟩
    · have hvt : v.t = true := by simp [seeB] at hs; exact hs.1
      have hb4 : (bits .and .i64 xp 4 == 0) = true := by simp [seeB] at hs; simpa using hs.2
      rw [cond_true, cond_true]
      clear hs
      go_enter Tryd.func46, Tryd.ntmps46
      go_wp2_with fail
      refine (H _).mono ?_
      rintro e w1 ⟨rfl, o1, o2, rfl⟩
      obtain ⟨w1, e1⟩ : ∃ w1, w1 = ((((w.alloc (.cells #[.bool xt, .int .i64 xn, .int .i64 xl, .int .i64 xh, .int .i64 xa, .int .i64 xp, .int .i64 xs] 26)).alloc (.cells #[.bool false, .int .i64 0, .int .i64 0, .int .i64 0, .int .i64 0, .int .i64 0, .int .i64 0] 26)).alloc o1).alloc o2) := ⟨_, rfl⟩
      obtain ⟨hx1, hr1, hb1, hs1⟩ := two_kept rfl (show Below _ _ w1 by rw [e1]; exact (by repeat (first | exact Below.refl _ _ | assumption | (refine below_drewN ?_ _) | apply Below.drew | (refine Below.alloc ?_ ?_ _) | (refine Below.setCell ?_ ?_ _) | omega | (simp; omega) | simp)))
      rw [← e1]
      clear e1 H
      obtain ⟨v', hv', p0, p1, p2, p3, p4, p5, p6⟩ := WRow.el (WRow.below Hh.out hb1) hkn
      obtain rfl : v = v' := Option.some.inj (Hv.out.symm.trans hv')
      rw [hvt] at p0
      clear hv'
      go_upto_region 5 with fail
      clear p0 p1 p2 p3 p4 p5 p6
      obtain ⟨w2, e2⟩ : ∃ w2, w2 = w1.alloc (.cells #[.bool true, .int .i64 v.n, .int .i64 v.l, .int .i64 v.h, .int .i64 v.a, .int .i64 v.p, .int .i64 v.s] 26) := ⟨_, rfl⟩
      have hx2 := (old_block (o := .cells #[.bool true, .int .i64 v.n, .int .i64 v.l, .int .i64 v.h, .int .i64 v.a, .int .i64 v.p, .int .i64 v.s] 26) (by omega)).trans hx1
      have hr2 := (old_block (o := .cells #[.bool true, .int .i64 v.n, .int .i64 v.l, .int .i64 v.h, .int .i64 v.a, .int .i64 v.p, .int .i64 v.s] 26) (by omega)).trans hr1
      have hv2 := heap_alloc_new w1 (.cells #[.bool true, .int .i64 v.n, .int .i64 v.l, .int .i64 v.h, .int .i64 v.a, .int .i64 v.p, .int .i64 v.s] 26)
      have hb2 : Below w.heap.size w w2 := by rw [e2]; exact hb1.alloc (by omega) _
      rw [← e2] at hx2 hr2 hv2 ⊢
      clear e2 hx1 hr1 hb1
      generalize w1.heap.size = gv at *
      obtain ⟨v0, v1, v2, v3, v4, v5, v6, _⟩ := row_facts hv2
      obtain ⟨x0, x1, x2, x3, x4, x5, x6, _⟩ := row_facts hx2
      obtain ⟨r0, r1, r2, r3, r4, r5, r6, f0, f1, f2, f3, f4, f5, f6⟩ := row_facts hr2
      generalize hgb : w.heap.size = gb at *
      have Hg : Hid (w.heap.size = gb) := hgb
      clear hgb
      have HbF : Hid (Below gb w w2) := hb2
      have HrF : Hid (w2.heap[gb + 1]? = some (.cells #[.bool false, .int .i64 0, .int .i64 0, .int .i64 0, .int .i64 0, .int .i64 0, .int .i64 0] 26 (0, 0))) := hr2
      clear hx2 hr2 hb2 hv2 Hh Hv hvt
      go_wp2_with fail
      have hrF := HrF.out
      have hbF := HbF.out
      have hbW := put7_block (.bool false) (.int .i64 0) (.int .i64 0) (.int .i64 0) (.int .i64 0) (.int .i64 0) (.int .i64 0) hrF
      have hdW := put7_below hbF (show gb ≤ (gb + 1) by omega) (.bool false) (.int .i64 0) (.int .i64 0) (.int .i64 0) (.int .i64 0) (.int .i64 0) (.int .i64 0)
      show bodyPost _ _ _ _ _ (put7 w2 (gb + 1) (.bool false) (.int .i64 0) (.int .i64 0) (.int .i64 0) (.int .i64 0) (.int .i64 0) (.int .i64 0))
      generalize put7 w2 (gb + 1) (.bool false) (.int .i64 0) (.int .i64 0) (.int .i64 0) (.int .i64 0) (.int .i64 0) (.int .i64 0) = W at hbW hdW ⊢
      obtain ⟨d0, d1, d2, d3, d4, d5, d6, _⟩ := row_facts hbW
      refine bodyPost_ret (v := .tuple #[.agg #[.bool false, .int .i64 0, .int .i64 0, .int .i64 0, .int .i64 0, .int .i64 0, .int .i64 0], .int .i64 3]) (by simp [results, Tryd.results46, go_sem, d0, d1, d2, d3, d4, d5, d6]) rfl ⟨rfl, by rw [Hg.out]; exact hdW⟩
  · have eT : loadT l xt xn xl xh xa xp xs by_ = trapV n xt xn xl xh xa xp xs by_ 1 := by
      rw [loadT, hl]
      have : (trapV n xt xn xl xh xa xp xs by_ 1 == 0) = false := by simpa using ht
      rw [this]; rfl
    have eV : loadV l xt xn xl xh xa xp xs by_ = zeroW := by
      rw [loadV, eT]
      have : (trapV n xt xn xl xh xa xp xs by_ 1 == 0) = false := by simpa using ht
      rw [this]; rfl
    rw [eV, eT]
    clear eV eT h hl hx
    generalize placeV n xt xn xl xh xa xp xs by_ 1 = pl at *
    generalize trapV n xt xn xl xh xa xp xs by_ 1 = tr at *
    have htb : (tr != 0) = true := by simpa using ht
    go_enter Tryd.func46, Tryd.ntmps46
    go_wp2_with fail
    refine (H _).mono ?_
    rintro e w1 ⟨rfl, o1, o2, rfl⟩
    obtain ⟨w1, e1⟩ : ∃ w1, w1 = ((((w.alloc (.cells #[.bool xt, .int .i64 xn, .int .i64 xl, .int .i64 xh, .int .i64 xa, .int .i64 xp, .int .i64 xs] 26)).alloc (.cells #[.bool false, .int .i64 0, .int .i64 0, .int .i64 0, .int .i64 0, .int .i64 0, .int .i64 0] 26)).alloc o1).alloc o2) := ⟨_, rfl⟩
    obtain ⟨hx1, hr1, hb1, hs1⟩ := two_kept rfl (show Below _ _ w1 by rw [e1]; exact (by repeat (first | exact Below.refl _ _ | assumption | (refine below_drewN ?_ _) | apply Below.drew | (refine Below.alloc ?_ ?_ _) | (refine Below.setCell ?_ ?_ _) | omega | (simp; omega) | simp)))
    rw [← e1]
    clear e1 H
    obtain ⟨r0, r1, r2, r3, r4, r5, r6, f0, f1, f2, f3, f4, f5, f6⟩ := row_facts hr1
    generalize hgb : w.heap.size = gb at *
    have Hg : Hid (w.heap.size = gb) := hgb
    clear hgb
    have HbF : Hid (Below gb w w1) := hb1
    have HrF : Hid (w1.heap[gb + 1]? = some (.cells #[.bool false, .int .i64 0, .int .i64 0, .int .i64 0, .int .i64 0, .int .i64 0, .int .i64 0] 26 (0, 0))) := hr1
    clear hx1 hr1 hb1
    go_wp2_with fail
    have hrF := HrF.out
    have hbF := HbF.out
    have hbW := put7_block (.bool false) (.int .i64 0) (.int .i64 0) (.int .i64 0) (.int .i64 0) (.int .i64 0) (.int .i64 0) hrF
    have hdW := put7_below hbF (show gb ≤ (gb + 1) by omega) (.bool false) (.int .i64 0) (.int .i64 0) (.int .i64 0) (.int .i64 0) (.int .i64 0) (.int .i64 0)
    show bodyPost _ _ _ _ _ (put7 w1 (gb + 1) (.bool false) (.int .i64 0) (.int .i64 0) (.int .i64 0) (.int .i64 0) (.int .i64 0) (.int .i64 0))
    generalize put7 w1 (gb + 1) (.bool false) (.int .i64 0) (.int .i64 0) (.int .i64 0) (.int .i64 0) (.int .i64 0) (.int .i64 0) = W at hbW hdW ⊢
    obtain ⟨d0, d1, d2, d3, d4, d5, d6, _⟩ := row_facts hbW
    refine bodyPost_ret (v := .tuple #[.agg #[.bool false, .int .i64 0, .int .i64 0, .int .i64 0, .int .i64 0, .int .i64 0, .int .i64 0], .int .i64 tr]) (by simp [results, Tryd.results46, go_sem, d0, d1, d2, d3, d4, d5, d6]) rfl ⟨rfl, by rw [Hg.out]; exact hdW⟩
end Go.Proofs.YtchchigiafacbaaDoor

/- What is loaded, by the program: as the specification tells it. -/
import Derived.Test.YtkiaglpgfgoaiaaDoorMemPlace
import Derived.Deep.Cut
namespace Go.Proofs.YtkiaglpgfgoaiaaDoor
open Go.RowKit
set_option linter.unusedVariables false
set_option linter.unusedSimpArgs false

def loadJ (l : List Wd) (xt : Bool) (xn xl xh xa xp xs : Int) (by_ : Int) : Int := bif wayB xt xn xl xh xa xp xs then loadT l xt xn xl xh xa xp xs by_ else 1
def loadU (l : List Wd) (xt : Bool) (xn xl xh xa xp xs : Int) (by_ : Int) : Wd := bif wayB xt xn xl xh xa xp xs then loadV l xt xn xl xh xa xp xs by_ else zeroW

theorem errV_some (p t b : Addr) {k : Int} (h : k = 1 ∨ k = 2 ∨ k = 3) : ∃ q, errV p t b k = .iface 83 (.pointer (some q)) := by
  rcases h with rfl | rfl | rfl
  · exact ⟨t, rfl⟩
  · exact ⟨b, rfl⟩
  · exact ⟨p, rfl⟩

theorem heap_drew {w : World} {k : Nat} {o : Obj} (h : w.heap[k]? = some o) : w.drew.heap[k]? = some o := h

theorem trapV_range (n : Nat) (xt : Bool) (xn xl xh xa xp xs : Int) (by_ perm : Int) : trapV n xt xn xl xh xa xp xs by_ perm = 0 ∨ trapV n xt xn xl xh xa xp xs by_ perm = 1 ∨ trapV n xt xn xl xh xa xp xs by_ perm = 2 ∨ trapV n xt xn xl xh xa xp xs by_ perm = 3 := by
  rw [trapV]
  cases (xt && (xs == 0)) <;> cases (bits .and .i64 xp perm == perm) <;> cases hitB n xl xh xa by_ <;> simp

theorem trapJ_range (n : Nat) (xt : Bool) (xn xl xh xa xp xs : Int) (by_ perm : Int) : trapJ n xt xn xl xh xa xp xs by_ perm = 0 ∨ trapJ n xt xn xl xh xa xp xs by_ perm = 1 ∨ trapJ n xt xn xl xh xa xp xs by_ perm = 2 ∨ trapJ n xt xn xl xh xa xp xs by_ perm = 3 := by
  rw [trapJ]
  cases wayB xt xn xl xh xa xp xs
  · simp
  · exact trapV_range n xt xn xl xh xa xp xs by_ perm

set_option maxRecDepth 100000 in
set_option maxHeartbeats 4000000 in
theorem iloadM (g : Nat) (a : Option Addr) (n c : Nat) (l : List Wd) (xt : Bool) (xn xl xh xa xp xs : Int) (by_ : Int) (p t b : Addr) (w : World) (cg : w.cell? ⟨g, 0, none⟩ = some (.slice a n c)) (h : WRow w a n l) (hs : Sents w p t b) (hn : n ≤ 4000) :
    Calls Tryd.prog 17 #[.pointer (some ⟨g, 0, none⟩), .agg #[.bool xt, .int .i64 xn, .int .i64 xl, .int .i64 xh, .int .i64 xa, .int .i64 xp, .int .i64 xs], .int .i64 by_] w fun e w' => e = .returned (.tuple #[.agg #[.bool (loadU l xt xn xl xh xa xp xs by_).t, .int .i64 (loadU l xt xn xl xh xa xp xs by_).n, .int .i64 (loadU l xt xn xl xh xa xp xs by_).l, .int .i64 (loadU l xt xn xl xh xa xp xs by_).h, .int .i64 (loadU l xt xn xl xh xa xp xs by_).a, .int .i64 (loadU l xt xn xl xh xa xp xs by_).p, .int .i64 (loadU l xt xn xl xh xa xp xs by_).s], errV p t b (loadJ l xt xn xl xh xa xp xs by_)]) ∧ Below w.heap.size w w' := by
  have hl := h.1
  have H := fun w h1 h2 => iplaceM g a n c xt xn xl xh xa xp xs by_ 1 p t b w h1 h2 (Or.inl rfl) hn
  have HCG : Hid _ := cg
  have HS : Hid (Sents w p t b) := hs
  have HB0 : Hid (Below w.heap.size w ((w.alloc (.cells #[.bool xt, .int .i64 xn, .int .i64 xl, .int .i64 xh, .int .i64 xa, .int .i64 xp, .int .i64 xs] 27)).alloc (.cells #[.bool false, .int .i64 0, .int .i64 0, .int .i64 0, .int .i64 0, .int .i64 0, .int .i64 0] 27))) := ((Below.refl _ _).alloc (Nat.le_refl _) _).alloc (by simp) _
  clear cg hs
  by_cases ht : trapJ n xt xn xl xh xa xp xs by_ 1 = 0
  · have hw : wayB xt xn xl xh xa xp xs = true := by
      cases hw : wayB xt xn xl xh xa xp xs
      · rw [trapJ, hw] at ht; simp at ht
      · rfl
    have htv : trapV n xt xn xl xh xa xp xs by_ 1 = 0 := by rw [trapJ, hw] at ht; exact ht
    obtain ⟨hd, h1, h2, h3⟩ := hit_of xt xn xl xh xa xp xs htv
    obtain ⟨y0, y1, y2, ⟨q0, q1⟩, l0, l1, l2, a0, a1⟩ := way_parts _ _ _ _ _ _ _ hw
    have e2 : placeJ n xt xn xl xh xa xp xs by_ 1 = xa + by_ := by rw [placeJ, ht]; rfl
    obtain ⟨k, hk⟩ := Int.eq_ofNat_of_zero_le (show 0 ≤ xa + by_ by omega)
    have hkn : k < n := by omega
    obtain ⟨b0, off, rfl, _⟩ := h.2 (by omega)
    obtain ⟨v, hv, _⟩ := WRow.el h hkn
    have Hh : Hid (WRow w (some ⟨b0, off, none⟩) n l) := h
    have eT : loadJ l xt xn xl xh xa xp xs by_ = bif seeB xp v then 3 else 0 := by
      rw [loadJ, hw, cond_true, loadT, hl, htv, hk, Int.toNat_natCast, hv]; rfl
    have eV : loadU l xt xn xl xh xa xp xs by_ = bif seeB xp v then zeroW else v := by
      rw [loadU, hw, cond_true, loadV]
      rw [loadJ, hw, cond_true] at eT
      rw [eT, hk, Int.toNat_natCast, hv]; cases seeB xp v <;> rfl
    have hm4 := may4 xp q0 q1
    have HM := mayM xt xn xl xh xa xp xs 4
    rw [hm4] at HM
    rw [eV, eT]
    simp only [ht, e2, hk, show errV p t b 0 = .nilIface from rfl] at H
    have Hv : Hid (l[k]? = some v) := hv
    clear eV eT h hl hv ht e2 hd h1 h2 h3 hw htv a0 a1 l0 l1 l2 q0 q1 hm4 y0 y1 y2
    cases hs : seeB xp v
    · have hs' : (v.t = true → (bits .and .i64 xp 4 == 0) = false) := by intro e; rw [seeB, e] at hs; simpa using hs
      rw [cond_false, cond_false, show errV p t b 0 = .nilIface from rfl]
      clear hs
      cases hvt : v.t
      · clear hs' HM
        go_enter Tryd.func17, Tryd.ntmps17
        go_wp2_with fail
        refine (H _ (show ((w.alloc (.cells #[.bool xt, .int .i64 xn, .int .i64 xl, .int .i64 xh, .int .i64 xa, .int .i64 xp, .int .i64 xs] 27)).alloc (.cells #[.bool false, .int .i64 0, .int .i64 0, .int .i64 0, .int .i64 0, .int .i64 0, .int .i64 0] 27)).cell? ⟨g, 0, none⟩ = _ from (HB0.out.cell (World.block_lt_of_cell? w _ HCG.out)).trans HCG.out) (HS.out.below HB0.out)).mono ?_
        rintro e w1 ⟨rfl, hb1⟩
        obtain ⟨hx1, hr1, hb1, hs1⟩ := two_kept rfl hb1
        have cg1 : w1.cell? ⟨g, 0, none⟩ = some (.slice (some ⟨b0, off, none⟩) n c) := (hb1.cell (World.block_lt_of_cell? w _ HCG.out)).trans HCG.out
        clear H HB0
        obtain ⟨v', hv', p0, p1, p2, p3, p4, p5, p6⟩ := WRow.el (WRow.below Hh.out hb1) hkn
        obtain rfl : v = v' := Option.some.inj (Hv.out.symm.trans hv')
        rw [hvt] at p0
        clear hv'
        go_upto_region 5 with fail
        clear p0 p1 p2 p3 p4 p5 p6
        obtain ⟨w2, e2⟩ : ∃ w2, w2 = w1.alloc (.cells #[.bool false, .int .i64 v.n, .int .i64 v.l, .int .i64 v.h, .int .i64 v.a, .int .i64 v.p, .int .i64 v.s] 27) := ⟨_, rfl⟩
        have hx2 := (old_block (o := .cells #[.bool false, .int .i64 v.n, .int .i64 v.l, .int .i64 v.h, .int .i64 v.a, .int .i64 v.p, .int .i64 v.s] 27) (by omega)).trans hx1
        have hr2 := (old_block (o := .cells #[.bool false, .int .i64 v.n, .int .i64 v.l, .int .i64 v.h, .int .i64 v.a, .int .i64 v.p, .int .i64 v.s] 27) (by omega)).trans hr1
        have hv2 := heap_alloc_new w1 (.cells #[.bool false, .int .i64 v.n, .int .i64 v.l, .int .i64 v.h, .int .i64 v.a, .int .i64 v.p, .int .i64 v.s] 27)
        have hb2 : Below w.heap.size w w2 := by rw [e2]; exact hb1.alloc (by omega) _
        rw [← e2] at hx2 hr2 hv2 ⊢
        clear e2 hx1 hr1 hb1 cg1
        generalize w1.heap.size = gv at *
        obtain ⟨v0, v1, v2, v3, v4, v5, v6, _⟩ := row_facts hv2
        obtain ⟨x0, x1, x2, x3, x4, x5, x6, _⟩ := row_facts hx2
        obtain ⟨r0, r1, r2, r3, r4, r5, r6, f0, f1, f2, f3, f4, f5, f6⟩ := row_facts hr2
        generalize hgb : w.heap.size = gb at *
        have Hg : Hid (w.heap.size = gb) := hgb
        clear hgb
        have HbF : Hid (Below gb w w2) := hb2
        have HrF : Hid (w2.heap[gb + 1]? = some (.cells #[.bool false, .int .i64 0, .int .i64 0, .int .i64 0, .int .i64 0, .int .i64 0, .int .i64 0] 27 (0, 0))) := hr2
        clear hr2 hb2 hv2 Hh Hv hvt HS HCG
        go_wp2_with fail
        have hrF := HrF.out
        have hbF := HbF.out
        have hbW := put7_block (.bool false) (.int .i64 v.n) (.int .i64 v.l) (.int .i64 v.h) (.int .i64 v.a) (.int .i64 v.p) (.int .i64 v.s) hrF
        have hdW := put7_below hbF (show gb ≤ (gb + 1) by omega) (.bool false) (.int .i64 v.n) (.int .i64 v.l) (.int .i64 v.h) (.int .i64 v.a) (.int .i64 v.p) (.int .i64 v.s)
        show bodyPost _ _ _ _ _ (put7 w2 (gb + 1) (.bool false) (.int .i64 v.n) (.int .i64 v.l) (.int .i64 v.h) (.int .i64 v.a) (.int .i64 v.p) (.int .i64 v.s))
        generalize put7 w2 (gb + 1) (.bool false) (.int .i64 v.n) (.int .i64 v.l) (.int .i64 v.h) (.int .i64 v.a) (.int .i64 v.p) (.int .i64 v.s) = W at hbW hdW ⊢
        obtain ⟨d0, d1, d2, d3, d4, d5, d6, _⟩ := row_facts hbW
        refine bodyPost_ret (v := .tuple #[.agg #[.bool false, .int .i64 v.n, .int .i64 v.l, .int .i64 v.h, .int .i64 v.a, .int .i64 v.p, .int .i64 v.s], .nilIface]) (by simp [results, Tryd.results17, go_sem, d0, d1, d2, d3, d4, d5, d6]) rfl ⟨rfl, by rw [Hg.out]; exact hdW⟩
      · have hb4 := hs' hvt
        rw [hb4] at HM
        clear hs' hb4
        go_enter Tryd.func17, Tryd.ntmps17
        go_wp2_with fail
        refine (H _ (show ((w.alloc (.cells #[.bool xt, .int .i64 xn, .int .i64 xl, .int .i64 xh, .int .i64 xa, .int .i64 xp, .int .i64 xs] 27)).alloc (.cells #[.bool false, .int .i64 0, .int .i64 0, .int .i64 0, .int .i64 0, .int .i64 0, .int .i64 0] 27)).cell? ⟨g, 0, none⟩ = _ from (HB0.out.cell (World.block_lt_of_cell? w _ HCG.out)).trans HCG.out) (HS.out.below HB0.out)).mono ?_
        rintro e w1 ⟨rfl, hb1⟩
        obtain ⟨hx1, hr1, hb1, hs1⟩ := two_kept rfl hb1
        have cg1 : w1.cell? ⟨g, 0, none⟩ = some (.slice (some ⟨b0, off, none⟩) n c) := (hb1.cell (World.block_lt_of_cell? w _ HCG.out)).trans HCG.out
        clear H HB0
        obtain ⟨v', hv', p0, p1, p2, p3, p4, p5, p6⟩ := WRow.el (WRow.below Hh.out hb1) hkn
        obtain rfl : v = v' := Option.some.inj (Hv.out.symm.trans hv')
        rw [hvt] at p0
        clear hv'
        go_upto_region 5 with fail
        clear p0 p1 p2 p3 p4 p5 p6
        obtain ⟨w2, e2⟩ : ∃ w2, w2 = w1.alloc (.cells #[.bool true, .int .i64 v.n, .int .i64 v.l, .int .i64 v.h, .int .i64 v.a, .int .i64 v.p, .int .i64 v.s] 27) := ⟨_, rfl⟩
        have hx2 := (old_block (o := .cells #[.bool true, .int .i64 v.n, .int .i64 v.l, .int .i64 v.h, .int .i64 v.a, .int .i64 v.p, .int .i64 v.s] 27) (by omega)).trans hx1
        have hr2 := (old_block (o := .cells #[.bool true, .int .i64 v.n, .int .i64 v.l, .int .i64 v.h, .int .i64 v.a, .int .i64 v.p, .int .i64 v.s] 27) (by omega)).trans hr1
        have hv2 := heap_alloc_new w1 (.cells #[.bool true, .int .i64 v.n, .int .i64 v.l, .int .i64 v.h, .int .i64 v.a, .int .i64 v.p, .int .i64 v.s] 27)
        have hb2 : Below w.heap.size w w2 := by rw [e2]; exact hb1.alloc (by omega) _
        rw [← e2] at hx2 hr2 hv2 ⊢
        clear e2 hx1 hr1 hb1 cg1
        generalize w1.heap.size = gv at *
        obtain ⟨v0, v1, v2, v3, v4, v5, v6, _⟩ := row_facts hv2
        obtain ⟨x0, x1, x2, x3, x4, x5, x6, _⟩ := row_facts hx2
        have Hx2 : Hid _ := hx2
        have Hr2 : Hid _ := hr2
        have Hv2 : Hid _ := hv2
        have Hb2 : Hid _ := hb2
        clear hx2 hr2 hv2 hb2
        go_wp2_with fail
        refine (HM _).mono ?_
        rintro e w3 ⟨rfl, rfl⟩
        obtain ⟨w3, e3⟩ : ∃ w3, w3 = w2.alloc (.cells #[.bool xt, .int .i64 xn, .int .i64 xl, .int .i64 xh, .int .i64 xa, .int .i64 xp, .int .i64 xs] 27) := ⟨_, rfl⟩
        have hb23 : Below w2.heap.size w2 w3 := by rw [e3]; exact (by repeat (first | exact Below.refl _ _ | assumption | (refine below_drewN ?_ _) | apply Below.drew | (refine Below.alloc ?_ ?_ _) | (refine Below.setCell ?_ ?_ _) | omega | (simp; omega) | simp))
        rw [← e3]
        have hr2 := (hb23.block _ (Array.getElem?_eq_some_iff.1 Hr2.out).1).trans Hr2.out
        have hv2 := (hb23.block _ (Array.getElem?_eq_some_iff.1 Hv2.out).1).trans Hv2.out
        have hb2 : Below w.heap.size w w3 := Hb2.out.trans (hb23.mono Hb2.out.size)
        clear e3 hb23 v0 v1 v2 v3 v4 v5 v6 x0 x1 x2 x3 x4 x5 x6 HM Hx2 Hr2 Hv2 Hb2
        obtain ⟨v0, v1, v2, v3, v4, v5, v6, _⟩ := row_facts hv2
        have cp := (HS.out.below hb2).cp
        have Hgp : Hid (0 < w.heap.size) := World.block_lt_of_cell? w _ HS.out.cp
        obtain ⟨r0, r1, r2, r3, r4, r5, r6, f0, f1, f2, f3, f4, f5, f6⟩ := row_facts hr2
        generalize hgb : w.heap.size = gb at *
        have Hg : Hid (w.heap.size = gb) := hgb
        clear hgb
        have HbF : Hid (Below gb w w3) := hb2
        have HrF : Hid (w3.heap[gb + 1]? = some (.cells #[.bool false, .int .i64 0, .int .i64 0, .int .i64 0, .int .i64 0, .int .i64 0, .int .i64 0] 27 (0, 0))) := hr2
        clear hr2 hb2 hv2 Hh Hv hvt HS HCG
        go_wp2_with fail
        have hrF := HrF.out
        have hbF := HbF.out
        have hbW := put7_block (.bool true) (.int .i64 v.n) (.int .i64 v.l) (.int .i64 v.h) (.int .i64 v.a) (.int .i64 v.p) (.int .i64 v.s) hrF
        have hdW := put7_below hbF (show gb ≤ (gb + 1) by omega) (.bool true) (.int .i64 v.n) (.int .i64 v.l) (.int .i64 v.h) (.int .i64 v.a) (.int .i64 v.p) (.int .i64 v.s)
        show bodyPost _ _ _ _ _ (put7 w3 (gb + 1) (.bool true) (.int .i64 v.n) (.int .i64 v.l) (.int .i64 v.h) (.int .i64 v.a) (.int .i64 v.p) (.int .i64 v.s))
        generalize put7 w3 (gb + 1) (.bool true) (.int .i64 v.n) (.int .i64 v.l) (.int .i64 v.h) (.int .i64 v.a) (.int .i64 v.p) (.int .i64 v.s) = W at hbW hdW ⊢
        obtain ⟨d0, d1, d2, d3, d4, d5, d6, _⟩ := row_facts hbW
        refine bodyPost_ret (v := .tuple #[.agg #[.bool true, .int .i64 v.n, .int .i64 v.l, .int .i64 v.h, .int .i64 v.a, .int .i64 v.p, .int .i64 v.s], .nilIface]) (by simp [results, Tryd.results17, go_sem, d0, d1, d2, d3, d4, d5, d6]) rfl ⟨rfl, by rw [Hg.out]; exact hdW⟩
    · have hvt : v.t = true := by simp [seeB] at hs; exact hs.1
      have hb4 : (bits .and .i64 xp 4 == 0) = true := by simp [seeB] at hs; simpa using hs.2
      rw [cond_true, cond_true, show errV p t b 3 = .iface 83 (.pointer (some p)) from rfl]
      rw [hb4] at HM
      clear hs hb4
      go_enter Tryd.func17, Tryd.ntmps17
      go_wp2_with fail
      refine (H _ (show ((w.alloc (.cells #[.bool xt, .int .i64 xn, .int .i64 xl, .int .i64 xh, .int .i64 xa, .int .i64 xp, .int .i64 xs] 27)).alloc (.cells #[.bool false, .int .i64 0, .int .i64 0, .int .i64 0, .int .i64 0, .int .i64 0, .int .i64 0] 27)).cell? ⟨g, 0, none⟩ = _ from (HB0.out.cell (World.block_lt_of_cell? w _ HCG.out)).trans HCG.out) (HS.out.below HB0.out)).mono ?_
      rintro e w1 ⟨rfl, hb1⟩
      obtain ⟨hx1, hr1, hb1, hs1⟩ := two_kept rfl hb1
      have cg1 : w1.cell? ⟨g, 0, none⟩ = some (.slice (some ⟨b0, off, none⟩) n c) := (hb1.cell (World.block_lt_of_cell? w _ HCG.out)).trans HCG.out
      clear H HB0
      obtain ⟨v', hv', p0, p1, p2, p3, p4, p5, p6⟩ := WRow.el (WRow.below Hh.out hb1) hkn
      obtain rfl : v = v' := Option.some.inj (Hv.out.symm.trans hv')
      rw [hvt] at p0
      clear hv'
      go_upto_region 5 with fail
      clear p0 p1 p2 p3 p4 p5 p6
      obtain ⟨w2, e2⟩ : ∃ w2, w2 = w1.alloc (.cells #[.bool true, .int .i64 v.n, .int .i64 v.l, .int .i64 v.h, .int .i64 v.a, .int .i64 v.p, .int .i64 v.s] 27) := ⟨_, rfl⟩
      have hx2 := (old_block (o := .cells #[.bool true, .int .i64 v.n, .int .i64 v.l, .int .i64 v.h, .int .i64 v.a, .int .i64 v.p, .int .i64 v.s] 27) (by omega)).trans hx1
      have hr2 := (old_block (o := .cells #[.bool true, .int .i64 v.n, .int .i64 v.l, .int .i64 v.h, .int .i64 v.a, .int .i64 v.p, .int .i64 v.s] 27) (by omega)).trans hr1
      have hv2 := heap_alloc_new w1 (.cells #[.bool true, .int .i64 v.n, .int .i64 v.l, .int .i64 v.h, .int .i64 v.a, .int .i64 v.p, .int .i64 v.s] 27)
      have hb2 : Below w.heap.size w w2 := by rw [e2]; exact hb1.alloc (by omega) _
      rw [← e2] at hx2 hr2 hv2 ⊢
      clear e2 hx1 hr1 hb1 cg1
      generalize w1.heap.size = gv at *
      obtain ⟨v0, v1, v2, v3, v4, v5, v6, _⟩ := row_facts hv2
      obtain ⟨x0, x1, x2, x3, x4, x5, x6, _⟩ := row_facts hx2
      have Hx2 : Hid _ := hx2
      have Hr2 : Hid _ := hr2
      have Hv2 : Hid _ := hv2
      have Hb2 : Hid _ := hb2
      clear hx2 hr2 hv2 hb2
      go_wp2_with fail
      refine (HM _).mono ?_
      rintro e w3 ⟨rfl, rfl⟩
      obtain ⟨w3, e3⟩ : ∃ w3, w3 = w2.alloc (.cells #[.bool xt, .int .i64 xn, .int .i64 xl, .int .i64 xh, .int .i64 xa, .int .i64 xp, .int .i64 xs] 27) := ⟨_, rfl⟩
      have hb23 : Below w2.heap.size w2 w3 := by rw [e3]; exact (by repeat (first | exact Below.refl _ _ | assumption | (refine below_drewN ?_ _) | apply Below.drew | (refine Below.alloc ?_ ?_ _) | (refine Below.setCell ?_ ?_ _) | omega | (simp; omega) | simp))
      rw [← e3]
      have hr2 := (hb23.block _ (Array.getElem?_eq_some_iff.1 Hr2.out).1).trans Hr2.out
      have hv2 := (hb23.block _ (Array.getElem?_eq_some_iff.1 Hv2.out).1).trans Hv2.out
      have hb2 : Below w.heap.size w w3 := Hb2.out.trans (hb23.mono Hb2.out.size)
      clear e3 hb23 v0 v1 v2 v3 v4 v5 v6 x0 x1 x2 x3 x4 x5 x6 HM Hx2 Hr2 Hv2 Hb2
      obtain ⟨v0, v1, v2, v3, v4, v5, v6, _⟩ := row_facts hv2
      have cp := (HS.out.below hb2).cp
      have Hgp : Hid (0 < w.heap.size) := World.block_lt_of_cell? w _ HS.out.cp
      obtain ⟨r0, r1, r2, r3, r4, r5, r6, f0, f1, f2, f3, f4, f5, f6⟩ := row_facts hr2
      generalize hgb : w.heap.size = gb at *
      have Hg : Hid (w.heap.size = gb) := hgb
      clear hgb
      have HbF : Hid (Below gb w w3) := hb2
      have HrF : Hid (w3.heap[gb + 1]? = some (.cells #[.bool false, .int .i64 0, .int .i64 0, .int .i64 0, .int .i64 0, .int .i64 0, .int .i64 0] 27 (0, 0))) := hr2
      clear hr2 hb2 hv2 Hh Hv hvt HS HCG
      go_wp2_with fail
      have hrF : w3.heap[gb + 1]? = some (.cells #[.bool false, .int .i64 0, .int .i64 0, .int .i64 0, .int .i64 0, .int .i64 0, .int .i64 0] 27 (0, 0)) := HrF.out
      have hbF : Below gb w w3 := HbF.out
      have hbW := heap_drew (put7_block (.bool false) (.int .i64 0) (.int .i64 0) (.int .i64 0) (.int .i64 0) (.int .i64 0) (.int .i64 0) hrF)
      have hdW := (put7_below hbF (show gb ≤ gb + 1 by omega) (.bool false) (.int .i64 0) (.int .i64 0) (.int .i64 0) (.int .i64 0) (.int .i64 0) (.int .i64 0)).drew
      have hcW := ((put7_below (Below.refl (gb + 1) w3) (Nat.le_refl _) (.bool false) (.int .i64 0) (.int .i64 0) (.int .i64 0) (.int .i64 0) (.int .i64 0) (.int .i64 0)).drew.cell (p := ⟨0, 0, none⟩) (by show 0 < gb + 1; have := Hgp.out; omega)).trans cp
      have HbW : Hid _ := hbW
      have HdW : Hid _ := hdW
      have HcW : Hid _ := hcW
      clear hbW hdW hcW hrF hbF
      refine wp_region_held_drew (S := fun wx => wx.cell? ⟨0, 0, none⟩ = some (.iface 83 (.pointer (some p)))) (by kernel_rfl) cp (fun hHeld => ?_)
      refine wpAnyH_take (i := 0) (oi := ?o501) (v := ?v501) ?i501 (by kernel_rfl) (by kernel_rfl) (by kernel_rfl) ?q501 ?y501 (hHeld) ?r501
      case i501 => exact rfl
      case q501 => exact (fun _ _ _ h => h)
      case y501 =>
        refine Or.inl ⟨by rfl, ?_⟩
        intro w hSw
        (try dsimp only at hSw)
        go_simp
        first | done | rfl
      try simp only [Act.put, List.getElem_toArray, List.getElem_cons_zero, List.getElem_cons_succ, List.setIfInBounds_toArray, List.set_cons_zero, List.set_cons_succ]
      refine wpAnyH_take (i := 1) (oi := ?o502) (v := ?v502) ?i502 (by kernel_rfl) (by kernel_rfl) (by kernel_rfl) ?q502 ?y502 (hHeld) ?r502
      case i502 => exact rfl
      case q502 => exact (fun _ _ _ h => h)
      case y502 =>
        refine Or.inl ⟨by rfl, ?_⟩
        intro w hSw
        (try dsimp only at hSw)
        go_simp
        first | done | rfl
      try simp only [Act.put, List.getElem_toArray, List.getElem_cons_zero, List.getElem_cons_succ, List.setIfInBounds_toArray, List.set_cons_zero, List.set_cons_succ]
      refine wpAnyH_ready (rs := [2]) (by kernel_rfl) (by simp) ?_
      refine AllReadyH.cons (i := 2) (o := ?o503) ?i503 (fun K hK => ?_) AllReadyH.nil
      case i503 => exact rfl
      go_simp
      refine hK.out _ _ (HcW.out) (fun hHeld => ?_)
      clear hK K
      try simp only [Act.put, List.getElem_toArray, List.getElem_cons_zero, List.getElem_cons_succ, List.setIfInBounds_toArray, List.set_cons_zero, List.set_cons_succ]
      refine wpAnyH_take (i := 3) (oi := ?o504) (v := ?v504) ?i504 (by kernel_rfl) (by kernel_rfl) (by kernel_rfl) ?q504 ?y504 (hHeld) ?r504
      case i504 => exact rfl
      case q504 => exact (fun _ _ _ h => h)
      case y504 =>
        refine Or.inl ⟨by rfl, ?_⟩
        intro w hSw
        (try dsimp only at hSw)
        go_simp
        first | done | rfl
      try simp only [Act.put, List.getElem_toArray, List.getElem_cons_zero, List.getElem_cons_succ, List.setIfInBounds_toArray, List.set_cons_zero, List.set_cons_succ]
      refine wpAnyH_done (by kernel_rfl) ?_ _
      go_wp2_with fail
      have hbW := HbW.out
      have hdW := HdW.out
      show bodyPost _ _ _ _ _ ((put7 w3 (gb + 1) (.bool false) (.int .i64 0) (.int .i64 0) (.int .i64 0) (.int .i64 0) (.int .i64 0) (.int .i64 0)).drew)
      generalize (put7 w3 (gb + 1) (.bool false) (.int .i64 0) (.int .i64 0) (.int .i64 0) (.int .i64 0) (.int .i64 0) (.int .i64 0)).drew = W at hbW hdW ⊢
      obtain ⟨d0, d1, d2, d3, d4, d5, d6, _⟩ := row_facts hbW
      refine bodyPost_ret (v := .tuple #[.agg #[.bool false, .int .i64 0, .int .i64 0, .int .i64 0, .int .i64 0, .int .i64 0, .int .i64 0], .iface 83 (.pointer (some p))]) (by simp [results, Tryd.results17, go_sem, d0, d1, d2, d3, d4, d5, d6]) rfl ⟨rfl, by rw [Hg.out]; exact hdW⟩
  · have eT : loadJ l xt xn xl xh xa xp xs by_ = trapJ n xt xn xl xh xa xp xs by_ 1 := by
      rw [loadJ, trapJ]
      cases hw : wayB xt xn xl xh xa xp xs
      · rfl
      · rw [trapJ, hw] at ht
        rw [cond_true, cond_true, loadT, hl]
        have : (trapV n xt xn xl xh xa xp xs by_ 1 == 0) = false := by simpa using ht
        rw [this]; rfl
    have eV : loadU l xt xn xl xh xa xp xs by_ = zeroW := by
      rw [loadU]
      cases hw : wayB xt xn xl xh xa xp xs
      · rfl
      · rw [loadJ, hw, cond_true] at eT
        rw [cond_true, loadV, eT]
        have : (trapJ n xt xn xl xh xa xp xs by_ 1 == 0) = false := by simpa using ht
        rw [this]; rfl
    rw [eV, eT]
    obtain ⟨q, hq⟩ := errV_some p t b (k := trapJ n xt xn xl xh xa xp xs by_ 1) (by have := trapJ_range n xt xn xl xh xa xp xs by_ 1; omega)
    rw [hq]
    simp only [hq] at H
    clear eV eT h hl hq ht
    generalize placeJ n xt xn xl xh xa xp xs by_ 1 = pl at *
    go_enter Tryd.func17, Tryd.ntmps17
    go_wp2_with fail
    refine (H _ (show ((w.alloc (.cells #[.bool xt, .int .i64 xn, .int .i64 xl, .int .i64 xh, .int .i64 xa, .int .i64 xp, .int .i64 xs] 27)).alloc (.cells #[.bool false, .int .i64 0, .int .i64 0, .int .i64 0, .int .i64 0, .int .i64 0, .int .i64 0] 27)).cell? ⟨g, 0, none⟩ = _ from (HB0.out.cell (World.block_lt_of_cell? w _ HCG.out)).trans HCG.out) (HS.out.below HB0.out)).mono ?_
    rintro e w1 ⟨rfl, hb1⟩
    obtain ⟨hx1, hr1, hb1, hs1⟩ := two_kept rfl hb1
    have cg1 : w1.cell? ⟨g, 0, none⟩ = some (.slice a n c) := (hb1.cell (World.block_lt_of_cell? w _ HCG.out)).trans HCG.out
    clear H HB0
    obtain ⟨r0, r1, r2, r3, r4, r5, r6, f0, f1, f2, f3, f4, f5, f6⟩ := row_facts hr1
    generalize hgb : w.heap.size = gb at *
    have Hg : Hid (w.heap.size = gb) := hgb
    clear hgb
    have HbF : Hid (Below gb w w1) := hb1
    have HrF : Hid (w1.heap[gb + 1]? = some (.cells #[.bool false, .int .i64 0, .int .i64 0, .int .i64 0, .int .i64 0, .int .i64 0, .int .i64 0] 27 (0, 0))) := hr1
    clear hx1 hr1 hb1 HS HCG
    go_wp2_with fail
    have hrF := HrF.out
    have hbF := HbF.out
    have hbW := put7_block (.bool false) (.int .i64 0) (.int .i64 0) (.int .i64 0) (.int .i64 0) (.int .i64 0) (.int .i64 0) hrF
    have hdW := put7_below hbF (show gb ≤ (gb + 1) by omega) (.bool false) (.int .i64 0) (.int .i64 0) (.int .i64 0) (.int .i64 0) (.int .i64 0) (.int .i64 0)
    show bodyPost _ _ _ _ _ (put7 w1 (gb + 1) (.bool false) (.int .i64 0) (.int .i64 0) (.int .i64 0) (.int .i64 0) (.int .i64 0) (.int .i64 0))
    generalize put7 w1 (gb + 1) (.bool false) (.int .i64 0) (.int .i64 0) (.int .i64 0) (.int .i64 0) (.int .i64 0) (.int .i64 0) = W at hbW hdW ⊢
    obtain ⟨d0, d1, d2, d3, d4, d5, d6, _⟩ := row_facts hbW
    refine bodyPost_ret (v := .tuple #[.agg #[.bool false, .int .i64 0, .int .i64 0, .int .i64 0, .int .i64 0, .int .i64 0, .int .i64 0], .iface 83 (.pointer (some q))]) (by simp [results, Tryd.results17, go_sem, d0, d1, d2, d3, d4, d5, d6]) rfl ⟨rfl, by rw [Hg.out]; exact hdW⟩
end Go.Proofs.YtkiaglpgfgoaiaaDoor

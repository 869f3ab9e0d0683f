/- DrawStore: what the draw of the same name hands on. -/
import Derived.Test.YtkiaglpgfgoaiaaDoorDrawL
namespace Go.Proofs.YtkiaglpgfgoaiaaDoor
open Go.RowKit
set_option linter.unusedVariables false
set_option linter.unusedSimpArgs false
set_option maxRecDepth 100000

theorem MemD.below {B : Nat} {w w' : World} {a : Option Addr} {n : Nat} {l : List Wd} (h : MemD B w a n l) (hb : Below w.heap.size w w') : MemD B w' a n l := h.kept (row := none) (below_grows hb) (by intro k hk; cases hk)

theorem three_put {w w2 : World} {gs n c : Nat} {a : Option Addr} {l : List Wd} {v0 v1 v2 v3 v4 v5 v6 u0 u1 u2 u3 u4 u5 u6 : Value} (h0 : w2.heap[gs]? = some (.cells #[.slice none 0 0] 25 (0, 0))) (h1 : w2.heap[gs + 1]? = some (.cells #[.bool false, .int .i64 0, .int .i64 0, .int .i64 0, .int .i64 0, .int .i64 0, .int .i64 0] 27 (0, 0))) (h2 : w2.heap[gs + 2]? = some (.cells #[.bool false, .int .i64 0, .int .i64 0, .int .i64 0, .int .i64 0, .int .i64 0, .int .i64 0] 27 (0, 0))) (hb : Below gs w w2) (hmd : MemD (gs + 3) w2 a n l) :
    (put7 (put7 (w2.setCell ⟨gs, 0, none⟩ (.slice a n c)) (gs + 1) v0 v1 v2 v3 v4 v5 v6) (gs + 2) u0 u1 u2 u3 u4 u5 u6).heap[gs]? = some (.cells #[.slice a n c] 25 (0, 0)) ∧
    (put7 (put7 (w2.setCell ⟨gs, 0, none⟩ (.slice a n c)) (gs + 1) v0 v1 v2 v3 v4 v5 v6) (gs + 2) u0 u1 u2 u3 u4 u5 u6).heap[gs + 1]? = some (.cells #[v0, v1, v2, v3, v4, v5, v6] 27 (0, 0)) ∧
    (put7 (put7 (w2.setCell ⟨gs, 0, none⟩ (.slice a n c)) (gs + 1) v0 v1 v2 v3 v4 v5 v6) (gs + 2) u0 u1 u2 u3 u4 u5 u6).heap[gs + 2]? = some (.cells #[u0, u1, u2, u3, u4, u5, u6] 27 (0, 0)) ∧
    MemD gs (put7 (put7 (w2.setCell ⟨gs, 0, none⟩ (.slice a n c)) (gs + 1) v0 v1 v2 v3 v4 v5 v6) (gs + 2) u0 u1 u2 u3 u4 u5 u6) a n l ∧
    Below gs w (put7 (put7 (w2.setCell ⟨gs, 0, none⟩ (.slice a n c)) (gs + 1) v0 v1 v2 v3 v4 v5 v6) (gs + 2) u0 u1 u2 u3 u4 u5 u6) := by
  have ne : ∀ k j : Nat, k ≠ j → some k ≠ some j := fun k j hk e => hk (by simpa using e)
  have hs : gs + 2 < w2.heap.size := (Array.getElem?_eq_some_iff.1 h2).1
  have g1 := set_grown w2 gs 0 (.slice a n c)
  have s1 := g1.size
  have e1 : (w2.setCell ⟨gs, 0, none⟩ (.slice a n c)).heap[gs]? = some (.cells #[.slice a n c] 25 (0, 0)) := by rw [heap_setCell_same w2 gs 0 _ _ _ h0]; rfl
  have e1a := (g1.block (gs + 1) (by omega) (ne _ _ (by omega))).trans h1
  have e1b := (g1.block (gs + 2) (by omega) (ne _ _ (by omega))).trans h2
  have m1 := hmd.kept g1 (by intro k hk; cases hk; omega)
  have b1 := hb.grown g1 (by omega) (fun k hk => by cases hk; omega)
  generalize w2.setCell ⟨gs, 0, none⟩ (.slice a n c) = W1 at *
  have g2 := put7_grown W1 (gs + 1) v0 v1 v2 v3 v4 v5 v6
  have s2 := g2.size
  have e2 := (g2.block gs (by omega) (ne _ _ (by omega))).trans e1
  have e2a := put7_block v0 v1 v2 v3 v4 v5 v6 e1a
  have e2b := (g2.block (gs + 2) (by omega) (ne _ _ (by omega))).trans e1b
  have m2 := m1.kept g2 (by intro k hk; cases hk; omega)
  have b2 := b1.grown g2 (by omega) (fun k hk => by cases hk; omega)
  generalize put7 W1 (gs + 1) v0 v1 v2 v3 v4 v5 v6 = W2 at *
  have g3 := put7_grown W2 (gs + 2) u0 u1 u2 u3 u4 u5 u6
  exact ⟨(g3.block gs (by omega) (ne _ _ (by omega))).trans e2, (g3.block (gs + 1) (by omega) (ne _ _ (by omega))).trans e2a, put7_block u0 u1 u2 u3 u4 u5 u6 e2b, (m2.kept g3 (by intro k hk; cases hk; omega)).mono (by omega), b2.grown g3 (by omega) (fun k hk => by cases hk; omega)⟩

set_option maxHeartbeats 8000000 in
theorem drawStoreM (ar : Option Addr) (nr cr : Nat) (lr : List Int) (w : World) (h : BRow w ar nr lr) (hnr : nr ≤ 9223372036854775807) :
    Calls Tryd.prog 4 #[.slice ar nr cr] w fun e w' => ∃ a n c l xt xn xl xh xa xp xs by_ yt yn yl yh ya yp ys, e = .returned (.tuple #[.agg #[.slice a n c], .agg #[.bool xt, .int .i64 xn, .int .i64 xl, .int .i64 xh, .int .i64 xa, .int .i64 xp, .int .i64 xs], .int .i64 by_, .agg #[.bool yt, .int .i64 yn, .int .i64 yl, .int .i64 yh, .int .i64 ya, .int .i64 yp, .int .i64 ys]]) ∧ In64 xs ∧ In64 ys ∧ InInt by_ ∧ MemD w.heap.size w' a n l ∧ Below w.heap.size w w' := by
  have hb0 : Below w.heap.size w (((w.alloc (.cells #[.slice none 0 0] 25)).alloc (.cells #[.bool false, .int .i64 0, .int .i64 0, .int .i64 0, .int .i64 0, .int .i64 0, .int .i64 0] 27)).alloc (.cells #[.bool false, .int .i64 0, .int .i64 0, .int .i64 0, .int .i64 0, .int .i64 0, .int .i64 0] 27)) := (((Below.refl _ _).alloc (Nat.le_refl _) _).alloc (by simp) _).alloc (by simp; omega) _
  have hr0 : (((w.alloc (.cells #[.slice none 0 0] 25)).alloc (.cells #[.bool false, .int .i64 0, .int .i64 0, .int .i64 0, .int .i64 0, .int .i64 0, .int .i64 0] 27)).alloc (.cells #[.bool false, .int .i64 0, .int .i64 0, .int .i64 0, .int .i64 0, .int .i64 0, .int .i64 0] 27)).heap[w.heap.size]? = some (.cells #[.slice none 0 0] 25 (0, 0)) := by
    rw [alloc_block (by simp; omega), alloc_block (by simp)]; exact heap_alloc_new w _
  have hr1 : (((w.alloc (.cells #[.slice none 0 0] 25)).alloc (.cells #[.bool false, .int .i64 0, .int .i64 0, .int .i64 0, .int .i64 0, .int .i64 0, .int .i64 0] 27)).alloc (.cells #[.bool false, .int .i64 0, .int .i64 0, .int .i64 0, .int .i64 0, .int .i64 0, .int .i64 0] 27)).heap[w.heap.size + 1]? = some (.cells #[.bool false, .int .i64 0, .int .i64 0, .int .i64 0, .int .i64 0, .int .i64 0, .int .i64 0] 27 (0, 0)) := by
    rw [alloc_block (by simp)]
    have := heap_alloc_new (w.alloc (.cells #[.slice none 0 0] 25)) (.cells #[.bool false, .int .i64 0, .int .i64 0, .int .i64 0, .int .i64 0, .int .i64 0, .int .i64 0] 27)
    simpa using this
  have hr2 : (((w.alloc (.cells #[.slice none 0 0] 25)).alloc (.cells #[.bool false, .int .i64 0, .int .i64 0, .int .i64 0, .int .i64 0, .int .i64 0, .int .i64 0] 27)).alloc (.cells #[.bool false, .int .i64 0, .int .i64 0, .int .i64 0, .int .i64 0, .int .i64 0, .int .i64 0] 27)).heap[w.heap.size + 2]? = some (.cells #[.bool false, .int .i64 0, .int .i64 0, .int .i64 0, .int .i64 0, .int .i64 0, .int .i64 0] 27 (0, 0)) := by
    have := heap_alloc_new ((w.alloc (.cells #[.slice none 0 0] 25)).alloc (.cells #[.bool false, .int .i64 0, .int .i64 0, .int .i64 0, .int .i64 0, .int .i64 0, .int .i64 0] 27)) (.cells #[.bool false, .int .i64 0, .int .i64 0, .int .i64 0, .int .i64 0, .int .i64 0, .int .i64 0] 27)
    simpa using this
  have hsz : (((w.alloc (.cells #[.slice none 0 0] 25)).alloc (.cells #[.bool false, .int .i64 0, .int .i64 0, .int .i64 0, .int .i64 0, .int .i64 0, .int .i64 0] 27)).alloc (.cells #[.bool false, .int .i64 0, .int .i64 0, .int .i64 0, .int .i64 0, .int .i64 0, .int .i64 0] 27)).heap.size = w.heap.size + 3 := by simp
  have hR := h.below hb0
  clear h
  go_enter Tryd.func4, Tryd.ntmps4
  go_upto_region 1 with fail
  generalize ((w.alloc (.cells #[.slice none 0 0] 25)).alloc (.cells #[.bool false, .int .i64 0, .int .i64 0, .int .i64 0, .int .i64 0, .int .i64 0, .int .i64 0] 27)).alloc (.cells #[.bool false, .int .i64 0, .int .i64 0, .int .i64 0, .int .i64 0, .int .i64 0, .int .i64 0] 27) = w1 at *
  generalize hg : w.heap.size = gs at *
  have HG : Hid (w.heap.size = gs) := hg
  rw [show gs + 1 + 1 = gs + 2 from rfl]
  have HR : Hid (BRow w1 ar nr lr) := hR
  have H0 : Hid (w1.heap[gs]? = some (.cells #[.slice none 0 0] 25 (0, 0)) ∧ w1.heap[gs + 1]? = some (.cells #[.bool false, .int .i64 0, .int .i64 0, .int .i64 0, .int .i64 0, .int .i64 0, .int .i64 0] 27 (0, 0)) ∧ w1.heap[gs + 2]? = some (.cells #[.bool false, .int .i64 0, .int .i64 0, .int .i64 0, .int .i64 0, .int .i64 0, .int .i64 0] 27 (0, 0)) ∧ Below gs w w1 ∧ w1.heap.size = gs + 3) := ⟨hr0, hr1, hr2, hb0, hsz⟩
  clear hg hR hr0 hr1 hr2 hb0 hsz
  go_wp2_with fail
  refine (l3drawM ar nr cr lr w1 HR.out hnr).mono ?_
  rintro e w2 ⟨a, n, c, l, xt, xn, xl, xh, xa, xp, xs, by_, yt, yn, yl, yh, ya, yp, ys, rfl, hxs, hys, hby, hmd, hb2⟩
  obtain ⟨q0, q1, q2, qb, qs⟩ := H0.out
  rw [qs] at hmd hb2
  have k0 := (hb2.block gs (by omega)).trans q0
  have k1 := (hb2.block (gs + 1) (by omega)).trans q1
  have k2 := (hb2.block (gs + 2) (by omega)).trans q2
  have kb := qb.trans (hb2.mono (by omega))
  have HK : Hid _ := three_put (c := c) (v0 := .bool xt) (v1 := .int .i64 xn) (v2 := .int .i64 xl) (v3 := .int .i64 xh) (v4 := .int .i64 xa) (v5 := .int .i64 xp) (v6 := .int .i64 xs) (u0 := .bool yt) (u1 := .int .i64 yn) (u2 := .int .i64 yl) (u3 := .int .i64 yh) (u4 := .int .i64 ya) (u5 := .int .i64 yp) (u6 := .int .i64 ys) k0 k1 k2 kb hmd
  have HS : Hid (In64 xs ∧ In64 ys ∧ InInt by_) := ⟨hxs, hys, hby⟩
  obtain ⟨m0, mf⟩ := one_facts k0
  obtain ⟨c0, c1, c2, c3, c4, c5, c6, f0, f1, f2, f3, f4, f5, f6⟩ := row_facts k1
  obtain ⟨d0, d1, d2, d3, d4, d5, d6, e0, e1, e2, e3, e4, e5, e6⟩ := row_facts k2
  clear q0 q1 q2 qb qs k0 k1 k2 kb hmd hb2 hxs hys hby H0 HR
  go_wp2_with fail
  obtain ⟨p0, p1, p2, pm, pb⟩ := HK.out
  show bodyPost _ _ _ _ _ (put7 (put7 (w2.setCell ⟨gs, 0, none⟩ (.slice a n c)) (gs + 1) (.bool xt) (.int .i64 xn) (.int .i64 xl) (.int .i64 xh) (.int .i64 xa) (.int .i64 xp) (.int .i64 xs)) (gs + 2) (.bool yt) (.int .i64 yn) (.int .i64 yl) (.int .i64 yh) (.int .i64 ya) (.int .i64 yp) (.int .i64 ys))
  generalize (put7 (put7 (w2.setCell ⟨gs, 0, none⟩ (.slice a n c)) (gs + 1) (.bool xt) (.int .i64 xn) (.int .i64 xl) (.int .i64 xh) (.int .i64 xa) (.int .i64 xp) (.int .i64 xs)) (gs + 2) (.bool yt) (.int .i64 yn) (.int .i64 yl) (.int .i64 yh) (.int .i64 ya) (.int .i64 yp) (.int .i64 ys)) = W at p0 p1 p2 pm pb ⊢
  obtain ⟨s0, _⟩ := one_facts p0
  obtain ⟨t0, t1, t2, t3, t4, t5, t6, _⟩ := row_facts p1
  obtain ⟨v0, v1, v2, v3, v4, v5, v6, _⟩ := row_facts p2
  refine bodyPost_ret (v := .tuple #[.agg #[.slice a n c], .agg #[.bool xt, .int .i64 xn, .int .i64 xl, .int .i64 xh, .int .i64 xa, .int .i64 xp, .int .i64 xs], .int .i64 by_, .agg #[.bool yt, .int .i64 yn, .int .i64 yl, .int .i64 yh, .int .i64 ya, .int .i64 yp, .int .i64 ys]]) (by simp [results, Tryd.results4, go_sem, s0, t0, t1, t2, t3, t4, t5, t6, v0, v1, v2, v3, v4, v5, v6]) rfl ⟨_, _, _, _, xt, xn, xl, xh, xa, xp, xs, by_, yt, yn, yl, yh, ya, yp, ys, rfl, HS.out.1, HS.out.2.1, HS.out.2.2, by rw [HG.out]; exact pm, by rw [HG.out]; exact pb⟩
end Go.Proofs.YtkiaglpgfgoaiaaDoor

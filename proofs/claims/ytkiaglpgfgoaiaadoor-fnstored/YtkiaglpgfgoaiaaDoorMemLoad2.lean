/- Load, by the specification and by the program: the same at every memory, word and int. -/
import Derived.Test.YtkiaglpgfgoaiaaDoorMemLoad
import Derived.Test.YtkiaglpgfgoaiaaDoorMemImpl
namespace Go.Proofs.YtkiaglpgfgoaiaaDoor
open Go.RowKit
set_option linter.unusedVariables false
set_option linter.unusedSimpArgs false

def fullT (l : List Wd) (xt : Bool) (xn xl xh xa xp xs : Int) (by_ : Int) : Int := bif (memB l && okB xt xn xl xh xa xp xs) then loadT l xt xn xl xh xa xp xs by_ else 1
def fullV (l : List Wd) (xt : Bool) (xn xl xh xa xp xs : Int) (by_ : Int) : Wd := bif (memB l && okB xt xn xl xh xa xp xs) then loadV l xt xn xl xh xa xp xs by_ else zeroW

theorem memB_len {l : List Wd} (h : memB l = true) : l.length ≤ 4000 := by
  rw [memB, Bool.and_eq_true] at h; simpa using h.1

theorem full_J (l : List Wd) (xt : Bool) (xn xl xh xa xp xs : Int) (by_ : Int) (h : memB l = true) : fullT l xt xn xl xh xa xp xs by_ = loadJ l xt xn xl xh xa xp xs by_ ∧ fullV l xt xn xl xh xa xp xs by_ = loadU l xt xn xl xh xa xp xs by_ := by
  rw [fullT, fullV, loadJ, loadU, h, Bool.true_and]
  cases hok : okB xt xn xl xh xa xp xs
  · have hw : wayB xt xn xl xh xa xp xs = false := by rw [← way_iff, hok]; rfl
    rw [hw]; exact ⟨rfl, rfl⟩
  · cases hd : (xt && (xs == 0))
    · have hw : wayB xt xn xl xh xa xp xs = false := by rw [← way_iff, hok, hd]; rfl
      have ht : loadT l xt xn xl xh xa xp xs by_ = 1 := by rw [loadT, trapV, hd]; rfl
      rw [hw, loadV, ht]; exact ⟨rfl, rfl⟩
    · rw [way_ok xt xn xl xh xa xp xs hok hd]; exact ⟨rfl, rfl⟩

theorem loadJ_range (l : List Wd) (xt : Bool) (xn xl xh xa xp xs : Int) (by_ : Int) : loadJ l xt xn xl xh xa xp xs by_ = 0 ∨ loadJ l xt xn xl xh xa xp xs by_ = 1 ∨ loadJ l xt xn xl xh xa xp xs by_ = 2 ∨ loadJ l xt xn xl xh xa xp xs by_ = 3 := by
  rw [loadJ]
  cases wayB xt xn xl xh xa xp xs
  · simp
  · rw [cond_true, loadT]
    have := trapV_range l.length xt xn xl xh xa xp xs by_ 1
    cases (trapV l.length xt xn xl xh xa xp xs by_ 1 == 0)
    · exact this
    · cases seeB xp (l[(xa + by_).toNat]?.getD zeroW) <;> simp

theorem put7_other (w : World) {j k : Nat} (v0 v1 v2 v3 v4 v5 v6 : Value) (h : j ≠ k) : (put7 w k v0 v1 v2 v3 v4 v5 v6).heap[j]? = w.heap[j]? := by
  unfold put7
  rw [heap_setCell_other _ _ _ _ h, heap_setCell_other _ _ _ _ h, heap_setCell_other _ _ _ _ h, heap_setCell_other _ _ _ _ h, heap_setCell_other _ _ _ _ h, heap_setCell_other _ _ _ _ h, heap_setCell_other _ _ _ _ h]

/-- Three blocks behind a call: a memory's box, a word's box, the result. -/
theorem three_kept {w w1 wA : World} {m x0 x1 x2 x3 x4 x5 x6 z0 z1 z2 z3 z4 z5 z6 : Value} (e : wA = ((w.alloc (.cells #[m] 25)).alloc (.cells #[x0, x1, x2, x3, x4, x5, x6] 27)).alloc (.cells #[z0, z1, z2, z3, z4, z5, z6] 27)) (hb : Below wA.heap.size wA w1) :
    w1.heap[w.heap.size]? = some (.cells #[m] 25 (0, 0)) ∧ w1.heap[w.heap.size + 1]? = some (.cells #[x0, x1, x2, x3, x4, x5, x6] 27 (0, 0)) ∧ w1.heap[w.heap.size + 2]? = some (.cells #[z0, z1, z2, z3, z4, z5, z6] 27 (0, 0)) ∧ Below w.heap.size w w1 ∧ w.heap.size + 3 ≤ w1.heap.size := by
  have hs := hb.size
  have hsz : wA.heap.size = w.heap.size + 3 := by rw [e]; simp
  have h0 : wA.heap[w.heap.size]? = some (.cells #[m] 25 (0, 0)) := by
    rw [e, old_block (by simp; omega), old_block (by simp)]; exact heap_alloc_new w _
  have h1 : wA.heap[w.heap.size + 1]? = some (.cells #[x0, x1, x2, x3, x4, x5, x6] 27 (0, 0)) := by
    rw [e, old_block (by simp)]
    have := heap_alloc_new (w.alloc (.cells #[m] 25)) (.cells #[x0, x1, x2, x3, x4, x5, x6] 27)
    simpa using this
  have h2 : wA.heap[w.heap.size + 2]? = some (.cells #[z0, z1, z2, z3, z4, z5, z6] 27 (0, 0)) := by
    rw [e]
    have := heap_alloc_new ((w.alloc (.cells #[m] 25)).alloc (.cells #[x0, x1, x2, x3, x4, x5, x6] 27)) (.cells #[z0, z1, z2, z3, z4, z5, z6] 27)
    simpa using this
  have hw : Below w.heap.size w wA := by rw [e]; exact (((Below.refl _ _).alloc (Nat.le_refl _) _).alloc (by simp) _).alloc (by simp; omega) _
  exact ⟨(hb.block _ (by omega)).trans h0, (hb.block _ (by omega)).trans h1, (hb.block _ (by omega)).trans h2, hw.trans (hb.mono (by omega)), by omega⟩

set_option maxRecDepth 100000 in
set_option maxHeartbeats 4000000 in
theorem implLoadM (a : Option Addr) (n c : Nat) (l : List Wd) (xt : Bool) (xn xl xh xa xp xs : Int) (by_ : Int) (p t b : Addr) (w : World) (h : WRow w a n l) (h64 : ∀ x ∈ l, In64 x.s) (hs : Sents w p t b) (hn : n ≤ 1048576) :
    Calls Tryd.prog 8 #[.agg #[.slice a n c], .agg #[.bool xt, .int .i64 xn, .int .i64 xl, .int .i64 xh, .int .i64 xa, .int .i64 xp, .int .i64 xs], .int .i64 by_] w fun e w' => e = .returned (.tuple #[.agg #[.bool (fullV l xt xn xl xh xa xp xs by_).t, .int .i64 (fullV l xt xn xl xh xa xp xs by_).n, .int .i64 (fullV l xt xn xl xh xa xp xs by_).l, .int .i64 (fullV l xt xn xl xh xa xp xs by_).h, .int .i64 (fullV l xt xn xl xh xa xp xs by_).a, .int .i64 (fullV l xt xn xl xh xa xp xs by_).p, .int .i64 (fullV l xt xn xl xh xa xp xs by_).s], .int .i64 (fullT l xt xn xl xh xa xp xs by_)]) ∧ Below w.heap.size w w' := by
  have hB0 : Below w.heap.size w (((w.alloc (.cells #[.slice a n c] 25)).alloc (.cells #[.bool xt, .int .i64 xn, .int .i64 xl, .int .i64 xh, .int .i64 xa, .int .i64 xp, .int .i64 xs] 27)).alloc (.cells #[.bool false, .int .i64 0, .int .i64 0, .int .i64 0, .int .i64 0, .int .i64 0, .int .i64 0] 27)) := (((Below.refl _ _).alloc (Nat.le_refl _) _).alloc (by simp) _).alloc (by simp; omega) _
  obtain ⟨hm0, _, _, _, _⟩ := three_kept (w := w) (m := .slice a n c) (x0 := .bool xt) (x1 := .int .i64 xn) (x2 := .int .i64 xl) (x3 := .int .i64 xh) (x4 := .int .i64 xa) (x5 := .int .i64 xp) (x6 := .int .i64 xs) (z0 := .bool false) (z1 := .int .i64 0) (z2 := .int .i64 0) (z3 := .int .i64 0) (z4 := .int .i64 0) (z5 := .int .i64 0) (z6 := .int .i64 0) rfl (Below.refl _ _)
  have HM := isOkM w.heap.size a n c l (((w.alloc (.cells #[.slice a n c] 25)).alloc (.cells #[.bool xt, .int .i64 xn, .int .i64 xl, .int .i64 xh, .int .i64 xa, .int .i64 xp, .int .i64 xs] 27)).alloc (.cells #[.bool false, .int .i64 0, .int .i64 0, .int .i64 0, .int .i64 0, .int .i64 0, .int .i64 0] 27)) hm0 (h.below hB0) h64 hn
  have Hh : Hid (WRow w a n l) := h
  have HS : Hid (Sents w p t b) := hs
  cases hm : memB l
  · have e1 : fullT l xt xn xl xh xa xp xs by_ = 1 := by rw [fullT, hm]; rfl
    have e2 : fullV l xt xn xl xh xa xp xs by_ = zeroW := by rw [fullV, hm]; rfl
    rw [e1, e2]
    rw [hm] at HM
    clear e1 e2 hm h hB0 Hh HS hs h64 hm0
    go_enter Tryd.func8, Tryd.ntmps8
    go_wp2_with fail
    refine HM.mono ?_
    rintro e w1 ⟨rfl, hb1⟩
    obtain ⟨hm, hx, hr, hb, hs1⟩ := three_kept rfl hb1
    clear hb1 HM
    obtain ⟨r0, r1, r2, r3, r4, r5, r6, f0, f1, f2, f3, f4, f5, f6⟩ := row_facts hr
    generalize hgb : w.heap.size = gb at *
    have Hg : Hid (w.heap.size = gb) := hgb
    clear hgb
    have HbF : Hid (Below gb w w1) := hb
    have HrF : Hid (w1.heap[gb + 2]? = some (.cells #[.bool false, .int .i64 0, .int .i64 0, .int .i64 0, .int .i64 0, .int .i64 0, .int .i64 0] 27 (0, 0))) := hr
    clear hm hx hr hb
    go_wp2_with fail
    have hrF := HrF.out
    have hbF := HbF.out
    have hbW := put7_block (.bool false) (.int .i64 0) (.int .i64 0) (.int .i64 0) (.int .i64 0) (.int .i64 0) (.int .i64 0) hrF
    have hdW := put7_below hbF (show gb ≤ (gb + 2) by omega) (.bool false) (.int .i64 0) (.int .i64 0) (.int .i64 0) (.int .i64 0) (.int .i64 0) (.int .i64 0)
    show bodyPost _ _ _ _ _ (put7 w1 (gb + 2) (.bool false) (.int .i64 0) (.int .i64 0) (.int .i64 0) (.int .i64 0) (.int .i64 0) (.int .i64 0))
    generalize put7 w1 (gb + 2) (.bool false) (.int .i64 0) (.int .i64 0) (.int .i64 0) (.int .i64 0) (.int .i64 0) (.int .i64 0) = W at hbW hdW ⊢
    obtain ⟨d0, d1, d2, d3, d4, d5, d6, _⟩ := row_facts hbW
    refine bodyPost_ret (v := .tuple #[.agg #[.bool false, .int .i64 0, .int .i64 0, .int .i64 0, .int .i64 0, .int .i64 0, .int .i64 0], .int .i64 1]) (by simp [results, Tryd.results8, go_sem, d0, d1, d2, d3, d4, d5, d6]) rfl ⟨rfl, by rw [Hg.out]; exact hdW⟩
  · have hn4 := memB_len hm
    rw [h.1] at hn4
    rw [hm] at HM
    obtain ⟨e1, e2⟩ := full_J l xt xn xl xh xa xp xs by_ hm
    rw [e1, e2]
    have hj := loadJ_range l xt xn xl xh xa xp xs by_
    have HL := fun g w cg h hs => iloadM g a n c l xt xn xl xh xa xp xs by_ p t b w cg h hs hn4
    generalize loadJ l xt xn xl xh xa xp xs by_ = tr at *
    generalize loadU l xt xn xl xh xa xp xs by_ = u at *
    have Hj : Hid _ := hj
    clear e1 e2 hm h hB0 hs h64 hm0 hj
    go_enter Tryd.func8, Tryd.ntmps8
    go_wp2_with fail
    refine HM.mono ?_
    rintro e w1 ⟨rfl, hb1⟩
    obtain ⟨hm, hx, hr, hb, hs1⟩ := three_kept rfl hb1
    clear hb1 HM
    obtain ⟨m0, _⟩ := one_facts hm
    obtain ⟨x0, x1, x2, x3, x4, x5, x6, _⟩ := row_facts hx
    have Hm : Hid _ := hm
    have Hx : Hid _ := hx
    have Hr : Hid _ := hr
    have Hb : Hid _ := hb
    clear hm hx hr hb
    go_wp2_with fail
    refine (HL _ w1 m0 (Hh.out.below Hb.out) (HS.out.below Hb.out)).mono ?_
    rintro e w2 ⟨rfl, hb2⟩
    have hm := Hm.out
    have hx := Hx.out
    have hr := Hr.out
    have hb := Hb.out
    clear Hm Hx Hr Hb m0 x0 x1 x2 x3 x4 x5 x6
    replace hm := (hb2.block _ (Array.getElem?_eq_some_iff.1 hm).1).trans hm
    replace hx := (hb2.block _ (Array.getElem?_eq_some_iff.1 hx).1).trans hx
    replace hr := (hb2.block _ (Array.getElem?_eq_some_iff.1 hr).1).trans hr
    replace hs1 := Nat.le_trans hs1 hb2.size
    replace hb := hb.trans (hb2.mono hb.size)
    clear hb2
    clear HL Hh
    have Hr : Hid _ := hr
    have Hb : Hid _ := hb
    clear hm hx hr hb
    go_upto_region 4 with fail
    obtain ⟨w3, e3⟩ : ∃ w3, w3 = w2.alloc (.cells #[.bool u.t, .int .i64 u.n, .int .i64 u.l, .int .i64 u.h, .int .i64 u.a, .int .i64 u.p, .int .i64 u.s] 27) := ⟨_, rfl⟩
    have hb23 : Below w2.heap.size w2 w3 := by rw [e3]; exact (Below.refl _ _).alloc (Nat.le_refl _) _
    have hv := heap_alloc_new w2 (.cells #[.bool u.t, .int .i64 u.n, .int .i64 u.l, .int .i64 u.h, .int .i64 u.a, .int .i64 u.p, .int .i64 u.s] 27)
    have hr := (hb23.block _ (Array.getElem?_eq_some_iff.1 Hr.out).1).trans Hr.out
    have hb := Hb.out.trans (hb23.mono Hb.out.size)
    rw [← e3] at hv ⊢
    have hsn := (HS.out.below hb).drew
    have hgv : w.heap.size + 2 < w2.heap.size := (Array.getElem?_eq_some_iff.1 Hr.out).1
    clear e3 hb23 Hr Hb HS hs1
    generalize w2.heap.size = gv at *
    obtain ⟨r0, r1, r2, r3, r4, r5, r6, f0, f1, f2, f3, f4, f5, f6⟩ := row_facts hr
    generalize hgb : w.heap.size = gb at *
    have Hg : Hid (w.heap.size = gb) := hgb
    clear hgb
    have hbW := heap_drew (put7_block (.bool u.t) (.int .i64 u.n) (.int .i64 u.l) (.int .i64 u.h) (.int .i64 u.a) (.int .i64 u.p) (.int .i64 u.s) hr)
    have hdW := (put7_below hb (show gb ≤ gb + 2 by omega) (.bool u.t) (.int .i64 u.n) (.int .i64 u.l) (.int .i64 u.h) (.int .i64 u.a) (.int .i64 u.p) (.int .i64 u.s)).drew
    have HSW := seven_first (row_facts (heap_drew ((put7_other w3 (.bool u.t) (.int .i64 u.n) (.int .i64 u.l) (.int .i64 u.h) (.int .i64 u.a) (.int .i64 u.p) (.int .i64 u.s) (show gv ≠ gb + 2 by omega)).trans hv)))
    have HS0 := seven_first (row_facts (heap_drew hv))
    have HbW : Hid _ := hbW
    have HdW : Hid _ := hdW
    have HcW : Hid _ := HSW
    have Hsn : Hid _ := hsn
    clear hbW hdW HSW hr hb hv hsn
    refine wp_region_held_drew (S := fun wx => wx.cell? ⟨gv, 0, none⟩ = some (.bool u.t) ∧ wx.cell? ⟨gv, 1, none⟩ = some (.int .i64 u.n) ∧ wx.cell? ⟨gv, 2, none⟩ = some (.int .i64 u.l) ∧ wx.cell? ⟨gv, 3, none⟩ = some (.int .i64 u.h) ∧ wx.cell? ⟨gv, 4, none⟩ = some (.int .i64 u.a) ∧ wx.cell? ⟨gv, 5, none⟩ = some (.int .i64 u.p) ∧ wx.cell? ⟨gv, 6, none⟩ = some (.int .i64 u.s)) (by kernel_rfl) HS0 (fun hHeld => ?_)
    refine wpAnyH_take (i := 0) (oi := ?o501) (v := ?v501) ?i501 (by kernel_rfl) (by kernel_rfl) (by kernel_rfl) ?q501 ?y501 (hHeld) ?r501
    case i501 => exact rfl
    case q501 => exact (fun _ _ _ h => h)
    case y501 =>
      refine Or.inl ⟨by rfl, ?_⟩
      intro w hSw
      (try dsimp only at hSw)
      go_simp
      first | done | rfl
    try simp only [Act.put, List.getElem_toArray, List.getElem_cons_zero, List.getElem_cons_succ, List.setIfInBounds_toArray, List.set_cons_zero, List.set_cons_succ]
    refine wpAnyH_take (i := 1) (oi := ?o502) (v := ?v502) ?i502 (by kernel_rfl) (by kernel_rfl) (by kernel_rfl) ?q502 ?y502 (hHeld) ?r502
    case i502 => exact rfl
    case q502 => exact (fun _ _ _ h => h)
    case y502 =>
      refine Or.inl ⟨by rfl, ?_⟩
      intro w hSw
      (try dsimp only at hSw)
      go_simp
      first | done | rfl
    try simp only [Act.put, List.getElem_toArray, List.getElem_cons_zero, List.getElem_cons_succ, List.setIfInBounds_toArray, List.set_cons_zero, List.set_cons_succ]
    refine wpAnyH_ready (rs := [2]) (by kernel_rfl) (by simp) ?_
    refine AllReadyH.cons (i := 2) (o := ?o503) ?i503 (fun K hK => ?_) AllReadyH.nil
    case i503 => exact rfl
    go_simp
    (with_reducible refine (trapM p t b tr w3.drew Hsn.out Hj.out).mono ?_)
    rintro e wq ⟨rfl, rfl⟩
    go_wp2_with fail
    refine hK.out _ _ (HS0) (fun hHeld => ?_)
    clear hK K
    try simp only [Act.put, List.getElem_toArray, List.getElem_cons_zero, List.getElem_cons_succ, List.setIfInBounds_toArray, List.set_cons_zero, List.set_cons_succ]
    refine wpAnyH_ready (rs := [3]) (by kernel_rfl) (by simp) ?_
    refine AllReadyH.cons (i := 3) (o := ?o504) ?i504 (fun K hK => ?_) AllReadyH.nil
    case i504 => exact rfl
    go_simp
    refine hK.out _ _ (HcW.out) (fun hHeld => ?_)
    clear hK K
    try simp only [Act.put, List.getElem_toArray, List.getElem_cons_zero, List.getElem_cons_succ, List.setIfInBounds_toArray, List.set_cons_zero, List.set_cons_succ]
    refine wpAnyH_take (i := 4) (oi := ?o505) (v := ?v505) ?i505 (by kernel_rfl) (by kernel_rfl) (by kernel_rfl) ?q505 ?y505 (hHeld) ?r505
    case i505 => exact rfl
    case q505 => exact (fun _ _ _ h => h)
    case y505 =>
      refine Or.inl ⟨by rfl, ?_⟩
      intro w hSw
      (try dsimp only at hSw)
      go_simp
      first | done | rfl
    try simp only [Act.put, List.getElem_toArray, List.getElem_cons_zero, List.getElem_cons_succ, List.setIfInBounds_toArray, List.set_cons_zero, List.set_cons_succ]
    refine wpAnyH_done (by kernel_rfl) ?_ _
    go_wp2_with fail
    have hbW := HbW.out
    have hdW := HdW.out
    show bodyPost _ _ _ _ _ ((put7 w3 (gb + 2) (.bool u.t) (.int .i64 u.n) (.int .i64 u.l) (.int .i64 u.h) (.int .i64 u.a) (.int .i64 u.p) (.int .i64 u.s)).drew)
    generalize (put7 w3 (gb + 2) (.bool u.t) (.int .i64 u.n) (.int .i64 u.l) (.int .i64 u.h) (.int .i64 u.a) (.int .i64 u.p) (.int .i64 u.s)).drew = W at hbW hdW ⊢
    obtain ⟨d0, d1, d2, d3, d4, d5, d6, _⟩ := row_facts hbW
    refine bodyPost_ret (v := .tuple #[.agg #[.bool u.t, .int .i64 u.n, .int .i64 u.l, .int .i64 u.h, .int .i64 u.a, .int .i64 u.p, .int .i64 u.s], .int .i64 tr]) (by simp [results, Tryd.results8, go_sem, d0, d1, d2, d3, d4, d5, d6]) rfl ⟨rfl, by rw [Hg.out]; exact hdW⟩
end Go.Proofs.YtkiaglpgfgoaiaaDoor

/- The law of ObjectOk returns true at every object, and writes nothing that was there. -/
import Derived.Test.YtplbblilgalopaaObjOkSpec
import Derived.Test.YtplbblilgalopaaObjOkImpl
import Derived.Test.YtplbblilgalopaaObjCopy
import Derived.Test.YtplbblilgalopaaObjOpen
namespace Go.Proofs.Ytplbblilgalopaa
open Go.RowKit
set_option linter.unusedVariables false
set_option linter.unusedSimpArgs false
set_option maxRecDepth 100000

theorem ORead.drew {w : World} {o : O5} {b : Ob} (h : ORead w o b) : ORead w.drew o b := h.below (Below.refl _ _).drew

set_option maxHeartbeats 4000000 in
theorem objok_walk (w : World) (o : O5) (b : Ob) (h : ORead w o b) :
    Calls Try.prog 3 #[.agg #[o.x, o.e, o.i, o.d, o.c]] w fun e w' => e = .returned (.bool true) ∧ Below w.heap.size w w' := by
  have x0 := B5.new w 26 o
  have y0 : Below w.heap.size w (w.alloc (.cells #[o.x, o.e, o.i, o.d, o.c] 26 (0, 0))) := (Below.refl _ _).alloc (Nat.le_refl _) _
  have Hh : Hid (ORead w o b) := h
  clear h
  go_enter Try.func3, Try.ntmps3
  go_upto_region 2 with fail
  generalize w.alloc (.cells #[o.x, o.e, o.i, o.d, o.c] 26 (0, 0)) = w0 at *
  obtain ⟨k0, k1, k2, k3, k4⟩ := x0.facts
  have H1 := szObjectM o b w0 (ORead.below Hh.out y0)
  by_cases hs : ((osz b : Nat) : Int) ≤ 1048576
  · rw [szL_yes hs] at H1
    have hneg : ¬ ((1048576 : Int) - (osz b : Int) < 0) := by omega
    have hsz : osz b ≤ 1048576 := by omega
    go_wp2_with fail
    refine H1.mono ?_
    rintro e w1 ⟨rfl, hb⟩
    have x1 := x0.below hb x0.lt
    have y1 : Below w.heap.size w w1 := y0.trans (hb.mono y0.size)
    clear H1 k0 k1 k2 k3 k4 x0 y0 hb
    obtain ⟨k0, k1, k2, k3, k4⟩ := x1.facts
    have H2 := toObjectM o b w1 (ORead.below Hh.out y1) hsz
    go_wp2_with fail
    refine H2.mono ?_
    rintro e w2 ⟨o2, lE2, lI2, rfl, hO2, hb⟩
    have x2 := x1.below hb x1.lt
    have y2 : Below w.heap.size w w2 := y1.trans (hb.mono y1.size)
    have H3 := specObjectOkM o2 b w2 (hO2.read Hh.out.exs Hh.out.ims) hsz
    clear H2 k0 k1 k2 k3 k4 x1 y1 hb hO2
    go_wp2_with fail
    refine H3.mono ?_
    rintro e w3 ⟨rfl, hb⟩
    have x3 := x2.below hb x2.lt
    have y3 : Below w.heap.size w w3 := y2.trans (hb.mono y2.size)
    clear H3 x2 y2 hb
    obtain ⟨k0, k1, k2, k3, k4⟩ := x3.facts
    have H4 := toObjectM o b w3 (ORead.below Hh.out y3) hsz
    go_wp2_with fail
    refine H4.mono ?_
    rintro e w4 ⟨o4, lE4, lI4, rfl, hO4, hb⟩
    have x4 := x3.below hb x3.lt
    have y4 : Below w.heap.size w w4 := y3.trans (hb.mono y3.size)
    have R4 := hO4.read Hh.out.exs Hh.out.ims
    clear H4 k0 k1 k2 k3 k4 x3 y3 hb hO4
    obtain ⟨a1, c1, a2, c2, a3, c3, a4, c4, e4⟩ := R4.shape
    obtain ⟨sx, se, si, sd, sc⟩ := o4
    simp only [O5.mk.injEq] at e4
    obtain ⟨rfl, rfl, rfl, rfl, rfl⟩ := e4
    simp only
    go_upto_region 7 with fail
    have z5 := B5.new w4 32 ⟨.slice a1 b.name.length c1, .slice a2 b.ex.length c2, .slice a3 b.im.length c3, .int .i64 b.data, .slice a4 b.code.length c4⟩
    have y45 : Below w4.heap.size w4 (w4.alloc (.cells #[.slice a1 b.name.length c1, .slice a2 b.ex.length c2, .slice a3 b.im.length c3, .int .i64 b.data, .slice a4 b.code.length c4] 32 (0, 0))) := (Below.refl _ _).alloc (Nat.le_refl _) _
    have x5 := x4.old (ob := .cells #[.slice a1 b.name.length c1, .slice a2 b.ex.length c2, .slice a3 b.im.length c3, .int .i64 b.data, .slice a4 b.code.length c4] 32 (0, 0))
    simp only at z5
    generalize w4.alloc (.cells #[.slice a1 b.name.length c1, .slice a2 b.ex.length c2, .slice a3 b.im.length c3, .int .i64 b.data, .slice a4 b.code.length c4] 32 (0, 0)) = w5 at *
    have y5 : Below w.heap.size w w5 := y4.trans (y45.mono y4.size)
    have R5 := R4.below y45
    generalize w4.heap.size = gx at *
    clear x4 y4 R4 y45
    obtain ⟨k0, k1, k2, k3, k4⟩ := z5.facts
    have H6 := implObjectOkM ⟨.slice a1 b.name.length c1, .slice a2 b.ex.length c2, .slice a3 b.im.length c3, .int .i64 b.data, .slice a4 b.code.length c4⟩ b w5 R5 hsz
    go_wp2_with fail
    refine H6.mono ?_
    rintro e w6 ⟨rfl, hb⟩
    have x6 := x5.below hb x5.lt
    have z6 := z5.below hb z5.lt
    have y6 : Below w.heap.size w w6 := y5.trans (hb.mono y5.size)
    have R6 : Hid (ORead w6 ⟨.slice a1 b.name.length c1, .slice a2 b.ex.length c2, .slice a3 b.im.length c3, .int .i64 b.data, .slice a4 b.code.length c4⟩ b) := R5.below hb
    have hs6 := x6.lt
    have hx6 := z6.lt
    clear H6 k0 k1 k2 k3 k4 x5 z5 y5 R5 hb
    obtain ⟨k0, k1, k2, k3, k4⟩ := x6.facts
    obtain ⟨j0, j1, j2, j3, j4⟩ := z6.facts
    generalize objOk b = v
    have hv : (v != v) = false := by cases v <;> rfl
    go_wp2_with fail
    have HS : ∀ {wl : World}, Below w6.heap.size w6 wl → (wl.cell? ⟨w.heap.size, 0, none⟩ = some o.x ∧ wl.cell? ⟨w.heap.size, 1, none⟩ = some o.e ∧ wl.cell? ⟨w.heap.size, 2, none⟩ = some o.i ∧ wl.cell? ⟨w.heap.size, 3, none⟩ = some o.d ∧ wl.cell? ⟨w.heap.size, 4, none⟩ = some o.c) ∧ (wl.cell? ⟨gx, 0, none⟩ = some (.slice a1 b.name.length c1) ∧ wl.cell? ⟨gx, 1, none⟩ = some (.slice a2 b.ex.length c2) ∧ wl.cell? ⟨gx, 2, none⟩ = some (.slice a3 b.im.length c3) ∧ wl.cell? ⟨gx, 3, none⟩ = some (.int .i64 b.data) ∧ wl.cell? ⟨gx, 4, none⟩ = some (.slice a4 b.code.length c4)) :=
      fun hb => ⟨(x6.below hb hs6).facts, (z6.below hb hx6).facts⟩
    have HS0 := HS (wl := w6.drew) (Below.refl _ _).drew
    refine wp_region_held_drew (S := fun wl => (wl.cell? ⟨w.heap.size, 0, none⟩ = some o.x ∧ wl.cell? ⟨w.heap.size, 1, none⟩ = some o.e ∧ wl.cell? ⟨w.heap.size, 2, none⟩ = some o.i ∧ wl.cell? ⟨w.heap.size, 3, none⟩ = some o.d ∧ wl.cell? ⟨w.heap.size, 4, none⟩ = some o.c) ∧ (wl.cell? ⟨gx, 0, none⟩ = some (.slice a1 b.name.length c1) ∧ wl.cell? ⟨gx, 1, none⟩ = some (.slice a2 b.ex.length c2) ∧ wl.cell? ⟨gx, 2, none⟩ = some (.slice a3 b.im.length c3) ∧ wl.cell? ⟨gx, 3, none⟩ = some (.int .i64 b.data) ∧ wl.cell? ⟨gx, 4, none⟩ = some (.slice a4 b.code.length c4))) (by kernel_rfl) HS0 (fun hHeld => ?_)
    refine wpAnyH_take (i := 0) (oi := ?o501) (v := ?v501) ?i501 (by kernel_rfl) (by kernel_rfl) (by kernel_rfl) ?q501 ?y501 (hHeld) ?r501
    case i501 => exact rfl
    case q501 => exact (fun _ _ _ h => h)
    case y501 =>
      refine Or.inl ⟨by rfl, ?_⟩
      intro w hSw
      (try dsimp only at hSw)
      go_simp
      first | done | rfl
    try simp only [Act.put, List.getElem_toArray, List.getElem_cons_zero, List.getElem_cons_succ, List.setIfInBounds_toArray, List.set_cons_zero, List.set_cons_succ]
    refine wpAnyH_take (i := 1) (oi := ?o502) (v := ?v502) ?i502 (by kernel_rfl) (by kernel_rfl) (by kernel_rfl) ?q502 ?y502 (hHeld) ?r502
    case i502 => exact rfl
    case q502 => exact (fun _ _ _ h => h)
    case y502 =>
      refine Or.inl ⟨by rfl, ?_⟩
      intro w hSw
      (try dsimp only at hSw)
      go_simp
      first | done | rfl
    try simp only [Act.put, List.getElem_toArray, List.getElem_cons_zero, List.getElem_cons_succ, List.setIfInBounds_toArray, List.set_cons_zero, List.set_cons_succ]
    refine wpAnyH_ready (rs := [2]) (by kernel_rfl) (by simp) ?_
    refine AllReadyH.cons (i := 2) (o := ?o503) ?i503 (fun K hK => ?_) AllReadyH.nil
    case i503 => exact rfl
    go_simp
    (with_reducible refine (toObjectM o b w6.drew (ORead.below (show ORead w o b from Hh.out) y6.drew) hsz).mono ?_)
    rintro e w7 ⟨o7, lE7, lI7, rfl, hO7, hb7⟩
    have hb67 : Below w6.heap.size w6 w7 := (Below.refl w6.heap.size w6).drew.trans hb7
    have HS7 := HS hb67
    go_wp2_with fail
    refine hK.out _ _ (HS7) (fun hHeld => ?_)
    clear hK K
    try simp only [Act.put, List.getElem_toArray, List.getElem_cons_zero, List.getElem_cons_succ, List.setIfInBounds_toArray, List.set_cons_zero, List.set_cons_succ]
    refine wpAnyH_ready (rs := [3]) (by kernel_rfl) (by simp) ?_
    refine AllReadyH.cons (i := 3) (o := ?o504) ?i504 (fun K hK => ?_) AllReadyH.nil
    case i504 => exact rfl
    go_simp
    (with_reducible refine (eqObjectM ⟨.slice a1 b.name.length c1, .slice a2 b.ex.length c2, .slice a3 b.im.length c3, .int .i64 b.data, .slice a4 b.code.length c4⟩ o7 b w7 (ORead.below R6.out hb67) (hO7.read (show ORead w o b from Hh.out).exs (show ORead w o b from Hh.out).ims) hsz).mono ?_)
    rintro e w8 ⟨rfl, hb8⟩
    have hb68 : Below w6.heap.size w6 w8 := hb67.trans (hb8.mono hb67.size)
    have HS8 := HS hb68
    go_wp2_with fail
    refine hK.out _ _ (HS8) (fun hHeld => ?_)
    clear hK K
    try simp only [Act.put, List.getElem_toArray, List.getElem_cons_zero, List.getElem_cons_succ, List.setIfInBounds_toArray, List.set_cons_zero, List.set_cons_succ]
    refine wpAnyH_take (i := 4) (oi := ?o505) (v := ?v505) ?i505 (by kernel_rfl) (by kernel_rfl) (by kernel_rfl) ?q505 ?y505 (hHeld) ?r505
    case i505 => exact rfl
    case q505 => exact (fun _ _ _ h => h)
    case y505 =>
      refine Or.inl ⟨by rfl, ?_⟩
      intro w hSw
      (try dsimp only at hSw)
      go_simp
      first | done | rfl
    try simp only [Act.put, List.getElem_toArray, List.getElem_cons_zero, List.getElem_cons_succ, List.setIfInBounds_toArray, List.set_cons_zero, List.set_cons_succ]
    refine wpAnyH_done (by kernel_rfl) ?_ _
    have y9 : Below w.heap.size w w8 := y6.trans (hb68.mono y6.size)
    go_wp2_with fail
    go_ret
    exact ⟨rfl, y9⟩
  · rw [szL_no hs] at H1
    go_wp2_with fail
    refine H1.mono ?_
    rintro e w1 ⟨rfl, hb⟩
    have y1 : Below w.heap.size w w1 := y0.trans (hb.mono y0.size)
    go_wp2_with fail
    go_ret
    exact ⟨rfl, y1⟩
end Go.Proofs.Ytplbblilgalopaa

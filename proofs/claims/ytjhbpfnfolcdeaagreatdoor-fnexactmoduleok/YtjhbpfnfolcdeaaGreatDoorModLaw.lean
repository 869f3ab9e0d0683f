/- The law of ModuleOk returns true at every argument, and writes nothing that was there. By mklaw1.py. -/
import Derived.Test.YtjhbpfnfolcdeaaGreatDoorModBoth
import Derived.Test.YtjhbpfnfolcdeaaGreatDoorTreeEq
import Derived.Test.YtjhbpfnfolcdeaaGreatDoorTreeOpen
namespace Go.Proofs.YtjhbpfnfolcdeaaGreatDoor
open Go.RowKit
set_option linter.unusedVariables false
set_option linter.unusedSimpArgs false
set_option maxRecDepth 100000

theorem shapeModule {w : World} {lo hi : Nat} {us : List Value} {x : Mo} (h : RecHas w lo hi x.fl us) :
    ∃ g0 m0 g1 m1 g2 m2 g3 m3, us = [.slice (some ⟨g0, 0, none⟩) m0 m0, .slice (some ⟨g1, 0, none⟩) m1 m1, .slice (some ⟨g2, 0, none⟩) m2 m2, .slice (some ⟨g3, 0, none⟩) m3 m3] := by
  unfold Mo.fl at h
  simp only [RecHas, Fl.Has] at h
  obtain ⟨u0, _, _, rfl, _, _, ⟨g0, rfl, _⟩, u1, _, _, rfl, _, _, ⟨g1, _, _, rfl, _⟩, u2, _, _, rfl, _, _, ⟨g2, _, _, rfl, _⟩, u3, _, _, rfl, _, _, ⟨g3, _, _, rfl, _⟩, rfl⟩ := h
  exact ⟨g0, _, g1, _, g2, _, g3, _, rfl⟩

set_option maxHeartbeats 4000000 in
theorem modok_walk (x : Mo) (vs : List Value) (w : World) (hT : Tabs w) (h : RdVals w x.fl vs) :
    Calls Tryz.prog 3 #[.agg vs.toArray] w fun e w' => e = .returned (.bool true) ∧ Below w.heap.size w w' := by
  obtain ⟨v0, v1, v2, v3, rfl⟩ : ∃ v0 v1 v2 v3, vs = [v0, v1, v2, v3] := by
    have hl := h.len
    match vs, hl with
    | [v0, v1, v2, v3], _ => exact ⟨v0, v1, v2, v3, rfl⟩
  have x0 := Blk.new w 27 [v0, v1, v2, v3]
  have y0 : Below w.heap.size w (w.alloc (.cells #[v0, v1, v2, v3] 27 (0, 0))) := (Below.refl _ _).alloc (Nat.le_refl _) _
  have Hh : Hid (RdVals w x.fl [v0, v1, v2, v3]) := h
  clear h
  have HT : Hid (Tabs w) := hT
  clear hT
  simp only [List.toArray] at x0
  go_enter Tryz.func3, Tryz.ntmps3
  go_upto_region 2 with fail
  generalize w.alloc (.cells #[v0, v1, v2, v3] 27 (0, 0)) = w0 at *
  have k0 := x0.cell (i := 0) rfl
  have k1 := x0.cell (i := 1) rfl
  have k2 := x0.cell (i := 2) rfl
  have k3 := x0.cell (i := 3) rfl
  have H1 := szMo x w [v0, v1, v2, v3] Hh.out w0 1048576 y0 (by omega) (by omega)
  simp only [List.toArray] at H1
  generalize hN : recLen x.fl = Nn at H1
  by_cases hs : (Nn : Int) ≤ 1048576
  · rw [szL_yes hs] at H1
    have hneg : ¬ ((1048576 : Int) - (Nn : Int) < 0) := by omega
    have hsz : Hid (recLen x.fl ≤ 1048576) := by show _ ≤ _; omega
    clear hN
    go_wp2_with fail
    refine H1.mono ?_
    rintro e w1 ⟨rfl, hb⟩
    have x1 := x0.below hb x0.lt
    have y1 : Below w.heap.size w w1 := y0.trans (hb.mono y0.size)
    clear H1 k0 k1 k2 k3 x0 y0 hb
    have k0 := x1.cell (i := 0) rfl
    have k1 := x1.cell (i := 1) rfl
    have k2 := x1.cell (i := 2) rfl
    have k3 := x1.cell (i := 3) rfl
    have H2 := toMo x hsz.out w [v0, v1, v2, v3] Hh.out w1 y1
    simp only [List.toArray] at H2
    go_wp2_with fail
    refine H2.mono ?_
    rintro e w2 ⟨u2, rfl, hl2, hO2, hb⟩
    have x2 := x1.below hb x1.lt
    have y2 : Below w.heap.size w w2 := y1.trans (hb.mono y1.size)
    have H3 := specModB x w2 u2 hO2.vals hsz.out
    clear H2 k0 k1 k2 k3 x1 y1 hb hO2
    go_wp2_with fail
    refine H3.mono ?_
    rintro e w3 ⟨rfl, hb⟩
    replace hb := below_grown hb
    have x3 := x2.below hb x2.lt
    have y3 : Below w.heap.size w w3 := y2.trans (hb.mono y2.size)
    clear H3 x2 y2 hb
    have k0 := x3.cell (i := 0) rfl
    have k1 := x3.cell (i := 1) rfl
    have k2 := x3.cell (i := 2) rfl
    have k3 := x3.cell (i := 3) rfl
    have H4 := toMo x hsz.out w [v0, v1, v2, v3] Hh.out w3 y3
    simp only [List.toArray] at H4
    go_wp2_with fail
    refine H4.mono ?_
    rintro e w4 ⟨u4, rfl, hl4, hO4, hb⟩
    have x4 := x3.below hb x3.lt
    have y4 : Below w.heap.size w w4 := y3.trans (hb.mono y3.size)
    have R4 := hO4.vals
    obtain ⟨g0, m0, g1, m1, g2, m2, g3, m3, hu4⟩ := shapeModule hO4
    subst hu4
    clear H4 k0 k1 k2 k3 x3 y3 hb hO4
    go_upto_region 7 with fail
    have z5 := Blk.new w4 33 [.slice (some ⟨g0, 0, none⟩) m0 m0, .slice (some ⟨g1, 0, none⟩) m1 m1, .slice (some ⟨g2, 0, none⟩) m2 m2, .slice (some ⟨g3, 0, none⟩) m3 m3]
    have y45 : Below w4.heap.size w4 (w4.alloc (.cells #[.slice (some ⟨g0, 0, none⟩) m0 m0, .slice (some ⟨g1, 0, none⟩) m1 m1, .slice (some ⟨g2, 0, none⟩) m2 m2, .slice (some ⟨g3, 0, none⟩) m3 m3] 33 (0, 0))) := (Below.refl _ _).alloc (Nat.le_refl _) _
    have x5 := x4.old (o := .cells #[.slice (some ⟨g0, 0, none⟩) m0 m0, .slice (some ⟨g1, 0, none⟩) m1 m1, .slice (some ⟨g2, 0, none⟩) m2 m2, .slice (some ⟨g3, 0, none⟩) m3 m3] 33 (0, 0))
    simp only [List.toArray] at z5
    generalize w4.alloc (.cells #[.slice (some ⟨g0, 0, none⟩) m0 m0, .slice (some ⟨g1, 0, none⟩) m1 m1, .slice (some ⟨g2, 0, none⟩) m2 m2, .slice (some ⟨g3, 0, none⟩) m3 m3] 33 (0, 0)) = w5 at *
    have y5 : Below w.heap.size w w5 := y4.trans (y45.mono y4.size)
    have R5 := R4.below y45
    generalize w4.heap.size = gx at *
    clear x4 y4 R4 y45
    have k0 := z5.cell (i := 0) rfl
    have k1 := z5.cell (i := 1) rfl
    have k2 := z5.cell (i := 2) rfl
    have k3 := z5.cell (i := 3) rfl
    have H6 := implModB x w5 _ (HT.out.below y5) R5 hsz.out
    simp only [List.toArray] at H6
    go_wp2_with fail
    refine H6.mono ?_
    rintro e w6 ⟨rfl, hb⟩
    replace hb := below_grown hb
    have x6 := x5.below hb x5.lt
    have z6 := z5.below hb z5.lt
    have y6 : Below w.heap.size w w6 := y5.trans (hb.mono y5.size)
    have R6 : Hid (RdVals w6 x.fl [.slice (some ⟨g0, 0, none⟩) m0 m0, .slice (some ⟨g1, 0, none⟩) m1 m1, .slice (some ⟨g2, 0, none⟩) m2 m2, .slice (some ⟨g3, 0, none⟩) m3 m3]) := R5.below hb
    have hs6 := x6.lt
    have hx6 := z6.lt
    clear H6 k0 k1 k2 k3 x5 z5 y5 R5 hb
    have k0 := x6.cell (i := 0) rfl
    have k1 := x6.cell (i := 1) rfl
    have k2 := x6.cell (i := 2) rfl
    have k3 := x6.cell (i := 3) rfl
    have j0 := z6.cell (i := 0) rfl
    have j1 := z6.cell (i := 1) rfl
    have j2 := z6.cell (i := 2) rfl
    have j3 := z6.cell (i := 3) rfl
    generalize moOk x = v
    have hv : (v != v) = false := by cases v <;> rfl
    go_wp2_with fail
    have HS : ∀ {wl : World}, Below w6.heap.size w6 wl → (wl.cell? ⟨w.heap.size, 0, none⟩ = some (v0) ∧ wl.cell? ⟨w.heap.size, 1, none⟩ = some (v1) ∧ wl.cell? ⟨w.heap.size, 2, none⟩ = some (v2) ∧ wl.cell? ⟨w.heap.size, 3, none⟩ = some (v3)) ∧ (wl.cell? ⟨gx, 0, none⟩ = some (.slice (some ⟨g0, 0, none⟩) m0 m0) ∧ wl.cell? ⟨gx, 1, none⟩ = some (.slice (some ⟨g1, 0, none⟩) m1 m1) ∧ wl.cell? ⟨gx, 2, none⟩ = some (.slice (some ⟨g2, 0, none⟩) m2 m2) ∧ wl.cell? ⟨gx, 3, none⟩ = some (.slice (some ⟨g3, 0, none⟩) m3 m3)) :=
      fun hb => ⟨⟨cell_on k0 hb, cell_on k1 hb, cell_on k2 hb, cell_on k3 hb⟩, ⟨cell_on j0 hb, cell_on j1 hb, cell_on j2 hb, cell_on j3 hb⟩⟩
    have HT7 := toMo x hsz.out w [v0, v1, v2, v3] Hh.out w6.drew y6.drew
    simp only [List.toArray] at HT7
    have HS0 := HS (wl := w6.drew) (Below.refl _ _).drew
    refine wp_region_held_drew (S := fun wl => (wl.cell? ⟨w.heap.size, 0, none⟩ = some (v0) ∧ wl.cell? ⟨w.heap.size, 1, none⟩ = some (v1) ∧ wl.cell? ⟨w.heap.size, 2, none⟩ = some (v2) ∧ wl.cell? ⟨w.heap.size, 3, none⟩ = some (v3)) ∧ (wl.cell? ⟨gx, 0, none⟩ = some (.slice (some ⟨g0, 0, none⟩) m0 m0) ∧ wl.cell? ⟨gx, 1, none⟩ = some (.slice (some ⟨g1, 0, none⟩) m1 m1) ∧ wl.cell? ⟨gx, 2, none⟩ = some (.slice (some ⟨g2, 0, none⟩) m2 m2) ∧ wl.cell? ⟨gx, 3, none⟩ = some (.slice (some ⟨g3, 0, none⟩) m3 m3))) (by kernel_rfl) HS0 (fun hHeld => ?_)
    refine wpAnyH_take (i := 0) (v := ?v501) rfl (by kernel_rfl) (by kernel_rfl) (by kernel_rfl) (fun _ _ _ h => h) (.inl ⟨by rfl, ?y501⟩) hHeld ?_
    case y501 => intro w hSw; (try dsimp only at hSw); go_simp; first | done | rfl
    refine wpAnyH_take (i := 1) (v := ?v502) rfl (by kernel_rfl) (by kernel_rfl) (by kernel_rfl) (fun _ _ _ h => h) (.inl ⟨by rfl, ?y502⟩) hHeld ?_
    case y502 => intro w hSw; (try dsimp only at hSw); go_simp; first | done | rfl
    try simp only [Act.put, List.getElem_toArray, List.getElem_cons_zero, List.getElem_cons_succ, List.setIfInBounds_toArray, List.set_cons_zero, List.set_cons_succ]
    refine wpAnyH_ready (rs := [2]) (by kernel_rfl) (by simp) ?_
    refine AllReadyH.cons (i := 2) (o := ?o503) ?i503 (fun K hK => ?_) AllReadyH.nil
    case i503 => exact rfl
    go_simp
    (with_reducible refine HT7.mono ?_)
    rintro e w7 ⟨u7, rfl, hl7, hO7, hb7⟩
    have hb67 : Below w6.heap.size w6 w7 := (Below.refl w6.heap.size w6).drew.trans hb7
    have HS7 := HS hb67
    have HQ8 := eqMo x hsz.out w7 [.slice (some ⟨g0, 0, none⟩) m0 m0, .slice (some ⟨g1, 0, none⟩) m1 m1, .slice (some ⟨g2, 0, none⟩) m2 m2, .slice (some ⟨g3, 0, none⟩) m3 m3] u7 (RdVals.below R6.out hb67) hO7.vals w7 (Below.refl _ _)
    simp only [List.toArray] at HQ8
    go_wp2_with fail
    refine hK.out _ _ (HS7) (fun hHeld => ?_)
    clear hK K
    try simp only [Act.put, List.getElem_toArray, List.getElem_cons_zero, List.getElem_cons_succ, List.setIfInBounds_toArray, List.set_cons_zero, List.set_cons_succ]
    refine wpAnyH_ready (rs := [3]) (by kernel_rfl) (by simp) ?_
    refine AllReadyH.cons (i := 3) (o := ?o504) ?i504 (fun K hK => ?_) AllReadyH.nil
    case i504 => exact rfl
    go_simp
    (with_reducible refine HQ8.mono ?_)
    rintro e w8 ⟨rfl, hb8⟩
    have hb68 : Below w6.heap.size w6 w8 := hb67.trans (hb8.mono hb67.size)
    have HS8 := HS hb68
    go_wp2_with fail
    refine hK.out _ _ (HS8) (fun hHeld => ?_)
    clear hK K
    try simp only [Act.put, List.getElem_toArray, List.getElem_cons_zero, List.getElem_cons_succ, List.setIfInBounds_toArray, List.set_cons_zero, List.set_cons_succ]
    refine wpAnyH_take (i := 4) (v := ?v505) rfl (by kernel_rfl) (by kernel_rfl) (by kernel_rfl) (fun _ _ _ h => h) (.inl ⟨by rfl, ?y505⟩) hHeld ?_
    case y505 => intro w hSw; (try dsimp only at hSw); go_simp; first | done | rfl
    try simp only [Act.put, List.getElem_toArray, List.getElem_cons_zero, List.getElem_cons_succ, List.setIfInBounds_toArray, List.set_cons_zero, List.set_cons_succ]
    refine wpAnyH_done (by kernel_rfl) ?_ _
    have y9 : Below w.heap.size w w8 := y6.trans (hb68.mono y6.size)
    go_wp2_with fail
    go_ret
    exact ⟨rfl, y9⟩
  · rw [szL_no hs] at H1
    clear hN
    go_wp2_with fail
    refine H1.mono ?_
    rintro e w1 ⟨rfl, hb⟩
    have y1 : Below w.heap.size w w1 := y0.trans (hb.mono y0.size)
    go_wp2_with fail
    go_ret
    exact ⟨rfl, y1⟩
end Go.Proofs.YtjhbpfnfolcdeaaGreatDoor

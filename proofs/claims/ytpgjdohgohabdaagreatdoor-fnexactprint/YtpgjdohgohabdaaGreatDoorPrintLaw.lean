/- The law of Print returns true at every argument, and writes nothing that was there. By mkprintlaw.py. -/
import Derived.Test.YtpgjdohgohabdaaGreatDoorModBoth
import Derived.Test.YtpgjdohgohabdaaGreatDoorTreeEq
import Derived.Test.YtpgjdohgohabdaaGreatDoorTreeOpen
import Derived.Test.YtpgjdohgohabdaaGreatDoorMarkT
import Derived.Test.YtpgjdohgohabdaaGreatDoorTk
namespace Go.Proofs.YtpgjdohgohabdaaGreatDoor
open Go.RowKit
set_option linter.unusedVariables false
set_option linter.unusedSimpArgs false
set_option maxRecDepth 100000

theorem shapeModule {w : World} {lo hi : Nat} {us : List Value} {x : Mo} (h : RecHas w lo hi x.fl us) :
  ∃ g0 m0 g1 m1 g2 m2 g3 m3, us = [.slice (some ⟨g0, 0, none⟩) m0 m0, .slice (some ⟨g1, 0, none⟩) m1 m1, .slice (some ⟨g2, 0, none⟩) m2 m2, .slice (some ⟨g3, 0, none⟩) m3 m3] := by
 unfold Mo.fl at h
 simp only [RecHas, Fl.Has] at h
 obtain ⟨u0, _, _, rfl, _, _, ⟨g0, rfl, _⟩, u1, _, _, rfl, _, _, ⟨g1, _, _, rfl, _⟩, u2, _, _, rfl, _, _, ⟨g2, _, _, rfl, _⟩, u3, _, _, rfl, _, _, ⟨g3, _, _, rfl, _⟩, rfl⟩ := h
 exact ⟨g0, _, g1, _, g2, _, g3, _, rfl⟩

set_option maxHeartbeats 4000000 in
theorem specPrintC (m : Mo) (vs : List Value) (w : World) (h : RdVals w m.fl vs) (hs : recLen m.fl ≤ 1048576) :
  Calls Tryz.prog 7 #[agg vs] w fun e w' => ∃ v, e = .returned (.tuple #[v, .bool (moOk m)]) ∧ Printed w w' m v := by
 have yy := grown_alloc w (.cells vs.toArray 34 (0, 0)) none
 have HP := specModB m (w.alloc (.cells vs.toArray 34 (0, 0))) vs (h.below (below_grown yy)) hs
 have HQ : moOk m = true → ∀ w1, (w.alloc (.cells vs.toArray 34 (0, 0))).grownBy w1 none → Calls Tryz.prog 30 #[agg vs] w1 fun e w' => ∃ v, e = .returned v ∧ Own w' w1.heap.size v (prM m).length (prM m) ∧ w1.grownBy w' none := fun ho w1 h1 => l6printC m (by unfold moOk at ho; rw [Bool.and_eq_true] at ho; exact ho.1) w1 vs ((h.below (below_grown yy)).below (below_grown h1)) hs
 have x0 := Blk.new w 34 vs
 obtain ⟨u0, u1, u2, u3, rfl⟩ := four_of (h.len.trans (show m.fl.length = 4 from rfl))
 simp only [agg] at HQ ⊢
 clear h hs
 go_enter Tryz.func7, Tryz.ntmps7
 go_upto_region 1 with fail
 generalize w.alloc (.cells #[u0, u1, u2, u3] 34 (0, 0)) = w1 at *
 have q0 := x0.cell (i := 0) rfl
 have q1 := x0.cell (i := 1) rfl
 have q2 := x0.cell (i := 2) rfl
 have q3 := x0.cell (i := 3) rfl
 cases hf : moOk m
 ·
  have HO : Hid (moOk m = false) := hf
  rw [hf] at HP
  clear HQ hf
  go_wp2_with fail
  refine HP.mono ?_
  rintro e w2 ⟨rfl, hg⟩
  go_wp2_with fail
  refine bodyPost_ret (v := .tuple #[.slice none 0 0, .bool false]) (by simp only [results, Tryz.results7]; simp [go_sem]) rfl ⟨.slice none 0 0, by rw [HO.out], ⟨fun _ => rfl, fun h => absurd (HO.out.symm.trans h) (by simp), grown_trans yy hg⟩⟩
 ·
  have HO : Hid (moOk m = true) := hf
  have HQ2 := HQ hf
  rw [hf] at HP
  clear HQ hf
  go_wp2_with fail
  refine HP.mono ?_
  rintro e w2 ⟨rfl, hg⟩
  have H3 := HQ2 w2 hg
  replace x0 := x0.below (below_grown hg) x0.lt
  clear q0 q1 q2 q3 HP HQ2
  have q0 := x0.cell (i := 0) rfl
  have q1 := x0.cell (i := 1) rfl
  have q2 := x0.cell (i := 2) rfl
  have q3 := x0.cell (i := 3) rfl
  go_wp2_with fail
  refine H3.mono ?_
  rintro e w3 ⟨v, rfl, ho, hg3⟩
  have yf := grown_trans yy (grown_trans hg hg3)
  have HW : Hid (Own w3 w.heap.size v (prM m).length (prM m)) := ho.mono (Nat.le_trans yy.size hg.size)
  clear ho H3
  go_wp2_with fail
  refine bodyPost_ret (v := .tuple #[v, .bool true]) (by simp only [results, Tryz.results7]; simp [go_sem]) rfl ⟨v, by rw [HO.out], ⟨fun h => absurd (HO.out.symm.trans h) (by simp), fun _ => HW.out, yf⟩⟩

def prR (m : Mo) : List Int := if moOk m = true then prM m else []
theorem prR_len (m : Mo) : (prR m).length ≤ 3000 := by
 unfold prR
 split
 ·
  rename_i h
  unfold moOk at h
  simp only [Bool.and_eq_true, decide_eq_true_eq] at h
  exact h.2
 ·
  simp
theorem Printed.made {w w' : World} {m : Mo} {v : Value} (h : Printed w w' m v) : ∃ a c, v = .slice a (prR m).length c ∧ Made w w' a (prR m).length c (prR m) := by
 cases ho : moOk m
 ·
  have hv := h.no ho
  subst hv
  have e : prR m = [] := by unfold prR; rw [ho]; rfl
  rw [e]
  exact Own.made (own_none w' w.heap.size) (below_grown h.grown)
 ·
  have e : prR m = prM m := by unfold prR; rw [ho]; rfl
  rw [e]
  exact (h.yes ho).made (below_grown h.grown)

/-- A row of one's own lies outside what was marked. -/
theorem own_out {w w' : World} {base n lo hi : Nat} {v : Value} {l : List Int} (h : Own w base v n l) (hk : Out lo hi w w') (hd : ∀ k, v.ownBlock = some k → k < lo ∨ hi ≤ k) : Own w' base v n l := by
 refine ⟨⟨h.1.1, ?_⟩, h.2⟩
 rcases h.1.2 with h1 | ⟨g, cap, cur, hv, hg, hh, r⟩
 ·
  exact .inl h1
 ·
  exact .inr ⟨g, cap, cur, hv, hg, (hk.block g (Array.getElem?_eq_some_iff.1 hh).1 (hd g (by rw [hv]; rfl))).trans hh, r⟩

set_option maxHeartbeats 16000000 in
theorem print_walk (x : Mo) (vs : List Value) (w : World) (hT : Tabs w) (h : RdVals w x.fl vs) :
  Calls Tryz.prog 3 #[.agg vs.toArray] w fun e w' => e = .returned (.bool true) ∧ Below w.heap.size w w' := by
 obtain ⟨v0, v1, v2, v3, rfl⟩ : ∃ v0 v1 v2 v3, vs = [v0, v1, v2, v3] := by
  have hl := h.len
  match vs, hl with
  | [v0, v1, v2, v3], _ => exact ⟨v0, v1, v2, v3, rfl⟩
 have x0 := Blk.new w 27 [v0, v1, v2, v3]
 have y0 : Below w.heap.size w (w.alloc (.cells #[v0, v1, v2, v3] 27 (0, 0))) := (Below.refl _ _).alloc (Nat.le_refl _) _
 have Hh : Hid (RdVals w x.fl [v0, v1, v2, v3]) := h
 have HT : Hid (Tabs w) := hT
 clear h hT
 simp only [List.toArray] at x0
 go_enter Tryz.func3, Tryz.ntmps3
 go_upto_region 2 with fail
 generalize w.alloc (.cells #[v0, v1, v2, v3] 27 (0, 0)) = w0 at *
 have k0 := x0.cell (i := 0) rfl
 have k1 := x0.cell (i := 1) rfl
 have k2 := x0.cell (i := 2) rfl
 have k3 := x0.cell (i := 3) rfl
 have H1 := szMo x w [v0, v1, v2, v3] Hh.out w0 1048576 y0 (by omega) (by omega)
 simp only [List.toArray] at H1
 generalize hN0 : recLen x.fl = Nn at H1
 by_cases hs : (Nn : Int) ≤ 1048576
 ·
  rw [szL_yes hs] at H1
  have hneg : ¬ ((1048576 : Int) - (Nn : Int) < 0) := by omega
  have hsz : Hid (recLen x.fl ≤ 1048576) := by show _ ≤ _; omega
  clear hN0
  have hN := prR_len x
  have S1 : Hid (∀ us w1, RdVals w1 x.fl us → Calls Tryz.prog 7 #[agg us] w1 fun e w' => ∃ a c, e = .returned (.tuple #[.slice a (prR x).length c, .bool (moOk x)]) ∧ Made w1 w' a (prR x).length c (prR x)) := fun us w1 hr => (specPrintC x us w1 hr hsz.out).mono (by
   rintro e w' ⟨v, rfl, hp⟩
   obtain ⟨a, c, rfl, hm⟩ := hp.made
   exact ⟨a, c, rfl, hm⟩)
  have S2 : Hid (∀ us w1, Tabs w1 → RdVals w1 x.fl us → Calls Tryz.prog 9 #[agg us] w1 fun e w' => ∃ a c, e = .returned (.tuple #[.slice a (prR x).length c, .bool (moOk x)]) ∧ Made w1 w' a (prR x).length c (prR x)) := fun us w1 ht hr => (printC x us w1 ht hr hsz.out).mono (by
   rintro e w' ⟨v, rfl, hp⟩
   obtain ⟨a, c, rfl, hm⟩ := hp.made
   exact ⟨a, c, rfl, hm⟩)
  generalize moOk x = ok at S1 S2
  generalize prR x = R at *
  generalize hNN : R.length = N at *
  clear hNN
  go_wp2_with fail
  refine H1.mono ?_
  rintro e w1 ⟨rfl, hb⟩
  have x1 := x0.below hb x0.lt
  have y1 : Below w.heap.size w w1 := y0.trans (hb.mono y0.size)
  clear H1 k0 k1 k2 k3 x0 y0 hb
  have k0 := x1.cell (i := 0) rfl
  have k1 := x1.cell (i := 1) rfl
  have k2 := x1.cell (i := 2) rfl
  have k3 := x1.cell (i := 3) rfl
  have H2 := toMo x hsz.out w [v0, v1, v2, v3] Hh.out w1 y1
  simp only [List.toArray] at H2
  go_wp2_with fail
  refine H2.mono ?_
  rintro e w2 ⟨u2, rfl, hl2, hO2, hb⟩
  have x2 := x1.below hb x1.lt
  have y2 : Below w.heap.size w w2 := y1.trans (hb.mono y1.size)
  have H3 := S1.out u2 w2 hO2.vals
  simp only [agg] at H3
  clear H2 k0 k1 k2 k3 x1 y1 hb hO2
  go_wp2_with fail
  refine H3.mono ?_
  rintro e w3 ⟨bW, cW, rfl, mW⟩
  have x3 := x2.below mW.below x2.lt
  have y3 : Below w.heap.size w w3 := y2.trans (mW.below.mono y2.size)
  have OW3 : Hid (Own w3 w2.heap.size (.slice bW N cW) N R) := mW.own
  have KW : Hid (∀ k, (Value.slice bW N cW).ownBlock = some k → k < w3.heap.size) := fun k hk => (mW.block k hk).2
  clear H3 x2 y2 mW
  generalize w2.heap.size = s1 at *
  have k0 := x3.cell (i := 0) rfl
  have k1 := x3.cell (i := 1) rfl
  have k2 := x3.cell (i := 2) rfl
  have k3 := x3.cell (i := 3) rfl
  have H4 := toMo x hsz.out w [v0, v1, v2, v3] Hh.out w3 y3
  simp only [List.toArray] at H4
  go_wp2_with fail
  refine H4.mono ?_
  rintro e w4 ⟨u4, rfl, hl4, hO4, hb⟩
  have x4 := x3.below hb x3.lt
  have y4 : Below w.heap.size w w4 := y3.trans (hb.mono y3.size)
  have R4 := hO4.vals
  have OW4 : Hid (Own w4 s1 (.slice bW N cW) N R) := OW3.out.below hb
  have hw3 : w.heap.size < w3.heap.size := x3.lt
  have hsg : w3.heap.size ≤ w4.heap.size := hb.size
  obtain ⟨g0, m0, g1, m1, g2, m2, g3, m3, hu4⟩ := shapeModule hO4
  subst hu4
  have OO4 : Hid (RecHas w4 w3.heap.size w4.heap.size x.fl [.slice (some ⟨g0, 0, none⟩) m0 m0, .slice (some ⟨g1, 0, none⟩) m1 m1, .slice (some ⟨g2, 0, none⟩) m2 m2, .slice (some ⟨g3, 0, none⟩) m3 m3]) := hO4
  clear H4 k0 k1 k2 k3 x3 y3 hb hO4 OW3
  go_upto_region 7 with fail
  have z5 := Blk.new w4 34 [.slice (some ⟨g0, 0, none⟩) m0 m0, .slice (some ⟨g1, 0, none⟩) m1 m1, .slice (some ⟨g2, 0, none⟩) m2 m2, .slice (some ⟨g3, 0, none⟩) m3 m3]
  have y45 : Below w4.heap.size w4 (w4.alloc (.cells #[.slice (some ⟨g0, 0, none⟩) m0 m0, .slice (some ⟨g1, 0, none⟩) m1 m1, .slice (some ⟨g2, 0, none⟩) m2 m2, .slice (some ⟨g3, 0, none⟩) m3 m3] 34 (0, 0))) := (Below.refl _ _).alloc (Nat.le_refl _) _
  have x5 := x4.old (o := .cells #[.slice (some ⟨g0, 0, none⟩) m0 m0, .slice (some ⟨g1, 0, none⟩) m1 m1, .slice (some ⟨g2, 0, none⟩) m2 m2, .slice (some ⟨g3, 0, none⟩) m3 m3] 34 (0, 0))
  simp only [List.toArray] at z5
  generalize w4.alloc (.cells #[.slice (some ⟨g0, 0, none⟩) m0 m0, .slice (some ⟨g1, 0, none⟩) m1 m1, .slice (some ⟨g2, 0, none⟩) m2 m2, .slice (some ⟨g3, 0, none⟩) m3 m3] 34 (0, 0)) = w5 at *
  have y5 : Below w.heap.size w w5 := y4.trans (y45.mono y4.size)
  have OO5 : Hid (RecHas w5 w3.heap.size w4.heap.size x.fl [.slice (some ⟨g0, 0, none⟩) m0 m0, .slice (some ⟨g1, 0, none⟩) m1 m1, .slice (some ⟨g2, 0, none⟩) m2 m2, .slice (some ⟨g3, 0, none⟩) m3 m3]) := RecHas.stays OO4.out (Stays.of y45 (Nat.le_refl _))
  have OW5 : Hid (Own w5 s1 (.slice bW N cW) N R) := OW4.out.below y45
  have R5 := R4.below y45
  clear x4 y4 R4 y45 OO4 OW4
  generalize w4.heap.size = gx at *
  generalize w3.heap.size = s3 at *
  have k0 := z5.cell (i := 0) rfl
  have k1 := z5.cell (i := 1) rfl
  have k2 := z5.cell (i := 2) rfl
  have k3 := z5.cell (i := 3) rfl
  have H6 := S2.out _ w5 (HT.out.below y5) R5
  simp only [agg, List.toArray] at H6
  go_wp2_with fail
  refine H6.mono ?_
  rintro e w6 ⟨bG, cG, rfl, mG⟩
  have x6 := x5.below mG.below x5.lt
  have z6 := z5.below mG.below z5.lt
  have hz5 := z5.lt
  have y6 : Below w.heap.size w w6 := y5.trans (mG.below.mono y5.size)
  have R6 : Hid (RdVals w6 x.fl [.slice (some ⟨g0, 0, none⟩) m0 m0, .slice (some ⟨g1, 0, none⟩) m1 m1, .slice (some ⟨g2, 0, none⟩) m2 m2, .slice (some ⟨g3, 0, none⟩) m3 m3]) := R5.below mG.below
  have OO6 : Hid (RecHas w6 s3 gx x.fl [.slice (some ⟨g0, 0, none⟩) m0 m0, .slice (some ⟨g1, 0, none⟩) m1 m1, .slice (some ⟨g2, 0, none⟩) m2 m2, .slice (some ⟨g3, 0, none⟩) m3 m3]) := RecHas.stays OO5.out (Stays.of mG.below (by omega))
  have OW6 : Hid (Own w6 s1 (.slice bW N cW) N R) := OW5.out.below mG.below
  have OG6 : Hid (Own w6 w5.heap.size (.slice bG N cG) N R) := mG.own
  have KG : Hid (∀ k, (Value.slice bG N cG).ownBlock = some k → gx < k) := fun k hk => Nat.lt_of_lt_of_le z5.lt (mG.block k hk).1
  clear H6 k0 k1 k2 k3 x5 z5 y5 R5 mG OO5 OW5 hz5
  generalize w5.heap.size = s5 at *
  have H7 := eqT bG N cG R bW N cW w6 (Own.row OG6.out) (Own.row OW6.out) (by omega)
  have hok : (ok != ok) = false := by cases ok <;> rfl
  go_wp2_with fail
  refine H7.mono ?_
  rintro e w7 ⟨rfl, hb⟩
  have x7 := x6.below hb x6.lt
  have z7 := z6.below hb z6.lt
  have hz6 := z6.lt
  have y7 : Below w.heap.size w w7 := y6.trans (hb.mono y6.size)
  have R7 : Hid (RdVals w7 x.fl [.slice (some ⟨g0, 0, none⟩) m0 m0, .slice (some ⟨g1, 0, none⟩) m1 m1, .slice (some ⟨g2, 0, none⟩) m2 m2, .slice (some ⟨g3, 0, none⟩) m3 m3]) := RdVals.below R6.out hb
  have OO7 : Hid (RecHas w7 s3 gx x.fl [.slice (some ⟨g0, 0, none⟩) m0 m0, .slice (some ⟨g1, 0, none⟩) m1 m1, .slice (some ⟨g2, 0, none⟩) m2 m2, .slice (some ⟨g3, 0, none⟩) m3 m3]) := RecHas.stays OO6.out (Stays.of hb (by omega))
  have OW7 : Hid (Own w7 s1 (.slice bW N cW) N R) := OW6.out.below hb
  have OG7 : Hid (Own w7 s5 (.slice bG N cG) N R) := OG6.out.below hb
  have hs7 := x7.lt
  have hx7 := z7.lt
  clear H7 x6 z6 y6 R6 OO6 OW6 OG6 hb hz6
  have k0 := x7.cell (i := 0) rfl
  have k1 := x7.cell (i := 1) rfl
  have k2 := x7.cell (i := 2) rfl
  have k3 := x7.cell (i := 3) rfl
  have j0 := z7.cell (i := 0) rfl
  have j1 := z7.cell (i := 1) rfl
  have j2 := z7.cell (i := 2) rfl
  have j3 := z7.cell (i := 3) rfl
  go_wp2_with fail
  have HS : ∀ {wl : World}, Below w7.heap.size w7 wl → (wl.cell? ⟨w.heap.size, 0, none⟩ = some (v0) ∧ wl.cell? ⟨w.heap.size, 1, none⟩ = some (v1) ∧ wl.cell? ⟨w.heap.size, 2, none⟩ = some (v2) ∧ wl.cell? ⟨w.heap.size, 3, none⟩ = some (v3)) ∧ (wl.cell? ⟨gx, 0, none⟩ = some (.slice (some ⟨g0, 0, none⟩) m0 m0) ∧ wl.cell? ⟨gx, 1, none⟩ = some (.slice (some ⟨g1, 0, none⟩) m1 m1) ∧ wl.cell? ⟨gx, 2, none⟩ = some (.slice (some ⟨g2, 0, none⟩) m2 m2) ∧ wl.cell? ⟨gx, 3, none⟩ = some (.slice (some ⟨g3, 0, none⟩) m3 m3)) :=
   fun hb => ⟨⟨cell_on k0 hb, cell_on k1 hb, cell_on k2 hb, cell_on k3 hb⟩, ⟨cell_on j0 hb, cell_on j1 hb, cell_on j2 hb, cell_on j3 hb⟩⟩
  have HT7 := toMo x hsz.out w [v0, v1, v2, v3] Hh.out w7.drew y7.drew
  simp only [List.toArray] at HT7
  have HS0 := HS (wl := w7.drew) (Below.refl _ _).drew
  refine wp_region_held_drew (S := fun wl => (wl.cell? ⟨w.heap.size, 0, none⟩ = some (v0) ∧ wl.cell? ⟨w.heap.size, 1, none⟩ = some (v1) ∧ wl.cell? ⟨w.heap.size, 2, none⟩ = some (v2) ∧ wl.cell? ⟨w.heap.size, 3, none⟩ = some (v3)) ∧ (wl.cell? ⟨gx, 0, none⟩ = some (.slice (some ⟨g0, 0, none⟩) m0 m0) ∧ wl.cell? ⟨gx, 1, none⟩ = some (.slice (some ⟨g1, 0, none⟩) m1 m1) ∧ wl.cell? ⟨gx, 2, none⟩ = some (.slice (some ⟨g2, 0, none⟩) m2 m2) ∧ wl.cell? ⟨gx, 3, none⟩ = some (.slice (some ⟨g3, 0, none⟩) m3 m3))) (by kernel_rfl) HS0 (fun hHeld => ?_)
  refine tk (i := 0) (v := ?v501) rfl (by kernel_rfl) (.inl ⟨by rfl, ?y501⟩) hHeld (fun _ _ _ h => h) ?_
  case y501 => intro w hSw; (try dsimp only at hSw); go_simp; first | done | rfl
  refine tk (i := 1) (v := ?v502) rfl (by kernel_rfl) (.inl ⟨by rfl, ?y502⟩) hHeld (fun _ _ _ h => h) ?_
  case y502 => intro w hSw; (try dsimp only at hSw); go_simp; first | done | rfl
  try simp only [nrm]
  refine wpAnyH_ready (rs := [2]) (by kernel_rfl) (by simp) ?_
  refine AllReadyH.cons (i := 2) (o := ?o503) ?i503 (fun K hK => ?_) AllReadyH.nil
  case i503 => exact rfl
  go_simp
  (with_reducible refine HT7.mono ?_)
  rintro e wa ⟨ua, rfl, hla, hOa, hba⟩
  have hb7a : Below w7.heap.size w7 wa := (Below.refl w7.heap.size w7).drew.trans hba
  have HSa := HS hb7a
  have HQ8 := eqMo x hsz.out wa [.slice (some ⟨g0, 0, none⟩) m0 m0, .slice (some ⟨g1, 0, none⟩) m1 m1, .slice (some ⟨g2, 0, none⟩) m2 m2, .slice (some ⟨g3, 0, none⟩) m3 m3] ua (RdVals.below R7.out hb7a) hOa.vals wa (Below.refl _ _)
  simp only [List.toArray] at HQ8
  go_wp2_with fail
  refine hK.out _ _ (HSa) (fun hHeld => ?_)
  clear hK K
  try simp only [nrm]
  refine wpAnyH_ready (rs := [3]) (by kernel_rfl) (by simp) ?_
  refine AllReadyH.cons (i := 3) (o := ?o504) ?i504 (fun K hK => ?_) AllReadyH.nil
  case i504 => exact rfl
  go_simp
  (with_reducible refine HQ8.mono ?_)
  rintro e w8 ⟨rfl, hb8⟩
  have hb78 : Below w7.heap.size w7 w8 := hb7a.trans (hb8.mono hb7a.size)
  have HS8 := HS hb78
  go_wp2_with fail
  refine hK.out _ _ (HS8) (fun hHeld => ?_)
  clear hK K
  try simp only [nrm]
  refine tk (i := 4) (v := ?v505) rfl (by kernel_rfl) (.inl ⟨by rfl, ?y505⟩) hHeld (fun _ _ _ h => h) ?_
  case y505 => intro w hSw; (try dsimp only at hSw); go_simp; first | done | rfl
  try simp only [nrm]
  refine wpAnyH_done (by kernel_rfl) ?_ _
  have x8 := x7.below hb78 hs7
  have z8 := z7.below hb78 hx7
  have y8 : Below w.heap.size w w8 := y7.trans (hb78.mono y7.size)
  have OO8 : RecHas w8 s3 gx x.fl [.slice (some ⟨g0, 0, none⟩) m0 m0, .slice (some ⟨g1, 0, none⟩) m1 m1, .slice (some ⟨g2, 0, none⟩) m2 m2, .slice (some ⟨g3, 0, none⟩) m3 m3] := RecHas.stays OO7.out (Stays.of hb78 (by omega))
  have OW8 : Hid (Own w8 s1 (.slice bW N cW) N R) := OW7.out.below hb78
  have OG8 : Hid (Own w8 s5 (.slice bG N cG) N R) := OG7.out.below hb78
  have hz8 := z8.lt
  have H8 := mkModule x w8 s3 gx _ 1 OO8 (by omega) (by omega) (by have := hsz.out; omega)
  simp only [List.toArray] at H8
  clear HS HS0 HSa HS8 HQ8 HT7 x7 z7 y7 R7 OO7 OW7 OG7 hb7a hb78 hba hb8 hOa k0 k1 k2 k3 j0 j1 j2 j3 hs7 hx7 OO8 hz8
  have j0 := z8.cell (i := 0) rfl
  have j1 := z8.cell (i := 1) rfl
  have j2 := z8.cell (i := 2) rfl
  have j3 := z8.cell (i := 3) rfl
  go_wp2_with fail
  refine H8.mono ?_
  rintro e w9 ⟨⟨k9, rfl, hk9, _⟩, K9⟩
  have x9 := K9.blk x8 (.inl (by omega))
  have y9 : Below w.heap.size w w9 := y8.trans ⟨K9.os, K9.tape, K9.output, K9.size, fun k hk => K9.block k (Nat.lt_of_lt_of_le hk y8.size) (.inl (by omega))⟩
  have OW9 : Hid (Own w9 s1 (.slice bW N cW) N R) := own_out OW8.out K9 (fun k hk => .inl (KW.out k hk))
  have OG9 : Hid (Own w9 s5 (.slice bG N cG) N R) := own_out OG8.out K9 (fun k hk => .inr (Nat.le_of_lt (KG.out k hk)))
  clear H8 j0 j1 j2 j3 z8 x8 y8 OW8 OG8 K9
  have hM : ¬ (k9 < 0) := by omega
  have H9 := eqT bG N cG R bW N cW w9 (Own.row OG9.out) (Own.row OW9.out) (by omega)
  go_wp2_with fail
  refine H9.mono ?_
  rintro e w10 ⟨rfl, hb⟩
  have x10 := x9.below hb x9.lt
  have y10 : Below w.heap.size w w10 := y9.trans (hb.mono y9.size)
  have OW10 : Hid (Own w10 s1 (.slice bW N cW) N R) := OW9.out.below hb
  have OG10 : Hid (Own w10 s5 (.slice bG N cG) N R) := OG9.out.below hb
  clear H9 x9 y9 OW9 OG9 hb
  have H10 := markM s5 (.slice bG N cG) N R 1 w10 OG10.out (by omega) (by omega) (by omega)
  go_wp2_with fail
  refine H10.mono ?_
  rintro e w11 ⟨rfl, oG11, g11⟩
  have hgk : ∀ k, (Value.slice bG N cG).ownBlock = some k → gx < k := KG.out
  have x11 : Blk w11 w.heap.size 27 [v0, v1, v2, v3] := (g11.block w.heap.size x10.lt (fun e => by have := hgk _ e.symm; omega)).trans x10
  have y11 : Below w.heap.size w w11 := y10.grown g11 y10.size (fun k hk => by have := hgk k hk; omega)
  have OW11 : Hid (Own w11 s1 (.slice bW N cW) N R) := OW10.out.keptBy g11 (fun k hk e => by have h1 := KW.out k hk; have h2 := hgk k e; omega)
  have OG11 : Hid (Own w11 s5 (.slice bG N cG) N (marks (1 : Int).toNat N)) := oG11
  clear H10 x10 y10 OW10 OG10 oG11 g11 hgk
  have H11 := heldM bG N cG 1 w11 (Own.row OG11.out) (by omega) (by omega) (by omega)
  have hltN : ¬ ((1 : Int) + (N : Int) < 0) := by omega
  have k0 := x11.cell (i := 0) rfl
  have k1 := x11.cell (i := 1) rfl
  have k2 := x11.cell (i := 2) rfl
  have k3 := x11.cell (i := 3) rfl
  go_wp2_with fail
  refine H11.mono ?_
  rintro e w11' ⟨rfl, rfl⟩
  clear H11
  have H12 := toMo x hsz.out w [v0, v1, v2, v3] Hh.out _ y11
  simp only [List.toArray] at H12
  go_wp2_with fail
  refine H12.mono ?_
  rintro e w12 ⟨uc, rfl, hlc, hOc, hb⟩
  have y12 : Below w.heap.size w w12 := y11.trans (hb.mono y11.size)
  have OW12 : Hid (Own w12 s1 (.slice bW N cW) N R) := OW11.out.below hb
  have OG12 : Hid (Own w12 s5 (.slice bG N cG) N (marks (1 : Int).toNat N)) := OG11.out.below hb
  have H13 := S2.out uc w12 (HT.out.below y12) hOc.vals
  simp only [agg] at H13
  clear H12 k0 k1 k2 k3 x11 y11 OW11 OG11 hb hOc
  go_wp2_with fail
  refine H13.mono ?_
  rintro e w13 ⟨bH, cH, rfl, mH⟩
  have y13 : Below w.heap.size w w13 := y12.trans (mH.below.mono y12.size)
  have OW13 : Hid (Own w13 s1 (.slice bW N cW) N R) := OW12.out.below mH.below
  have OG13 : Hid (Own w13 s5 (.slice bG N cG) N (marks (1 : Int).toNat N)) := OG12.out.below mH.below
  have H14 := eqT bH N cH R bW N cW w13 mH.row (Own.row OW13.out) (by omega)
  clear H13 y12 OW12 OG12 mH
  go_wp2_with fail
  refine H14.mono ?_
  rintro e w14 ⟨rfl, hb⟩
  have y14 : Below w.heap.size w w14 := y13.trans (hb.mono y13.size)
  have OG14 : Hid (Own w14 s5 (.slice bG N cG) N (marks (1 : Int).toNat N)) := OG13.out.below hb
  have H15 := heldM bG N cG 1 w14 (Own.row OG14.out) (by omega) (by omega) (by omega)
  clear H14 y13 OW13 OG13 hb
  go_wp2_with fail
  refine H15.mono ?_
  rintro e w15 ⟨rfl, rfl⟩
  go_wp2_with fail
  go_ret
  exact ⟨rfl, y14⟩
 ·
  rw [szL_no hs] at H1
  clear hN0
  go_wp2_with fail
  refine H1.mono ?_
  rintro e w1 ⟨rfl, hb⟩
  have y1 : Below w.heap.size w w1 := y0.trans (hb.mono y0.size)
  go_wp2_with fail
  go_ret
  exact ⟨rfl, y1⟩
end Go.Proofs.YtpgjdohgohabdaaGreatDoor

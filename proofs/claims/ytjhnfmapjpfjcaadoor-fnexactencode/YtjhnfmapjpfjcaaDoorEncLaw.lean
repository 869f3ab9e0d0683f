/- The law of Encode returns true at every slice of instructions, and writes nothing that was there. -/
import Derived.Test.YtjhnfmapjpfjcaaDoorEncImpl
import Derived.Deep.Slices
import Derived.WideShapes
import Derived.ChangeArms
namespace Go.Proofs.YtjhnfmapjpfjcaaDoor
open Go.RowKit Go.WideShapes Go.ChangeShapes
set_option linter.unusedVariables false
set_option linter.unusedSimpArgs false
set_option maxRecDepth 100000

def FitsI (x : In6) : Prop := Fits6 x.o x.a x.b x.c x.n x.m
instance : Inhabited In6 := ⟨zeroI⟩

theorem open_i6 {H : Type} {enc : TypeId × Value → H} {w : World} {base : Nat} {spare : Nat → Bool} {held : Bool} {fuel : Nat} {cs : List Value} {y : DataW H × List MemPlace}
    (h : DataW.trod enc Tryd.prog w base spare held fuel 23 cs = some y) : ∃ x : In6, cs = x.vals ∧ FitsI x := by
  have ht : Tryd.prog.underlying 23 = some (.struct (Tryd.prog.fieldsOf 23)) := by kernel_rfl
  have hf : Tryd.prog.fieldsOf 23 = #[⟨ "Op", 3, 0, false, "", "", 0⟩, ⟨ "A", 3, 1, false, "", "", 8⟩, ⟨ "B", 3, 2, false, "", "", 16⟩, ⟨ "C", 3, 3, false, "", "", 24⟩, ⟨ "N", 3, 4, false, "", "", 32⟩, ⟨ "M", 3, 5, false, "", "", 40⟩] := by kernel_rfl
  have hc : Tryd.prog.cellsOf 23 = 6 := by kernel_rfl
  have c1 : Tryd.prog.cellsOf 3 = 1 := by kernel_rfl
  have ui : Tryd.prog.underlying 3 = some (.int .i64) := by kernel_rfl
  rw [hf] at ht
  obtain ⟨xs, k, _, _, hlen, hxl, hg⟩ := DataW.trod_struct ht h
  rw [hc] at hlen
  match cs, hlen with
  | [v1, v2, v3, v4, v5, v6], _ =>
    match xs, hxl with
    | [y1, y2, y3, y4, y5, y6], _ =>
      have g1 := hg 0 _ rfl
      have g2 := hg 1 _ rfl
      have g3 := hg 2 _ rfl
      have g4 := hg 3 _ rfl
      have g5 := hg 4 _ rfl
      have g6 := hg 5 _ rfl
      simp [c1] at g1 g2 g3 g4 g5 g6
      obtain ⟨n, e1, _, f1⟩ := DataW.trod_int ui g1
      obtain ⟨l, e2, _, f2⟩ := DataW.trod_int ui g2
      obtain ⟨hh, e3, _, f3⟩ := DataW.trod_int ui g3
      obtain ⟨a, e4, _, f4⟩ := DataW.trod_int ui g4
      obtain ⟨p, e5, _, f5⟩ := DataW.trod_int ui g5
      obtain ⟨s, e6, _, f6⟩ := DataW.trod_int ui g6
      simp at e1 e2 e3 e4 e5 e6
      exact ⟨⟨n, l, hh, a, p, s⟩, by simp [In6.vals, e1, e2, e3, e4, e5, e6], f1, f2, f3, f4, f5, f6⟩

theorem flatI_cells (X : Nat → In6) (n j : Nat) (v : Value) (h : (flatI ((List.range n).map X))[j]? = some v) : j / 6 < n ∧ (X (j / 6)).vals[j % 6]? = some v := by
  have hj : j < n * 6 := by
    have := (List.getElem?_eq_some_iff.1 h).1
    rw [flatI_len] at this; simpa using this
  have hk : ((List.range n).map X)[j / 6]? = some (X (j / 6)) := by simp; exact ⟨j / 6, by rw [List.getElem?_range (by omega)], rfl⟩
  have e : j = (j / 6) * 6 + j % 6 := by omega
  refine ⟨by omega, ?_⟩
  rw [← flatI_at _ _ _ (Nat.mod_lt _ (by omega)) _ hk, ← e]
  exact h

theorem open_insS {H : Type} {enc : TypeId × Value → H} {w : World} {base b0 : Nat} {spare : Nat → Bool} {held : Bool} {v : Value} {d : DataW H} {ps : List MemPlace}
    (hv : Value.okWide Tryd.prog w .any b0 28 v) (h : DataW.Trod enc Tryd.prog w base spare held 28 v d ps) :
    ∃ (a : Option Addr) (n c : Nat) (l : List In6), v = .slice a n c ∧ n ≤ c ∧ c ≤ maxLen ∧ IRow w a n l ∧ ∀ x ∈ l, FitsI x := by
  have hcw : Tryd.prog.cellsOf 23 = 6 := by kernel_rfl
  have us : Tryd.prog.underlying 28 = some (.slice 23) := by kernel_rfl
  obtain ⟨a0, n0, c0, rfl⟩ := okWide_slice us hv
  obtain ⟨fuel, g0⟩ := h
  rcases Deep.open_slice us g0 with ⟨e, _⟩ | ⟨a, len, cap, m, q, D, Pl, e, _, hl, hm, hmm, _, hx⟩
  · simp [Value.cells] at e
    obtain ⟨rfl, rfl, rfl⟩ := e
    exact ⟨none, 0, 0, [], rfl, Nat.le_refl _, by unfold maxLen; omega, ⟨rfl, fun h => absurd h (by omega)⟩, by simp⟩
  · simp [Value.cells] at e
    obtain ⟨rfl, rfl, rfl⟩ := e
    have hlm : n0 ≤ m := by rw [hmm]; split <;> omega
    rw [hcw] at hx
    obtain ⟨X, hX⟩ := Deep.choose_lt (α := In6) (n := n0) (p := fun i x => (∀ j, j < 6 → w.cell? (a.add (i * 6 + j)) = x.vals[j]?) ∧ FitsI x) (fun i hi => by
      obtain ⟨cs', h1, h2⟩ := hx i (by omega)
      obtain ⟨x, rfl, hfx⟩ := open_i6 h2
      obtain ⟨_, _, hcell⟩ := World.cells?_some h1
      refine ⟨x, fun j hj => ?_, hfx⟩
      have := hcell j hj
      rwa [Deep.add_add] at this)
    refine ⟨some a, n0, c0, (List.range n0).map X, rfl, hl, hm, ⟨by simp, fun hn => ?_⟩, ?_⟩
    · obtain ⟨b, off, spot⟩ := a
      have h0 := (hX 0 hn).1 0 (by omega)
      have hspot : spot = none := by simpa [Addr.add] using World.cell?_spot (show w.cell? _ = some (.int .i64 (X 0).o) from h0)
      subst hspot
      refine ⟨b, off, rfl, fun j v hj => ?_⟩
      obtain ⟨hlt, hjv⟩ := flatI_cells X n0 j v hj
      have := (hX (j / 6) hlt).1 (j % 6) (Nat.mod_lt _ (by omega))
      rw [Addr.add_lit, show j / 6 * 6 + j % 6 = j by omega, hjv] at this
      exact this
    · intro x hx'
      obtain ⟨i, hi, rfl⟩ := List.mem_map.1 hx'
      exact (hX i (List.mem_range.1 hi)).2

theorem specEncT (a : Option Addr) (n c : Nat) (l : List In6) (w : World) (h : IRow w a n l) (hn : n ≤ 1048576) :
    Calls Tryd.prog 10 #[.slice a n c] w fun e w' => ∃ a' c', e = .returned (.tuple #[.slice a' (encR l n).length c', .bool (encOk l n)]) ∧ Made w w' a' (encR l n).length c' (encR l n) := by
  refine (specEncodeM a n c l w h hn).mono ?_
  rintro e w' ⟨v, rfl, ho, hb⟩
  obtain ⟨a', c', rfl, hm⟩ := ho.made hb
  exact ⟨a', c', rfl, hm⟩

theorem implEncT (a : Option Addr) (n c : Nat) (l : List In6) (w : World) (h : IRow w a n l) (hn : n ≤ 1048576) (hO : Ops w) :
    Calls Tryd.prog 12 #[.slice a n c] w fun e w' => ∃ a' c', e = .returned (.tuple #[.slice a' (encR l n).length c', .bool (encOk l n)]) ∧ Made w w' a' (encR l n).length c' (encR l n) := by
  refine (implEncodeM a n c l w h hn hO).mono ?_
  rintro e w' ⟨v, rfl, ho, hb⟩
  obtain ⟨a', c', rfl, hm⟩ := ho.made hb
  exact ⟨a', c', rfl, hm⟩

theorem But.grows {w w' : World} {g : Nat} (h : But w w' g) (hs : w.heap.size ≤ w'.heap.size) : w.grownBy w' (some g) :=
  ⟨h.below.os, h.below.tape, h.below.output, hs, fun b hb hne => h.rest b hb (fun e => hne (by rw [e]))⟩
theorem But.size {w w' : World} {g : Nat} (h : But w w' g) (hg : g < w.heap.size) : w.heap.size ≤ w'.heap.size := h.below.size

theorem encR_len (l : List In6) (n : Nat) (hl : l.length = n) : (encR l n).length ≤ 48000 := by
  unfold encR
  cases h : encOk l n
  · simp
  · have h4 : n ≤ 4000 := by simp [encOk] at h; exact h.1
    simp only [cond_true]
    rw [encL_len, hl]
    omega

set_option maxHeartbeats 8000000 in
theorem encode_walk (w : World) (hO : Ops w) (a : Option Addr) (n c : Nat) (l : List In6) (hnc : n ≤ c) (hcm : c ≤ maxLen) (h : IRow w a n l) (hf : ∀ x ∈ l, FitsI x) :
    Calls Tryd.prog 4 #[.slice a n c] w fun e w' => e = .returned (.bool true) ∧ Below w.heap.size w w' := by
  have hn0 : n ≤ 9223372036854775807 := by unfold maxLen at hcm; omega
  have HSz := fun w => szIS a n c w hn0
  have hl : l.length = n := h.1
  have hR := encR_len l n hl
  have HH : Hid (IRow w a n l) := h
  have HO : Hid (Ops w) := hO
  have HL : Hid (l.length = n) := hl
  clear hcm hnc hf hO h hl
  by_cases hn : n ≤ 1048576
  · simp only [if_pos hn] at HSz
    have H1 := fun a c w h => specEncT a n c l w h hn
    have H2 := fun a c w h hO => implEncT a n c l w h hn hO
    generalize encOk l n = ok at *
    generalize encR l n = R at *
    generalize hN : R.length = N at *
    clear hN
    have hlt : ¬ ((1048576 : Int) - (n : Int) < 0) := by omega
    have hlt6 : ¬ ((1 : Int) + 6 * (n : Int) < 0) := by omega
    have hltN : ¬ ((1 : Int) + (N : Int) < 0) := by omega
    go_enter Tryd.func4, Tryd.ntmps4
    go_wp2_with fail
    refine (HSz _).mono ?_
    rintro e w0 ⟨rfl, rfl⟩
    clear HSz
    go_wp2_with fail
    refine (toIS a n c l _ HH.out hn).mono ?_
    rintro e w1 ⟨rfl, hw1, hb1⟩
    have HW1 : Hid _ := hw1
    have HB1 : Hid (Below w0.heap.size w0 w1) := hb1
    clear hw1 hb1
    go_wp2_with fail
    refine (H1 _ _ _ (IB.row HW1.out HL.out)).mono ?_
    rintro e w2 ⟨bW, cW, rfl, mW⟩
    have HB2 : Hid (Below w0.heap.size w0 w2) := HB1.out.trans (mW.below.mono HB1.out.size)
    have OW2 : Hid (Own w2 w1.heap.size (.slice bW N cW) N R) := mW.own
    have KW : Hid (∀ k, (Value.slice bW N cW).ownBlock = some k → k < w2.heap.size) := fun k hk => (mW.block k hk).2
    clear mW HW1 HB1
    go_wp2_with fail
    refine (toIS a n c l _ (HH.out.below HB2.out) hn).mono ?_
    rintro e w3 ⟨rfl, hw3, hb3⟩
    have HX3 : Hid (IB w3 w2.heap.size l) := hw3
    have HB3 : Hid (Below w0.heap.size w0 w3) := HB2.out.trans (hb3.mono HB2.out.size)
    have OW3 : Hid (Own w3 w1.heap.size (.slice bW N cW) N R) := OW2.out.below hb3
    have S2 : Hid (w0.heap.size ≤ w2.heap.size) := HB2.out.size
    clear hw3 hb3 HB2 OW2
    generalize w2.heap.size = gx at *
    generalize w1.heap.size = s1 at *
    go_wp2_with fail
    refine (H2 _ _ _ (IB.row HX3.out HL.out) (HO.out.below HB3.out)).mono ?_
    rintro e w4 ⟨bG, cG, rfl, mG⟩
    have HB4 : Hid (Below w0.heap.size w0 w4) := HB3.out.trans (mG.below.mono HB3.out.size)
    have OG4 : Hid (Own w4 w3.heap.size (.slice bG N cG) N R) := mG.own
    have KG : Hid (∀ k, (Value.slice bG N cG).ownBlock = some k → gx < k) := fun k hk => Nat.lt_of_lt_of_le HX3.out.lt (mG.block k hk).1
    have KG2 : Hid (∀ k, (Value.slice bG N cG).ownBlock = some k → w0.heap.size ≤ k) := fun k hk => Nat.le_trans HB3.out.size (mG.block k hk).1
    have OW4 : Hid (Own w4 s1 (.slice bW N cW) N R) := OW3.out.below mG.below
    have HX4 : Hid (IB w4 gx l) := HX3.out.below mG.below HX3.out.lt
    clear mG HX3 HB3 OW3
    generalize w3.heap.size = s3 at *
    go_wp2_with fail
    refine (eqT _ _ _ R _ _ _ _ OG4.out.row OW4.out.row (by omega)).mono ?_
    rintro e w5 ⟨rfl, q5⟩
    have HB5 : Hid (Below w0.heap.size w0 w5) := HB4.out.trans (q5.mono HB4.out.size)
    have OG5 : Hid (Own w5 s3 (.slice bG N cG) N R) := OG4.out.below q5
    have OW5 : Hid (Own w5 s1 (.slice bW N cW) N R) := OW4.out.below q5
    have HX5 : Hid (IB w5 gx l) := HX4.out.below q5 HX4.out.lt
    clear q5 HB4 OG4 OW4 HX4
    go_wp2_with fail
    refine (toIS a n c l _ (HH.out.below HB5.out) hn).mono ?_
    rintro e w6 ⟨rfl, hw6, hb6⟩
    have HY6 : Hid (IB w6 w5.heap.size l) := hw6
    have HB6 : Hid (Below w0.heap.size w0 w6) := HB5.out.trans (hb6.mono HB5.out.size)
    have OG6 : Hid (Own w6 s3 (.slice bG N cG) N R) := OG5.out.below hb6
    have OW6 : Hid (Own w6 s1 (.slice bW N cW) N R) := OW5.out.below hb6
    have HX6 : Hid (IB w6 gx l) := HX5.out.below hb6 HX5.out.lt
    clear hw6 hb6 HB5 OG5 OW5 HX5
    go_wp2_with fail
    refine (eqIS _ n _ l _ _ _ (IB.row HX6.out HL.out) (IB.row HY6.out HL.out) hn).mono ?_
    rintro e w7 ⟨rfl, q7⟩
    have HB7 : Hid (Below w0.heap.size w0 w7) := HB6.out.trans (q7.mono HB6.out.size)
    have OG7 : Hid (Own w7 s3 (.slice bG N cG) N R) := OG6.out.below q7
    have OW7 : Hid (Own w7 s1 (.slice bW N cW) N R) := OW6.out.below q7
    have HX7 : Hid (IB w7 gx l) := HX6.out.below q7 HX6.out.lt
    clear q7 HB6 OG6 OW6 HX6 HY6
    go_wp2_with fail
    refine (markIS gx n _ l _ HX7.out HL.out hn).mono ?_
    rintro e w8 ⟨rfl, g8⟩
    have G8 := g8.grows g8.below.size
    have HB8 : Hid (Below w0.heap.size w0 w8) := HB7.out.trans (g8.below.mono S2.out)
    have OG8 : Hid (Own w8 s3 (.slice bG N cG) N R) := OG7.out.keptBy G8 (fun k hk e => by have := KG.out k hk; cases e; omega)
    have OW8 : Hid (Own w8 s1 (.slice bW N cW) N R) := OW7.out.keptBy G8 (fun k hk e => by have := KW.out k hk; cases e; omega)
    clear g8 G8 HB7 OG7 OW7 HX7
    go_wp2_with fail
    refine (eqT _ _ _ R _ _ _ _ OG8.out.row OW8.out.row (by omega)).mono ?_
    rintro e w9 ⟨rfl, q9⟩
    have HB9 : Hid (Below w0.heap.size w0 w9) := HB8.out.trans (q9.mono HB8.out.size)
    have OG9 : Hid (Own w9 s3 (.slice bG N cG) N R) := OG8.out.below q9
    have OW9 : Hid (Own w9 s1 (.slice bW N cW) N R) := OW8.out.below q9
    clear q9 HB8 OG8 OW8
    go_wp2_with fail
    refine (markM _ _ _ R _ _ OG9.out (by omega) (by omega) (by omega)).mono ?_
    rintro e w10 ⟨rfl, oG10, g10⟩
    have HB10 : Hid (Below w0.heap.size w0 w10) := HB9.out.grown g10 HB9.out.size (fun k hk => KG2.out k hk)
    have OW10 : Hid (Own w10 s1 (.slice bW N cW) N R) := OW9.out.keptBy g10 (fun k hk e => by have := KW.out k hk; have := KG.out k e; omega)
    have OG10 : Hid (Own w10 s3 (.slice bG N cG) N (marks (1 : Int).toNat N)) := oG10
    clear oG10 g10 HB9 OG9 OW9
    go_wp2_with fail
    refine (heldM _ _ _ _ _ OG10.out.row (by omega) (by omega) (by omega)).mono ?_
    rintro e w10' ⟨rfl, rfl⟩
    go_wp2_with fail
    refine (toIS a n c l _ (HH.out.below HB10.out) hn).mono ?_
    rintro e w11 ⟨rfl, hw11, hb11⟩
    have HY11 : Hid _ := hw11
    have HB11 : Hid (Below w0.heap.size w0 w11) := HB10.out.trans (hb11.mono HB10.out.size)
    have OG11 : Hid (Own w11 s3 (.slice bG N cG) N (marks (1 : Int).toNat N)) := OG10.out.below hb11
    have OW11 : Hid (Own w11 s1 (.slice bW N cW) N R) := OW10.out.below hb11
    clear hw11 hb11 HB10 OG10 OW10
    go_wp2_with fail
    refine (H2 _ _ _ (IB.row HY11.out HL.out) (HO.out.below HB11.out)).mono ?_
    rintro e w12 ⟨b12, c12, rfl, m12⟩
    have HB12 : Hid (Below w0.heap.size w0 w12) := HB11.out.trans (m12.below.mono HB11.out.size)
    have OG12 : Hid (Own w12 s3 (.slice bG N cG) N (marks (1 : Int).toNat N)) := OG11.out.below m12.below
    have OW12 : Hid (Own w12 s1 (.slice bW N cW) N R) := OW11.out.below m12.below
    have R12 : Hid (BRow w12 b12 N R) := m12.row
    clear m12 HB11 OG11 OW11 HY11
    go_wp2_with fail
    refine (eqT _ _ _ R _ _ _ _ R12.out OW12.out.row (by omega)).mono ?_
    rintro e w13 ⟨rfl, q13⟩
    have HB13 : Hid (Below w0.heap.size w0 w13) := HB12.out.trans (q13.mono HB12.out.size)
    have OG13 : Hid (Own w13 s3 (.slice bG N cG) N (marks (1 : Int).toNat N)) := OG12.out.below q13
    clear q13 HB12 OG12 OW12 R12
    go_wp2_with fail
    refine (heldM _ _ _ _ _ OG13.out.row (by omega) (by omega) (by omega)).mono ?_
    rintro e w13' ⟨rfl, rfl⟩
    go_wp2_with fail
    go_ret
    exact ⟨rfl, HB13.out⟩
  · simp only [if_neg hn] at HSz
    go_enter Tryd.func4, Tryd.ntmps4
    go_wp2_with fail
    refine (HSz _).mono ?_
    rintro e w0 ⟨rfl, rfl⟩
    go_wp2_with fail
    go_ret
    exact ⟨rfl, Below.refl _ _⟩
end Go.Proofs.YtjhnfmapjpfjcaaDoor

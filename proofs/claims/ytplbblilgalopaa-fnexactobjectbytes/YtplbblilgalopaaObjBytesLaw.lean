/- The law of ObjectBytes returns true at every object, and writes nothing that was there. -/
import Derived.Test.YtplbblilgalopaaObjBytes
import Derived.Test.YtplbblilgalopaaObjCopy
import Derived.Test.YtplbblilgalopaaObjOpen
import Derived.Test.YtplbblilgalopaaMarkO
namespace Go.Proofs.Ytplbblilgalopaa
open Go.RowKit
set_option linter.unusedVariables false
set_option linter.unusedSimpArgs false
set_option maxRecDepth 100000

theorem obR_len (b : Ob) : (obR b).length ≤ 100000 := by
  unfold obR
  split
  · rename_i h
    obtain ⟨l1, l2, l3⟩ := objOk_lens h
    have h1 := objB2_len b l1
    have h2 := listB_len imB_len b.im
    have h3 := putL_len b.data
    have h4 := putL_len (b.code.length : Int)
    unfold objB
    simp only [List.length_append]
    omega
  · simp

theorem Own.keep {w w' : World} {base n : Nat} {v : Value} {l : List Int} {os : List (Option Nat)} (h : Own w base v n l) (hk : KeepO os w w') (hd : v.ownBlock = none ∨ v.ownBlock ∉ os) : Own w' base v n l := by
  refine ⟨⟨h.1.1, ?_⟩, h.2⟩
  rcases h.1.2 with hn | ⟨g, cap, cur, hv, hg, hh, r⟩
  · exact .inl hn
  · refine .inr ⟨g, cap, cur, hv, hg, ?_, r⟩
    rw [hk.block g (Array.getElem?_eq_some_iff.1 hh).1 (by rw [hv] at hd; simpa [Value.ownBlock] using hd)]
    exact hh

set_option maxHeartbeats 8000000 in
theorem objbytes_walk (w : World) (o : O5) (b : Ob) (h : ORead w o b) :
    Calls Try.prog 4 #[.agg #[o.x, o.e, o.i, o.d, o.c]] w fun e w' => e = .returned (.bool true) ∧ Below w.heap.size w w' := by
  have x0 := B5.new w 26 o
  have y0 : Below w.heap.size w (w.alloc (.cells #[o.x, o.e, o.i, o.d, o.c] 26 (0, 0))) := (Below.refl _ _).alloc (Nat.le_refl _) _
  have Hh : Hid (ORead w o b) := h
  clear h
  go_enter Try.func4, Try.ntmps4
  go_upto_region 2 with fail
  generalize w.alloc (.cells #[o.x, o.e, o.i, o.d, o.c] 26 (0, 0)) = w0 at *
  obtain ⟨k0, k1, k2, k3, k4⟩ := x0.facts
  have H1 := szObjectM o b w0 (ORead.below Hh.out y0)
  by_cases hs : ((osz b : Nat) : Int) ≤ 1048576
  · rw [szL_yes hs] at H1
    have hneg : ¬ ((1048576 : Int) - (osz b : Int) < 0) := by omega
    have hsz : osz b ≤ 1048576 := by omega
    have hN := obR_len b
    have S1 := fun o w h => specObjectBytesM o b w h hsz
    have S2 := fun o w h => implObjectBytesM o b w h hsz
    generalize objOk b = ok at *
    generalize obR b = R at *
    generalize hNN : R.length = N at *
    clear hNN
    go_wp2_with fail
    refine H1.mono ?_
    rintro e w1 ⟨rfl, hb⟩
    have x1 := x0.below hb x0.lt
    have y1 : Below w.heap.size w w1 := y0.trans (hb.mono y0.size)
    clear H1 k0 k1 k2 k3 k4 x0 y0 hb
    obtain ⟨k0, k1, k2, k3, k4⟩ := x1.facts
    have H2 := toObjectM o b w1 (ORead.below Hh.out y1) hsz
    go_wp2_with fail
    refine H2.mono ?_
    rintro e w2 ⟨o2, lE2, lI2, rfl, hO2, hb⟩
    have x2 := x1.below hb x1.lt
    have y2 : Below w.heap.size w w2 := y1.trans (hb.mono y1.size)
    have H3 := S1 o2 w2 (hO2.read Hh.out.exs Hh.out.ims)
    clear H2 k0 k1 k2 k3 k4 x1 y1 hb hO2
    go_wp2_with fail
    refine H3.mono ?_
    rintro e w3 ⟨bW, cW, rfl, mW⟩
    have x3 := x2.below mW.below x2.lt
    have y3 : Below w.heap.size w w3 := y2.trans (mW.below.mono y2.size)
    have OW3 : Hid (Own w3 w2.heap.size (.slice bW N cW) N R) := mW.own
    have KW : Hid (∀ k, (Value.slice bW N cW).ownBlock = some k → k < w3.heap.size) := fun k hk => (mW.block k hk).2
    clear H3 x2 y2 mW
    generalize w2.heap.size = s1 at *
    obtain ⟨k0, k1, k2, k3, k4⟩ := x3.facts
    have H4 := toObjectM o b w3 (ORead.below Hh.out y3) hsz
    go_wp2_with fail
    refine H4.mono ?_
    rintro e w4 ⟨o4, lE4, lI4, rfl, hO4, hb⟩
    have x4 := x3.below hb x3.lt
    have y4 : Below w.heap.size w w4 := y3.trans (hb.mono y3.size)
    have R4 := hO4.read Hh.out.exs Hh.out.ims
    have OW4 : Hid (Own w4 s1 (.slice bW N cW) N R) := OW3.out.below hb
    have HLO : Hid (∀ g, some g ∈ ownsO o4 lE4 lI4 → w3.heap.size ≤ g ∧ g < w4.heap.size) := hO4.bk.1
    have hw3 : w.heap.size < w3.heap.size := x3.lt
    have hsg : w3.heap.size ≤ w4.heap.size := hb.size
    have OO4 : Hid (OOwn w4 w3.heap.size o4 b lE4 lI4) := hO4
    clear H4 k0 k1 k2 k3 k4 x3 y3 hb hO4 OW3
    obtain ⟨a1, c1, a2, c2, a3, c3, a4, c4, e4⟩ := R4.shape
    obtain ⟨sx, se, si, sd, sc⟩ := o4
    simp only [O5.mk.injEq] at e4
    obtain ⟨rfl, rfl, rfl, rfl, rfl⟩ := e4
    simp only
    go_upto_region 7 with fail
    have z5 := B5.new w4 32 ⟨.slice a1 b.name.length c1, .slice a2 b.ex.length c2, .slice a3 b.im.length c3, .int .i64 b.data, .slice a4 b.code.length c4⟩
    have y45 : Below w4.heap.size w4 (w4.alloc (.cells #[.slice a1 b.name.length c1, .slice a2 b.ex.length c2, .slice a3 b.im.length c3, .int .i64 b.data, .slice a4 b.code.length c4] 32 (0, 0))) := (Below.refl _ _).alloc (Nat.le_refl _) _
    have x5 := x4.old (ob := .cells #[.slice a1 b.name.length c1, .slice a2 b.ex.length c2, .slice a3 b.im.length c3, .int .i64 b.data, .slice a4 b.code.length c4] 32 (0, 0))
    simp only at z5
    generalize w4.alloc (.cells #[.slice a1 b.name.length c1, .slice a2 b.ex.length c2, .slice a3 b.im.length c3, .int .i64 b.data, .slice a4 b.code.length c4] 32 (0, 0)) = w5 at *
    have y5 : Below w.heap.size w w5 := y4.trans (y45.mono y4.size)
    have OO5 : Hid (OOwn w5 w3.heap.size ⟨.slice a1 b.name.length c1, .slice a2 b.ex.length c2, .slice a3 b.im.length c3, .int .i64 b.data, .slice a4 b.code.length c4⟩ b lE4 lI4) := OO4.out.below y45
    have OW5 : Hid (Own w5 s1 (.slice bW N cW) N R) := OW4.out.below y45
    have R5 := R4.below y45
    clear x4 y4 R4 y45 OO4 OW4
    generalize w4.heap.size = gx at *
    generalize w3.heap.size = s3 at *
    obtain ⟨k0, k1, k2, k3, k4⟩ := z5.facts
    have H6 := S2 ⟨.slice a1 b.name.length c1, .slice a2 b.ex.length c2, .slice a3 b.im.length c3, .int .i64 b.data, .slice a4 b.code.length c4⟩ w5 R5
    simp only at H6 k0 k1 k2 k3 k4
    go_wp2_with fail
    refine H6.mono ?_
    rintro e w6 ⟨bG, cG, rfl, mG⟩
    have x6 := x5.below mG.below x5.lt
    have z6 := z5.below mG.below z5.lt
    have y6 : Below w.heap.size w w6 := y5.trans (mG.below.mono y5.size)
    have R6 : Hid (ORead w6 ⟨.slice a1 b.name.length c1, .slice a2 b.ex.length c2, .slice a3 b.im.length c3, .int .i64 b.data, .slice a4 b.code.length c4⟩ b) := R5.below mG.below
    have OO6 : Hid (OOwn w6 s3 ⟨.slice a1 b.name.length c1, .slice a2 b.ex.length c2, .slice a3 b.im.length c3, .int .i64 b.data, .slice a4 b.code.length c4⟩ b lE4 lI4) := OO5.out.below mG.below
    have OW6 : Hid (Own w6 s1 (.slice bW N cW) N R) := OW5.out.below mG.below
    have OG6 : Hid (Own w6 w5.heap.size (.slice bG N cG) N R) := mG.own
    have KG : Hid (∀ k, (Value.slice bG N cG).ownBlock = some k → gx < k) := fun k hk => Nat.lt_of_lt_of_le z5.lt (mG.block k hk).1
    clear H6 k0 k1 k2 k3 k4 x5 z5 y5 R5 mG OO5 OW5
    generalize w5.heap.size = s5 at *
    have H7 := eqT bG N cG R bW N cW w6 (Own.row OG6.out) (Own.row OW6.out) (by omega)
    have hok : (ok != ok) = false := by cases ok <;> rfl
    go_wp2_with fail
    refine H7.mono ?_
    rintro e w7 ⟨rfl, hb⟩
    have x7 := x6.below hb x6.lt
    have z7 := z6.below hb z6.lt
    have y7 : Below w.heap.size w w7 := y6.trans (hb.mono y6.size)
    have R7 : Hid (ORead w7 ⟨.slice a1 b.name.length c1, .slice a2 b.ex.length c2, .slice a3 b.im.length c3, .int .i64 b.data, .slice a4 b.code.length c4⟩ b) := ORead.below R6.out hb
    have OO7 : Hid (OOwn w7 s3 ⟨.slice a1 b.name.length c1, .slice a2 b.ex.length c2, .slice a3 b.im.length c3, .int .i64 b.data, .slice a4 b.code.length c4⟩ b lE4 lI4) := OO6.out.below hb
    have OW7 : Hid (Own w7 s1 (.slice bW N cW) N R) := OW6.out.below hb
    have OG7 : Hid (Own w7 s5 (.slice bG N cG) N R) := OG6.out.below hb
    have hs7 := x7.lt
    have hx7 := z7.lt
    clear H7 x6 z6 y6 R6 OO6 OW6 OG6 hb
    obtain ⟨k0, k1, k2, k3, k4⟩ := x7.facts
    obtain ⟨j0, j1, j2, j3, j4⟩ := z7.facts
    simp only at j0 j1 j2 j3 j4
    go_wp2_with fail
    have HS : ∀ {wl : World}, Below w7.heap.size w7 wl → (wl.cell? ⟨w.heap.size, 0, none⟩ = some o.x ∧ wl.cell? ⟨w.heap.size, 1, none⟩ = some o.e ∧ wl.cell? ⟨w.heap.size, 2, none⟩ = some o.i ∧ wl.cell? ⟨w.heap.size, 3, none⟩ = some o.d ∧ wl.cell? ⟨w.heap.size, 4, none⟩ = some o.c) ∧ (wl.cell? ⟨gx, 0, none⟩ = some (.slice a1 b.name.length c1) ∧ wl.cell? ⟨gx, 1, none⟩ = some (.slice a2 b.ex.length c2) ∧ wl.cell? ⟨gx, 2, none⟩ = some (.slice a3 b.im.length c3) ∧ wl.cell? ⟨gx, 3, none⟩ = some (.int .i64 b.data) ∧ wl.cell? ⟨gx, 4, none⟩ = some (.slice a4 b.code.length c4)) := fun hb => ⟨(x7.below hb hs7).facts, (z7.below hb hx7).facts⟩
    have HS0 := HS (wl := w7.drew) (Below.refl _ _).drew
    refine wp_region_held_drew (S := fun wl => (wl.cell? ⟨w.heap.size, 0, none⟩ = some o.x ∧ wl.cell? ⟨w.heap.size, 1, none⟩ = some o.e ∧ wl.cell? ⟨w.heap.size, 2, none⟩ = some o.i ∧ wl.cell? ⟨w.heap.size, 3, none⟩ = some o.d ∧ wl.cell? ⟨w.heap.size, 4, none⟩ = some o.c) ∧ (wl.cell? ⟨gx, 0, none⟩ = some (.slice a1 b.name.length c1) ∧ wl.cell? ⟨gx, 1, none⟩ = some (.slice a2 b.ex.length c2) ∧ wl.cell? ⟨gx, 2, none⟩ = some (.slice a3 b.im.length c3) ∧ wl.cell? ⟨gx, 3, none⟩ = some (.int .i64 b.data) ∧ wl.cell? ⟨gx, 4, none⟩ = some (.slice a4 b.code.length c4))) (by kernel_rfl) HS0 (fun hHeld => ?_)
    refine wpAnyH_take (i := 0) (oi := ?o501) (v := ?v501) ?i501 (by kernel_rfl) (by kernel_rfl) (by kernel_rfl) ?q501 ?y501 (hHeld) ?r501
    case i501 => exact rfl
    case q501 => exact (fun _ _ _ h => h)
    case y501 =>
      refine Or.inl ⟨by rfl, ?_⟩
      intro w hSw
      (try dsimp only at hSw)
      go_simp
      first | done | rfl
    try simp only [Act.put, List.getElem_toArray, List.getElem_cons_zero, List.getElem_cons_succ, List.setIfInBounds_toArray, List.set_cons_zero, List.set_cons_succ]
    refine wpAnyH_take (i := 1) (oi := ?o502) (v := ?v502) ?i502 (by kernel_rfl) (by kernel_rfl) (by kernel_rfl) ?q502 ?y502 (hHeld) ?r502
    case i502 => exact rfl
    case q502 => exact (fun _ _ _ h => h)
    case y502 =>
      refine Or.inl ⟨by rfl, ?_⟩
      intro w hSw
      (try dsimp only at hSw)
      go_simp
      first | done | rfl
    try simp only [Act.put, List.getElem_toArray, List.getElem_cons_zero, List.getElem_cons_succ, List.setIfInBounds_toArray, List.set_cons_zero, List.set_cons_succ]
    refine wpAnyH_ready (rs := [2]) (by kernel_rfl) (by simp) ?_
    refine AllReadyH.cons (i := 2) (o := ?o503) ?i503 (fun K hK => ?_) AllReadyH.nil
    case i503 => exact rfl
    go_simp
    (with_reducible refine (toObjectM o b w7.drew (ORead.below (show ORead w o b from Hh.out) y7.drew) hsz).mono ?_)
    rintro e wa ⟨oa, lEa, lIa, rfl, hOa, hba⟩
    have hb7a : Below w7.heap.size w7 wa := (Below.refl w7.heap.size w7).drew.trans hba
    have HSa := HS hb7a
    go_wp2_with fail
    refine hK.out _ _ (HSa) (fun hHeld => ?_)
    clear hK K
    try simp only [Act.put, List.getElem_toArray, List.getElem_cons_zero, List.getElem_cons_succ, List.setIfInBounds_toArray, List.set_cons_zero, List.set_cons_succ]
    refine wpAnyH_ready (rs := [3]) (by kernel_rfl) (by simp) ?_
    refine AllReadyH.cons (i := 3) (o := ?o504) ?i504 (fun K hK => ?_) AllReadyH.nil
    case i504 => exact rfl
    go_simp
    (with_reducible refine (eqObjectM ⟨.slice a1 b.name.length c1, .slice a2 b.ex.length c2, .slice a3 b.im.length c3, .int .i64 b.data, .slice a4 b.code.length c4⟩ oa b wa (ORead.below R7.out hb7a) (hOa.read (show ORead w o b from Hh.out).exs (show ORead w o b from Hh.out).ims) hsz).mono ?_)
    rintro e w8 ⟨rfl, hb8⟩
    have hb78 : Below w7.heap.size w7 w8 := hb7a.trans (hb8.mono hb7a.size)
    have HS8 := HS hb78
    go_wp2_with fail
    refine hK.out _ _ (HS8) (fun hHeld => ?_)
    clear hK K
    try simp only [Act.put, List.getElem_toArray, List.getElem_cons_zero, List.getElem_cons_succ, List.setIfInBounds_toArray, List.set_cons_zero, List.set_cons_succ]
    refine wpAnyH_take (i := 4) (oi := ?o505) (v := ?v505) ?i505 (by kernel_rfl) (by kernel_rfl) (by kernel_rfl) ?q505 ?y505 (hHeld) ?r505
    case i505 => exact rfl
    case q505 => exact (fun _ _ _ h => h)
    case y505 =>
      refine Or.inl ⟨by rfl, ?_⟩
      intro w hSw
      (try dsimp only at hSw)
      go_simp
      first | done | rfl
    try simp only [Act.put, List.getElem_toArray, List.getElem_cons_zero, List.getElem_cons_succ, List.setIfInBounds_toArray, List.set_cons_zero, List.set_cons_succ]
    refine wpAnyH_done (by kernel_rfl) ?_ _
    have x8 := x7.below hb78 hs7
    have z8 := z7.below hb78 hx7
    have y8 : Below w.heap.size w w8 := y7.trans (hb78.mono y7.size)
    have OO8 : OOwn w8 s3 ⟨.slice a1 b.name.length c1, .slice a2 b.ex.length c2, .slice a3 b.im.length c3, .int .i64 b.data, .slice a4 b.code.length c4⟩ b lE4 lI4 := OO7.out.below hb78
    have OW8 : Hid (Own w8 s1 (.slice bW N cW) N R) := OW7.out.below hb78
    have OG8 : Hid (Own w8 s5 (.slice bG N cG) N R) := OG7.out.below hb78
    have H8 := markObjectM s3 ⟨.slice a1 b.name.length c1, .slice a2 b.ex.length c2, .slice a3 b.im.length c3, .int .i64 b.data, .slice a4 b.code.length c4⟩ b lE4 lI4 w8 OO8 hsz Hh.out.exs Hh.out.ims
    clear HS HS0 HSa HS8 x7 z7 y7 R7 OO7 OW7 OG7 hb7a hb78 hba hb8 hOa k0 k1 k2 k3 k4 j0 j1 j2 j3 j4 hs7 hx7 OO8
    obtain ⟨j0, j1, j2, j3, j4⟩ := z8.facts
    simp only at j0 j1 j2 j3 j4 H8
    go_wp2_with fail
    refine H8.mono ?_
    rintro e w9 ⟨lE9, lI9, rfl, _, K9⟩
    have hnot : ∀ g, some g ∈ ownsO ⟨.slice a1 b.name.length c1, .slice a2 b.ex.length c2, .slice a3 b.im.length c3, .int .i64 b.data, .slice a4 b.code.length c4⟩ lE4 lI4 → s3 ≤ g ∧ g < gx := HLO.out
    have x9 := x8.keep K9 (fun hm => by have := hnot _ hm; omega)
    have y9 : Below w.heap.size w w9 := y8.trans (K9.below (fun k hk => by have := hnot k hk; omega) y8.size)
    have OW9 : Hid (Own w9 s1 (.slice bW N cW) N R) := OW8.out.keep K9 (by
      cases hv : (Value.slice bW N cW).ownBlock with
      | none => exact .inl rfl
      | some k => exact .inr (fun hm => by have h1 := hnot k hm; have h2 := KW.out k hv; omega))
    have OG9 : Hid (Own w9 s5 (.slice bG N cG) N R) := OG8.out.keep K9 (by
      cases hv : (Value.slice bG N cG).ownBlock with
      | none => exact .inl rfl
      | some k => exact .inr (fun hm => by have h1 := hnot k hm; have h2 := KG.out k hv; omega))
    clear H8 j0 j1 j2 j3 j4 z8 x8 y8 OW8 OG8 K9 HLO hnot
    generalize wtO b = M at *
    have hM : ¬ (((1 + M : Nat) : Int) < 0) := by omega
    have H9 := eqT bG N cG R bW N cW w9 (Own.row OG9.out) (Own.row OW9.out) (by omega)
    go_wp2_with fail
    refine H9.mono ?_
    rintro e w10 ⟨rfl, hb⟩
    have x10 := x9.below hb x9.lt
    have y10 : Below w.heap.size w w10 := y9.trans (hb.mono y9.size)
    have OW10 : Hid (Own w10 s1 (.slice bW N cW) N R) := OW9.out.below hb
    have OG10 : Hid (Own w10 s5 (.slice bG N cG) N R) := OG9.out.below hb
    clear H9 x9 y9 OW9 OG9 hb
    have H10 := markM s5 (.slice bG N cG) N R 1 w10 OG10.out (by omega) (by omega) (by omega)
    go_wp2_with fail
    refine H10.mono ?_
    rintro e w11 ⟨rfl, oG11, g11⟩
    have hgk : ∀ k, (Value.slice bG N cG).ownBlock = some k → gx < k := KG.out
    have x11 : B5 w11 w.heap.size 26 o := (g11.block w.heap.size x10.lt (fun e => by have := hgk _ e.symm; omega)).trans x10
    have y11 : Below w.heap.size w w11 := y10.grown g11 y10.size (fun k hk => by have := hgk k hk; omega)
    have OW11 : Hid (Own w11 s1 (.slice bW N cW) N R) := OW10.out.keptBy g11 (fun k hk e => by have h1 := KW.out k hk; have h2 := hgk k e; omega)
    have OG11 : Hid (Own w11 s5 (.slice bG N cG) N (marks (1 : Int).toNat N)) := oG11
    clear H10 x10 y10 OW10 OG10 oG11 g11 hgk
    have H11 := heldM bG N cG 1 w11 (Own.row OG11.out) (by omega) (by omega) (by omega)
    have hltN : ¬ ((1 : Int) + (N : Int) < 0) := by omega
    obtain ⟨k0, k1, k2, k3, k4⟩ := x11.facts
    go_wp2_with fail
    refine H11.mono ?_
    rintro e w11' ⟨rfl, rfl⟩
    clear H11
    have H12 := toObjectM o b _ (ORead.below Hh.out y11) hsz
    go_wp2_with fail
    refine H12.mono ?_
    rintro e w12 ⟨oc, lEc, lIc, rfl, hOc, hb⟩
    have y12 : Below w.heap.size w w12 := y11.trans (hb.mono y11.size)
    have OW12 : Hid (Own w12 s1 (.slice bW N cW) N R) := OW11.out.below hb
    have OG12 : Hid (Own w12 s5 (.slice bG N cG) N (marks (1 : Int).toNat N)) := OG11.out.below hb
    have H13 := S2 oc w12 (hOc.read Hh.out.exs Hh.out.ims)
    clear H12 k0 k1 k2 k3 k4 x11 y11 OW11 OG11 hb hOc
    go_wp2_with fail
    refine H13.mono ?_
    rintro e w13 ⟨bH, cH, rfl, mH⟩
    have y13 : Below w.heap.size w w13 := y12.trans (mH.below.mono y12.size)
    have OW13 : Hid (Own w13 s1 (.slice bW N cW) N R) := OW12.out.below mH.below
    have OG13 : Hid (Own w13 s5 (.slice bG N cG) N (marks (1 : Int).toNat N)) := OG12.out.below mH.below
    have H14 := eqT bH N cH R bW N cW w13 mH.row (Own.row OW13.out) (by omega)
    clear H13 y12 OW12 OG12 mH
    go_wp2_with fail
    refine H14.mono ?_
    rintro e w14 ⟨rfl, hb⟩
    have y14 : Below w.heap.size w w14 := y13.trans (hb.mono y13.size)
    have OG14 : Hid (Own w14 s5 (.slice bG N cG) N (marks (1 : Int).toNat N)) := OG13.out.below hb
    have H15 := heldM bG N cG 1 w14 (Own.row OG14.out) (by omega) (by omega) (by omega)
    clear H14 y13 OW13 OG13 hb
    go_wp2_with fail
    refine H15.mono ?_
    rintro e w15 ⟨rfl, rfl⟩
    go_wp2_with fail
    go_ret
    exact ⟨rfl, y14⟩
  · rw [szL_no hs] at H1
    go_wp2_with fail
    refine H1.mono ?_
    rintro e w1 ⟨rfl, hb⟩
    have y1 : Below w.heap.size w w1 := y0.trans (hb.mono y0.size)
    go_wp2_with fail
    go_ret
    exact ⟨rfl, y1⟩
end Go.Proofs.Ytplbblilgalopaa

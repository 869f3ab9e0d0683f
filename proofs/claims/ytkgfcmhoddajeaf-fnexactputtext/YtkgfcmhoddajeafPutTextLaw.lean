/- The law of PutText returns true at every two slices of bytes, and writes nothing that was there. -/
import Derived.Test.YtkgfcmhoddajeafPutText
namespace Go.Proofs.Ytkgfcmhoddajeaf
open Go.RowKit

set_option maxRecDepth 100000 in
set_option maxHeartbeats 4000000 in
theorem puttext_walk (a0 : Option Addr) (len0 cap0 : Nat) (z0 : List Int) (a1 : Option Addr) (len1 cap1 : Nat) (z1 : List Int) (w : World) (w0 : RowIn .u8 w a0 len0 cap0 z0) (w1 : RowIn .u8 w a1 len1 cap1 z1) :
    Calls Try.prog 6 #[.slice a0 len0 cap0, .slice a1 len1 cap1] w fun e w' => e = .returned (.bool true) ∧ Below w.heap.size w w' := by
  obtain ⟨hr, hlc, hm⟩ := w0.row
  obtain ⟨ht, hlc1, hm1⟩ := w1.row
  unfold maxLen at hm hm1
  clear w0 w1
  by_cases hbig : 1048576 < len0
  · clear hr ht
    go_enter Try.func6, Try.ntmps6
    go_wp2
    go_ret
    exact ⟨rfl, Below.refl _ _⟩
  by_cases hbig1 : 1048576 < len1
  · clear hr ht
    go_enter Try.func6, Try.ntmps6
    go_wp2
    go_ret
    exact ⟨rfl, Below.refl _ _⟩
  generalize z0.take len0 = l at hr
  generalize z1.take len1 = t at ht
  have hsmall : len0 ≤ 1048576 := by omega
  have hsmall1 : len1 ≤ 1048576 := by omega
  have hp5 := textL_le t
  generalize hT : textL t = r at hp5
  have HT : Hid _ := hT
  clear hT
  go_enter Try.func6, Try.ntmps6
  go_wp2_with fail
  refine (copyM _ _ _ l _ hr hsmall).mono ?_
  rintro e w1 ⟨b1, c1, rfl, m1⟩
  have hB1 := m1.below
  go_wp2_with fail
  refine (copyM _ _ _ t _ (ht.below hB1) hsmall1).mono ?_
  rintro e w1b ⟨b1b, c1b, rfl, m1b⟩
  have hB1b : Below w.heap.size w w1b := hB1.trans (m1b.below.mono hB1.size)
  have r1 := m1.row.below m1b.below
  have n1 := m1.nil
  have r1b := m1b.row
  have n1b := m1b.nil
  clear m1 m1b hB1
  go_wp2_with fail
  refine (specTextM _ _ _ l _ _ _ t _ r1 n1 r1b n1b (by omega) (by omega)).mono ?_
  rw [HT.out]
  rintro e w2 ⟨bW, cW, rfl, mW⟩
  have hB : Below w.heap.size w w2 := hB1b.trans (mW.below.mono hB1b.size)
  have oW := mW.own
  have kW : ∀ k, (Value.slice bW (len0 + r.length) cW).ownBlock = some k → k < w2.heap.size := fun k hk => (mW.block k hk).2
  clear mW r1 r1b n1 n1b hB1b
  go_wp2_with fail
  refine (copyM _ _ _ l _ (hr.below hB) hsmall).mono ?_
  rintro e w3 ⟨bX, cX, rfl, mX⟩
  have hB3 : Below w.heap.size w w3 := hB.trans (mX.below.mono hB.size)
  have oX := mX.own
  have kX : ∀ k, (Value.slice bX len0 cX).ownBlock = some k → w2.heap.size ≤ k ∧ k < w3.heap.size := mX.block
  replace oW := oW.below mX.below
  have s23 := mX.below.size
  clear mX
  go_wp2_with fail
  refine (copyM _ _ _ t _ (ht.below hB3) hsmall1).mono ?_
  rintro e w3b ⟨bY, cY, rfl, mY⟩
  have hB3b : Below w.heap.size w w3b := hB3.trans (mY.below.mono hB3.size)
  have oY := mY.own
  have kY : ∀ k, (Value.slice bY len1 cY).ownBlock = some k → w3.heap.size ≤ k ∧ k < w3b.heap.size := mY.block
  replace oW := oW.below mY.below
  replace oX := oX.below mY.below
  have s3b := mY.below.size
  clear mY
  go_wp2_with fail
  refine (implTextM _ _ _ l _ _ _ t _ oX.row oY.row (by omega) (by omega)).mono ?_
  rw [HT.out]
  rintro e w4 ⟨bG, cG, rfl, mG⟩
  have hB4 : Below w.heap.size w w4 := hB3b.trans (mG.below.mono hB3b.size)
  have oG := mG.own
  have kG : ∀ k, (Value.slice bG (len0 + r.length) cG).ownBlock = some k → w3b.heap.size ≤ k := fun k hk => (mG.block k hk).1
  replace oW := oW.below mG.below
  replace oX := oX.below mG.below
  replace oY := oY.below mG.below
  have s2 := hB.size
  have s3 := hB3.size
  have s4 := hB3b.size
  clear mG hB hB3 hB3b
  go_wp2_with fail
  refine (eqT _ _ _ (l ++ r) _ _ _ _ oG.row oW.row (by omega)).mono ?_
  rintro e w5 ⟨rfl, q5⟩
  replace oW := oW.below q5
  replace oX := oX.below q5
  replace oY := oY.below q5
  replace oG := oG.below q5
  have hB5 : Below w.heap.size w w5 := hB4.trans (q5.mono hB4.size)
  clear q5 hB4
  go_wp2_with fail
  refine (copyM _ _ _ l _ (hr.below hB5) hsmall).mono ?_
  rintro e w6 ⟨b6, c6, rfl, m6⟩
  replace oW := oW.below m6.below
  replace oX := oX.below m6.below
  replace oY := oY.below m6.below
  replace oG := oG.below m6.below
  have hB6 : Below w.heap.size w w6 := hB5.trans (m6.below.mono hB5.size)
  have r6 := m6.row
  clear m6 hB5
  go_wp2_with fail
  refine (eqT _ _ _ l _ _ _ _ oX.row r6 (by omega)).mono ?_
  rintro e w7 ⟨rfl, q7⟩
  replace oW := oW.below q7
  replace oX := oX.below q7
  replace oY := oY.below q7
  replace oG := oG.below q7
  have hB7 : Below w.heap.size w w7 := hB6.trans (q7.mono hB6.size)
  clear q7 hB6 r6
  go_wp2_with fail
  refine (copyM _ _ _ t _ (ht.below hB7) hsmall1).mono ?_
  rintro e w6b ⟨b6b, c6b, rfl, m6b⟩
  replace oW := oW.below m6b.below
  replace oX := oX.below m6b.below
  replace oY := oY.below m6b.below
  replace oG := oG.below m6b.below
  have hB6b : Below w.heap.size w w6b := hB7.trans (m6b.below.mono hB7.size)
  have r6b := m6b.row
  clear m6b hB7
  go_wp2_with fail
  refine (eqT _ _ _ t _ _ _ _ oY.row r6b (by omega)).mono ?_
  rintro e w7b ⟨rfl, q7b⟩
  replace oW := oW.below q7b
  replace oX := oX.below q7b
  replace oY := oY.below q7b
  replace oG := oG.below q7b
  have hB7b : Below w.heap.size w w7b := hB6b.trans (q7b.mono hB6b.size)
  clear q7b hB6b r6b
  go_wp2_with fail
  refine (markM _ _ _ l _ _ oX (by omega) (by omega) (by omega)).mono ?_
  rintro e w8 ⟨rfl, _, g8⟩
  have hB8 : Below w.heap.size w w8 := hB7b.grown g8 hB7b.size (fun k hk => Nat.le_trans s2 (kX k hk).1)
  replace oW := oW.keptBy g8 (fun k hk e => by have := kW k hk; have := kX k e; omega)
  replace oY := oY.keptBy g8 (fun k hk e => by have := kY k hk; have := kX k e; omega)
  replace oG := oG.keptBy g8 (fun k hk e => by have := kG k hk; have := kX k e; omega)
  clear oX g8 hB7b
  go_wp2_with fail
  refine (markM _ _ _ t _ _ oY (by omega) (by omega) (by omega)).mono ?_
  rintro e w8b ⟨rfl, _, g8b⟩
  have hB8b : Below w.heap.size w w8b := hB8.grown g8b hB8.size (fun k hk => Nat.le_trans s3 (kY k hk).1)
  replace oW := oW.keptBy g8b (fun k hk e => by have := kW k hk; have := kY k e; omega)
  replace oG := oG.keptBy g8b (fun k hk e => by have := kG k hk; have := kY k e; omega)
  clear oY g8b hB8
  go_wp2_with fail
  refine (eqT _ _ _ (l ++ r) _ _ _ _ oG.row oW.row (by omega)).mono ?_
  rintro e w9 ⟨rfl, q9⟩
  replace oW := oW.below q9
  replace oG := oG.below q9
  have hB9 : Below w.heap.size w w9 := hB8b.trans (q9.mono hB8b.size)
  clear q9 hB8b
  go_wp2_with fail
  refine (markM _ _ _ (l ++ r) _ _ oG (by omega) (by omega) (by omega)).mono ?_
  rintro e w10 ⟨rfl, oG10, g10⟩
  have hB10 : Below w.heap.size w w10 := hB9.grown g10 hB9.size (fun k hk => Nat.le_trans s4 (kG k hk))
  replace oW := oW.keptBy g10 (fun k hk e => by have := kW k hk; have := kG k e; omega)
  clear oG g10 hB9
  go_wp2_with fail
  refine (heldM _ _ _ _ _ oG10.row (by omega) (by omega) (by omega)).mono ?_
  rintro e w10' ⟨rfl, rfl⟩
  go_wp2_with fail
  refine (copyM _ _ _ l _ (hr.below hB10) hsmall).mono ?_
  rintro e w11 ⟨b11, c11, rfl, m11⟩
  replace oW := oW.below m11.below
  replace oG10 := oG10.below m11.below
  have hB11 : Below w.heap.size w w11 := hB10.trans (m11.below.mono hB10.size)
  have r11 := m11.row
  clear m11 hB10
  go_wp2_with fail
  refine (copyM _ _ _ t _ (ht.below hB11) hsmall1).mono ?_
  rintro e w11b ⟨b11b, c11b, rfl, m11b⟩
  replace oW := oW.below m11b.below
  replace oG10 := oG10.below m11b.below
  have hB11b : Below w.heap.size w w11b := hB11.trans (m11b.below.mono hB11.size)
  replace r11 := r11.below m11b.below
  have r11b := m11b.row
  clear m11b hB11
  go_wp2_with fail
  refine (implTextM _ _ _ l _ _ _ t _ r11 r11b (by omega) (by omega)).mono ?_
  rw [HT.out]
  rintro e w12 ⟨b12, c12, rfl, m12⟩
  replace oW := oW.below m12.below
  replace oG10 := oG10.below m12.below
  have hB12 : Below w.heap.size w w12 := hB11b.trans (m12.below.mono hB11b.size)
  have r12 := m12.row
  clear m12 hB11b r11 r11b
  go_wp2_with fail
  refine (eqT _ _ _ (l ++ r) _ _ _ _ r12 oW.row (by omega)).mono ?_
  rintro e w13 ⟨rfl, q13⟩
  replace oG10 := oG10.below q13
  have hB13 : Below w.heap.size w w13 := hB12.trans (q13.mono hB12.size)
  clear q13 hB12 r12 oW
  go_wp2_with fail
  refine (heldM _ _ _ _ _ oG10.row (by omega) (by omega) (by omega)).mono ?_
  rintro e w13' ⟨rfl, rfl⟩
  go_wp2_with fail
  go_ret
  exact ⟨rfl, hB13⟩
end Go.Proofs.Ytkgfcmhoddajeaf

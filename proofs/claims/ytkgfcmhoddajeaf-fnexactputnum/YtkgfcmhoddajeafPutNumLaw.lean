/- The law of PutNum returns true at every slice of bytes and every int, and writes nothing that was there. -/
import Derived.Test.YtkgfcmhoddajeafPutImpl
namespace Go.Proofs.Ytkgfcmhoddajeaf
open Go.RowKit

set_option maxRecDepth 100000 in
set_option maxHeartbeats 2000000 in
theorem putnum_walk (a0 : Option Addr) (len0 cap0 : Nat) (z0 : List Int) (a1 : Int) (w : World) (w0 : RowIn .u8 w a0 len0 cap0 z0) :
    Calls Try.prog 4 #[.slice a0 len0 cap0, .int .i64 a1] w fun e w' => e = .returned (.bool true) ∧ Below w.heap.size w w' := by
  obtain ⟨hr, hlc, hm⟩ := w0.row
  unfold maxLen at hm
  clear w0
  by_cases hbig : 1048576 < len0
  · clear hr
    go_enter Try.func4, Try.ntmps4
    go_wp2
    go_ret
    exact ⟨rfl, Below.refl _ _⟩
  · generalize z0.take len0 = l at hr
    have hsmall : len0 ≤ 1048576 := by omega
    have hp5 := putL_len a1
    go_enter Try.func4, Try.ntmps4
    go_wp2_with fail
    refine (copyM _ _ _ l _ hr hsmall).mono ?_
    rintro e w1 ⟨b1, c1, rfl, m1⟩
    have hB := m1.below
    go_wp2_with fail
    refine (specPutM _ _ _ l a1 _ m1.row m1.nil (by omega)).mono ?_
    rintro e w2 ⟨bW, cW, rfl, mW⟩
    replace hB : Below w.heap.size w w2 := hB.trans (mW.below.mono hB.size)
    have oW := mW.own
    have kW : ∀ k, (Value.slice bW (len0 + (putL a1).length) cW).ownBlock = some k → k < w2.heap.size := fun k hk => (mW.block k hk).2
    clear m1 mW
    go_wp2_with fail
    refine (copyM _ _ _ l _ (hr.below hB) hsmall).mono ?_
    rintro e w3 ⟨bX, cX, rfl, mX⟩
    have hB3 : Below w.heap.size w w3 := hB.trans (mX.below.mono hB.size)
    have oX := mX.own
    have kX : ∀ k, (Value.slice bX len0 cX).ownBlock = some k → w2.heap.size ≤ k ∧ k < w3.heap.size := mX.block
    replace oW := oW.below mX.below
    have s23 := mX.below.size
    clear mX
    go_wp2_with fail
    refine (implPutM _ _ _ l a1 _ oX.row (by omega)).mono ?_
    rintro e w4 ⟨bG, cG, rfl, mG⟩
    have hB4 : Below w.heap.size w w4 := hB3.trans (mG.below.mono hB3.size)
    have oG := mG.own
    have kG : ∀ k, (Value.slice bG (len0 + (putL a1).length) cG).ownBlock = some k → w3.heap.size ≤ k := fun k hk => (mG.block k hk).1
    replace oW := oW.below mG.below
    replace oX := oX.below mG.below
    have s2 := hB.size
    have s3 := hB3.size
    clear mG hB hB3
    go_wp2_with fail
    refine (eqT _ _ _ (l ++ putL a1) _ _ _ _ oG.row oW.row (by omega)).mono ?_
    rintro e w5 ⟨rfl, q5⟩
    replace oW := oW.below q5
    replace oX := oX.below q5
    replace oG := oG.below q5
    have hB5 : Below w.heap.size w w5 := hB4.trans (q5.mono hB4.size)
    clear q5 hB4
    go_wp2_with fail
    refine (copyM _ _ _ l _ (hr.below hB5) hsmall).mono ?_
    rintro e w6 ⟨b6, c6, rfl, m6⟩
    replace oW := oW.below m6.below
    replace oX := oX.below m6.below
    replace oG := oG.below m6.below
    have hB6 : Below w.heap.size w w6 := hB5.trans (m6.below.mono hB5.size)
    have r6 := m6.row
    clear m6 hB5
    go_wp2_with fail
    refine (eqT _ _ _ l _ _ _ _ oX.row r6 (by omega)).mono ?_
    rintro e w7 ⟨rfl, q7⟩
    replace oW := oW.below q7
    replace oX := oX.below q7
    replace oG := oG.below q7
    have hB7 : Below w.heap.size w w7 := hB6.trans (q7.mono hB6.size)
    clear q7 hB6 r6
    go_wp2_with fail
    refine (markM _ _ _ l _ _ oX (by omega) (by omega) (by omega)).mono ?_
    rintro e w8 ⟨rfl, oX8, g8⟩
    have hB8 : Below w.heap.size w w8 := hB7.grown g8 hB7.size (fun k hk => Nat.le_trans s2 (kX k hk).1)
    replace oW := oW.keptBy g8 (fun k hk e => by have := kW k hk; have := kX k e; omega)
    replace oG := oG.keptBy g8 (fun k hk e => by have := kG k hk; have := kX k e; omega)
    clear oX oX8 g8 hB7
    go_wp2_with fail
    refine (eqT _ _ _ (l ++ putL a1) _ _ _ _ oG.row oW.row (by omega)).mono ?_
    rintro e w9 ⟨rfl, q9⟩
    replace oW := oW.below q9
    replace oG := oG.below q9
    have hB9 : Below w.heap.size w w9 := hB8.trans (q9.mono hB8.size)
    clear q9 hB8
    go_wp2_with fail
    refine (markM _ _ _ (l ++ putL a1) _ _ oG (by omega) (by omega) (by omega)).mono ?_
    rintro e w10 ⟨rfl, oG10, g10⟩
    have hB10 : Below w.heap.size w w10 := hB9.grown g10 hB9.size (fun k hk => Nat.le_trans s3 (kG k hk))
    replace oW := oW.keptBy g10 (fun k hk e => by have := kW k hk; have := kG k e; omega)
    clear oG g10 hB9
    go_wp2_with fail
    refine (heldM _ _ _ _ _ oG10.row (by omega) (by omega) (by omega)).mono ?_
    rintro e w10' ⟨rfl, rfl⟩
    go_wp2_with fail
    refine (copyM _ _ _ l _ (hr.below hB10) hsmall).mono ?_
    rintro e w11 ⟨b11, c11, rfl, m11⟩
    replace oW := oW.below m11.below
    replace oG10 := oG10.below m11.below
    have hB11 : Below w.heap.size w w11 := hB10.trans (m11.below.mono hB10.size)
    have r11 := m11.row
    clear m11 hB10
    go_wp2_with fail
    refine (implPutM _ _ _ l a1 _ r11 (by omega)).mono ?_
    rintro e w12 ⟨b12, c12, rfl, m12⟩
    replace oW := oW.below m12.below
    replace oG10 := oG10.below m12.below
    have hB12 : Below w.heap.size w w12 := hB11.trans (m12.below.mono hB11.size)
    have r12 := m12.row
    clear m12 hB11 r11
    go_wp2_with fail
    refine (eqT _ _ _ (l ++ putL a1) _ _ _ _ r12 oW.row (by omega)).mono ?_
    rintro e w13 ⟨rfl, q13⟩
    replace oG10 := oG10.below q13
    have hB13 : Below w.heap.size w w13 := hB12.trans (q13.mono hB12.size)
    clear q13 hB12 r12 oW
    go_wp2_with fail
    refine (heldM _ _ _ _ _ oG10.row (by omega) (by omega) (by omega)).mono ?_
    rintro e w13' ⟨rfl, rfl⟩
    go_wp2_with fail
    go_ret
    exact ⟨rfl, hB13⟩
end Go.Proofs.Ytkgfcmhoddajeaf

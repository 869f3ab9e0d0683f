/- FnDecodes: drawn instructions come back from their bytes; whatever bytes are one are just its bytes. -/
import Derived.Test.YtcidckmocmdijaaDoorDrawF
import Derived.Test.YtcidckmocmdijaaDoorSame
import Derived.Deep.RegionHeld3
namespace Go.Proofs.YtcidckmocmdijaaDoor
open Go.RowKit
set_option linter.unusedVariables false
set_option linter.unusedSimpArgs false
set_option maxRecDepth 100000

theorem one_ins (w : World) (x : In6) : IRow (w.alloc (.cells #[.int .i64 x.o, .int .i64 x.a, .int .i64 x.b, .int .i64 x.c, .int .i64 x.n, .int .i64 x.m] 26)) (some ⟨w.heap.size, 0, none⟩) 1 [x] :=
  IB.row (show IB _ _ _ from heap_new w _ _) rfl

theorem encOk_one {x : In6} (h : okI x = true) : encOk [x] 1 = true ∧ encR [x] 1 = enc6 x := by
  have h1 : encOk [x] 1 = true := by unfold encOk; simp [h]
  refine ⟨h1, ?_⟩
  unfold encR
  rw [h1]
  simp [encL]

theorem twelve_list {l : List Int} {k : Nat} (h : 12 * k + 12 ≤ l.length) : (l.drop (12 * k)).take 12 = [bt l k 0, bt l k 1, bt l k 2, bt l k 3, bt l k 4, bt l k 5, bt l k 6, bt l k 7, bt l k 8, bt l k 9, bt l k 10, bt l k 11] := by
  apply List.ext_getElem?
  intro i
  by_cases hi : i < 12
  · rw [List.getElem?_take, if_pos hi, List.getElem?_drop]
    have hx : ∀ m, m < 12 → l[12 * k + m]? = some (bt l k m) := by
      intro m hm
      unfold bt
      rw [Int.toNat_natCast, List.getElem?_eq_getElem (by omega)]
      rfl
    rw [hx i hi]
    have : i = 0 ∨ i = 1 ∨ i = 2 ∨ i = 3 ∨ i = 4 ∨ i = 5 ∨ i = 6 ∨ i = 7 ∨ i = 8 ∨ i = 9 ∨ i = 10 ∨ i = 11 := by omega
    rcases this with e | e | e | e | e | e | e | e | e | e | e | e <;> subst e <;> rfl
  · rw [List.getElem?_eq_none (by simp; omega), List.getElem?_eq_none (by simp; omega)]

/-- Bytes that are an instruction: what stands there. -/
theorem dec_back {l : List Int} {n : Nat} {k : Int} (hl : l.length = n) (hby : ∀ x ∈ l, 0 ≤ x ∧ x ≤ 255) (h : decOk l n k = true) :
    ∃ j : Nat, k = j ∧ 12 * j + 12 ≤ n ∧ okI ⟨sel (decOk l n k) (bt l k 0), sel (decOk l n k) (bt l k 1), sel (decOk l n k) (bt l k 2), sel (decOk l n k) (bt l k 3), decN l n k, decM l n k⟩ = true ∧
      enc6 ⟨sel (decOk l n k) (bt l k 0), sel (decOk l n k) (bt l k 1), sel (decOk l n k) (bt l k 2), sel (decOk l n k) (bt l k 3), decN l n k, decM l n k⟩ = (l.drop (12 * j)).take 12 := by
  have hk : 0 ≤ k ∧ k < (n : Int) / 12 := by
    rcases Decidable.em (0 ≤ k ∧ k < (n : Int) / 12) with e | e
    · exact e
    · rw [dec_no e] at h; cases h
  obtain ⟨j, rfl⟩ := Int.eq_ofNat_of_zero_le hk.1
  have hj : 12 * j + 12 ≤ n := by omega
  refine ⟨j, rfl, hj, ?_, ?_⟩
  · unfold decN decM
    rw [h]
    have := h
    rw [dec_yes hk] at this
    exact this
  · unfold decN decM
    rw [h]
    rw [twelve_list (by omega)]
    exact enc_dec _ _ _ _ _ _ _ _ _ _ _ _ (bytes_at hby _)

theorem dec_end (l : List Int) (n : Nat) : decOk l n ((n : Int) / 12) = false := dec_no (by omega)
theorem Ops.at {w w' : World} (h : Ops w) (hb : Below w.heap.size w w') : Ops w' := h.below hb

theorem ok20 : okI ⟨20, 0, 0, 0, 0, 0⟩ = true := by simp [okI, insB, regB, inR, wr_eq]

set_option maxHeartbeats 16000000 in
theorem decodes_walk (w : World) (hO : Ops w) (a : Option Addr) (n c : Nat) (zs : List Int) (w0 : RowIn .u8 w a n c zs) :
    Calls Tryd.prog 3 #[.slice a n c] w fun e w' => e = .returned (.bool true) ∧ Below w.heap.size w w' := by
  obtain ⟨hr, hlc, hm⟩ := w0.row
  unfold maxLen at hm
  clear w0
  generalize zs.take n = l at hr
  have hn : n ≤ 9223372036854775807 := by omega
  have HR : Hid (BRow w a n l) := hr
  have HO : Hid (Ops w) := hO
  clear hr hO
  have b0 : Below w.heap.size w (w.alloc (.cells #[.int .i64 20, .int .i64 0, .int .i64 0, .int .i64 0, .int .i64 0, .int .i64 0] 26)) := (Below.refl _ _).alloc (Nat.le_refl _) _
  have H1 := implEncT (some ⟨w.heap.size, 0, none⟩) 1 1 [⟨20, 0, 0, 0, 0, 0⟩] _ (one_ins w ⟨20, 0, 0, 0, 0, 0⟩) (by omega) (HO.out.below b0)
  rw [(encOk_one (x := ⟨20, 0, 0, 0, 0, 0⟩) ok20).1, (encOk_one (x := ⟨20, 0, 0, 0, 0, 0⟩) ok20).2, show (enc6 ⟨20, 0, 0, 0, 0, 0⟩).length = 12 from rfl] at H1
  go_enter Tryd.func3, Tryd.ntmps3
  go_wp2_with fail
  refine H1.mono ?_
  rintro e w1 ⟨a1, c1, rfl, m1⟩
  have y1 : Below w.heap.size w w1 := b0.trans (m1.below.mono b0.size)
  have H2 := drawEncodeM a n c l w1 (HR.out.below y1) hn
  clear H1 m1 b0
  go_wp2_with fail
  refine H2.mono ?_
  rintro e w2 ⟨a2, n2, c2, l2, rfl, hn2, hI2, hb2⟩
  have y2 : Below w.heap.size w w2 := y1.trans (hb2.mono y1.size)
  have H3 := implEncT a2 n2 c2 l2 w2 hI2 (by omega) (HO.out.below y2)
  clear H2 hb2 y1
  go_wp2_with fail
  refine H3.mono ?_
  rintro e w3 ⟨a3, c3, rfl, m3⟩
  have y3 : Below w.heap.size w w3 := y2.trans (m3.below.mono y2.size)
  have I3 : Hid (IRow w3 a2 n2 l2) := hI2.below m3.below
  have M3 : Hid (BRow w3 a3 (encR l2 n2).length (encR l2 n2)) := m3.row
  have hc3 := m3.cap
  have hc3m : Hid (c3 ≤ maxLen) := m3.most
  have hl2 : l2.length = n2 := hI2.1
  clear H3 y2 m3 hI2
  have hx0 := Nat.eq_zero_or_pos n2
  cases hk : encOk l2 n2
  · have hR : encR l2 n2 = [] := by unfold encR; rw [hk]; rfl
    rw [hR] at M3 hc3 ⊢
    clear hR M3 hc3 hc3m I3
    rcases hx0 with hz | hp
    · subst hz
      go_wp2_with fail
      refine wp_loop_rounds 1 ?_
      rw [rounds_succ]
      have H4 := drawDecodeM a n c l w3 (HR.out.below y3) hn
      go_wp2_with fail
      refine H4.mono ?_
      rintro e w5 ⟨a5, n5, c5, l5, k, rfl, r5, hc5, hm5, hnil5, hn5, hk5, hb5⟩
      have y5 : Below w.heap.size w w5 := y3.trans (hb5.mono y3.size)
      have H5 := implDecodeM a5 n5 c5 l5 k w5 r5 hc5 hm5 (HO.out.below y5)
      have R5 : Hid (BRow w5 a5 n5 l5) := r5
      have HF0 := dec_back (k := k) r5.1 r5.2.1
      have HF : Hid _ := HF0
      have HM5 : Hid (c5 ≤ maxLen) := hm5
      unfold maxLen at hm5
      have HD := fun (wx : World) (hb : Below w5.heap.size w5 wx) => implDecodeM a5 n5 c5 l5 ((n5 : Int) / 12) wx (R5.out.below hb) hc5 HM5.out (HO.out.below (y5.trans (hb.mono y5.size)))
      unfold decN decM at HD
      rw [dec_end] at HD
      simp only [sel, cond_false] at HD
      have hLL := r5.1
      clear H4 hb5 r5 HF0
      generalize sel (decOk l5 n5 k) (bt l5 k 0) = v0 at *
      generalize sel (decOk l5 n5 k) (bt l5 k 1) = v1 at *
      generalize sel (decOk l5 n5 k) (bt l5 k 2) = v2 at *
      generalize sel (decOk l5 n5 k) (bt l5 k 3) = v3 at *
      generalize decN l5 n5 k = v4 at *
      generalize decM l5 n5 k = v5 at *
      generalize decOk l5 n5 k = fine at *
      go_wp2_with fail
      refine H5.mono ?_
      rintro e w6 ⟨rfl, hb6⟩
      have x7 := heap_new w6 #[.int .i64 v0, .int .i64 v1, .int .i64 v2, .int .i64 v3, .int .i64 v4, .int .i64 v5] 26
      have b67 : Below w6.heap.size w6 (w6.alloc (.cells #[.int .i64 v0, .int .i64 v1, .int .i64 v2, .int .i64 v3, .int .i64 v4, .int .i64 v5] 26)) := (Below.refl _ _).alloc (Nat.le_refl _) _
      have z7 : Below w5.heap.size w5 (w6.alloc (.cells #[.int .i64 v0, .int .i64 v1, .int .i64 v2, .int .i64 v3, .int .i64 v4, .int .i64 v5] 26)) := hb6.trans (b67.mono hb6.size)
      clear H5 hb6 b67
      go_upto_region 16 with fail
      generalize w6.alloc (.cells #[.int .i64 v0, .int .i64 v1, .int .i64 v2, .int .i64 v3, .int .i64 v4, .int .i64 v5] 26) = w7 at *
      obtain ⟨q0, q1, q2, q3, q4, q5, _⟩ := row6 x7
      have z8 : Below w5.heap.size w5 (w7.alloc (.cells #[.int .i64 v0, .int .i64 v1, .int .i64 v2, .int .i64 v3, .int .i64 v4, .int .i64 v5] 26)) := z7.alloc z7.size _
      have H8 := implEncT (some ⟨w7.heap.size, 0, none⟩) 1 1 [⟨v0, v1, v2, v3, v4, v5⟩] _ (one_ins w7 ⟨v0, v1, v2, v3, v4, v5⟩) (by omega) (HO.out.below (y5.trans (z8.mono y5.size)))
      go_wp2_with fail
      refine H8.mono ?_
      rintro e w9 ⟨a9, c9, rfl, m9⟩
      have z9 : Below w5.heap.size w5 w9 := z8.trans (m9.below.mono z8.size)
      have R9 : Hid (BRow w9 a9 (encR [⟨v0, v1, v2, v3, v4, v5⟩] 1).length (encR [⟨v0, v1, v2, v3, v4, v5⟩] 1)) := m9.row
      have H9 := HD w9 z9
      clear H8 q0 q1 q2 q3 q4 q5 m9 z7 z8 x7 HD
      have hdv : Int.tdiv (n5 : Int) 12 = (n5 : Int) / 12 := Int.tdiv_eq_ediv_of_nonneg (by omega)
      go_wp2_with fail
      refine H9.mono ?_
      rintro e w10 ⟨rfl, hb10⟩
      have z10 : Below w5.heap.size w5 w10 := z9.trans (hb10.mono z9.size)
      have b1011 : Below w10.heap.size w10 (w10.alloc (.cells #[.int .i64 0, .int .i64 0, .int .i64 0, .int .i64 0, .int .i64 0, .int .i64 0] 26)) := (Below.refl _ _).alloc (Nat.le_refl _) _
      have z11 : Below w5.heap.size w5 (w10.alloc (.cells #[.int .i64 0, .int .i64 0, .int .i64 0, .int .i64 0, .int .i64 0, .int .i64 0] 26)) := z10.trans (b1011.mono z10.size)
      have R11 : Hid (BRow (w10.alloc (.cells #[.int .i64 0, .int .i64 0, .int .i64 0, .int .i64 0, .int .i64 0, .int .i64 0] 26)) a9 (encR [⟨v0, v1, v2, v3, v4, v5⟩] 1).length (encR [⟨v0, v1, v2, v3, v4, v5⟩] 1)) := (R9.out.below hb10).below b1011
      clear H9 hb10 z9 z10 R9 b1011
      go_upto_region 18 with fail
      generalize w10.alloc (.cells #[.int .i64 0, .int .i64 0, .int .i64 0, .int .i64 0, .int .i64 0, .int .i64 0] 26) = w11 at *
      have y11 : Below w.heap.size w w11 := y5.trans (z11.mono y5.size)
      cases fine
      · go_wp2_with fail
        go_ret
        exact ⟨rfl, y11⟩
      · obtain ⟨j, rfl, hj, hok, henc⟩ := HF.out rfl
        obtain ⟨e1, e2⟩ := encOk_one hok
        have hl12 : (enc6 ⟨v0, v1, v2, v3, v4, v5⟩).length = 12 := rfl
        have R12 : BRow w11 a9 12 (enc6 ⟨v0, v1, v2, v3, v4, v5⟩) := by have := R11.out; rw [e2] at this; exact this
        rw [e1, e2, hl12]
        obtain ⟨b, off, rfl, _⟩ := R5.out.2.2 (by omega)
        have hP := (R5.out.below z11).part (lo := 12 * j) (m := 12) (by omega)
        rw [← henc] at hP
        have HS := fun cx cy => sameM a9 12 cx (enc6 ⟨v0, v1, v2, v3, v4, v5⟩) (some ⟨b, off + 12 * j, none⟩) 12 cy (enc6 ⟨v0, v1, v2, v3, v4, v5⟩) w11 R12 hP
        rw [decide_eq_true rfl] at HS
        clear hP henc hok e1 e2 R12
        go_wp2_with fail
        refine (HS _ _).mono ?_
        rintro e w12 ⟨rfl, rfl⟩
        go_wp2_with fail
        go_ret
        exact ⟨rfl, y11⟩
    · go_wp2_with fail
      refine wp_loop_rounds 1 ?_
      rw [rounds_succ]
      have H4 := drawDecodeM a n c l w3 (HR.out.below y3) hn
      go_wp2_with fail
      refine H4.mono ?_
      rintro e w5 ⟨a5, n5, c5, l5, k, rfl, r5, hc5, hm5, hnil5, hn5, hk5, hb5⟩
      have y5 : Below w.heap.size w w5 := y3.trans (hb5.mono y3.size)
      have H5 := implDecodeM a5 n5 c5 l5 k w5 r5 hc5 hm5 (HO.out.below y5)
      have R5 : Hid (BRow w5 a5 n5 l5) := r5
      have HF0 := dec_back (k := k) r5.1 r5.2.1
      have HF : Hid _ := HF0
      have HM5 : Hid (c5 ≤ maxLen) := hm5
      unfold maxLen at hm5
      have HD := fun (wx : World) (hb : Below w5.heap.size w5 wx) => implDecodeM a5 n5 c5 l5 ((n5 : Int) / 12) wx (R5.out.below hb) hc5 HM5.out (HO.out.below (y5.trans (hb.mono y5.size)))
      unfold decN decM at HD
      rw [dec_end] at HD
      simp only [sel, cond_false] at HD
      have hLL := r5.1
      clear H4 hb5 r5 HF0
      generalize sel (decOk l5 n5 k) (bt l5 k 0) = v0 at *
      generalize sel (decOk l5 n5 k) (bt l5 k 1) = v1 at *
      generalize sel (decOk l5 n5 k) (bt l5 k 2) = v2 at *
      generalize sel (decOk l5 n5 k) (bt l5 k 3) = v3 at *
      generalize decN l5 n5 k = v4 at *
      generalize decM l5 n5 k = v5 at *
      generalize decOk l5 n5 k = fine at *
      go_wp2_with fail
      refine H5.mono ?_
      rintro e w6 ⟨rfl, hb6⟩
      have x7 := heap_new w6 #[.int .i64 v0, .int .i64 v1, .int .i64 v2, .int .i64 v3, .int .i64 v4, .int .i64 v5] 26
      have b67 : Below w6.heap.size w6 (w6.alloc (.cells #[.int .i64 v0, .int .i64 v1, .int .i64 v2, .int .i64 v3, .int .i64 v4, .int .i64 v5] 26)) := (Below.refl _ _).alloc (Nat.le_refl _) _
      have z7 : Below w5.heap.size w5 (w6.alloc (.cells #[.int .i64 v0, .int .i64 v1, .int .i64 v2, .int .i64 v3, .int .i64 v4, .int .i64 v5] 26)) := hb6.trans (b67.mono hb6.size)
      clear H5 hb6 b67
      go_upto_region 16 with fail
      generalize w6.alloc (.cells #[.int .i64 v0, .int .i64 v1, .int .i64 v2, .int .i64 v3, .int .i64 v4, .int .i64 v5] 26) = w7 at *
      obtain ⟨q0, q1, q2, q3, q4, q5, _⟩ := row6 x7
      have z8 : Below w5.heap.size w5 (w7.alloc (.cells #[.int .i64 v0, .int .i64 v1, .int .i64 v2, .int .i64 v3, .int .i64 v4, .int .i64 v5] 26)) := z7.alloc z7.size _
      have H8 := implEncT (some ⟨w7.heap.size, 0, none⟩) 1 1 [⟨v0, v1, v2, v3, v4, v5⟩] _ (one_ins w7 ⟨v0, v1, v2, v3, v4, v5⟩) (by omega) (HO.out.below (y5.trans (z8.mono y5.size)))
      go_wp2_with fail
      refine H8.mono ?_
      rintro e w9 ⟨a9, c9, rfl, m9⟩
      have z9 : Below w5.heap.size w5 w9 := z8.trans (m9.below.mono z8.size)
      have R9 : Hid (BRow w9 a9 (encR [⟨v0, v1, v2, v3, v4, v5⟩] 1).length (encR [⟨v0, v1, v2, v3, v4, v5⟩] 1)) := m9.row
      have H9 := HD w9 z9
      clear H8 q0 q1 q2 q3 q4 q5 m9 z7 z8 x7 HD
      have hdv : Int.tdiv (n5 : Int) 12 = (n5 : Int) / 12 := Int.tdiv_eq_ediv_of_nonneg (by omega)
      go_wp2_with fail
      refine H9.mono ?_
      rintro e w10 ⟨rfl, hb10⟩
      have z10 : Below w5.heap.size w5 w10 := z9.trans (hb10.mono z9.size)
      have b1011 : Below w10.heap.size w10 (w10.alloc (.cells #[.int .i64 0, .int .i64 0, .int .i64 0, .int .i64 0, .int .i64 0, .int .i64 0] 26)) := (Below.refl _ _).alloc (Nat.le_refl _) _
      have z11 : Below w5.heap.size w5 (w10.alloc (.cells #[.int .i64 0, .int .i64 0, .int .i64 0, .int .i64 0, .int .i64 0, .int .i64 0] 26)) := z10.trans (b1011.mono z10.size)
      have R11 : Hid (BRow (w10.alloc (.cells #[.int .i64 0, .int .i64 0, .int .i64 0, .int .i64 0, .int .i64 0, .int .i64 0] 26)) a9 (encR [⟨v0, v1, v2, v3, v4, v5⟩] 1).length (encR [⟨v0, v1, v2, v3, v4, v5⟩] 1)) := (R9.out.below hb10).below b1011
      clear H9 hb10 z9 z10 R9 b1011
      go_upto_region 18 with fail
      generalize w10.alloc (.cells #[.int .i64 0, .int .i64 0, .int .i64 0, .int .i64 0, .int .i64 0, .int .i64 0] 26) = w11 at *
      have y11 : Below w.heap.size w w11 := y5.trans (z11.mono y5.size)
      cases fine
      · go_wp2_with fail
        go_ret
        exact ⟨rfl, y11⟩
      · obtain ⟨j, rfl, hj, hok, henc⟩ := HF.out rfl
        obtain ⟨e1, e2⟩ := encOk_one hok
        have hl12 : (enc6 ⟨v0, v1, v2, v3, v4, v5⟩).length = 12 := rfl
        have R12 : BRow w11 a9 12 (enc6 ⟨v0, v1, v2, v3, v4, v5⟩) := by have := R11.out; rw [e2] at this; exact this
        rw [e1, e2, hl12]
        obtain ⟨b, off, rfl, _⟩ := R5.out.2.2 (by omega)
        have hP := (R5.out.below z11).part (lo := 12 * j) (m := 12) (by omega)
        rw [← henc] at hP
        have HS := fun cx cy => sameM a9 12 cx (enc6 ⟨v0, v1, v2, v3, v4, v5⟩) (some ⟨b, off + 12 * j, none⟩) 12 cy (enc6 ⟨v0, v1, v2, v3, v4, v5⟩) w11 R12 hP
        rw [decide_eq_true rfl] at HS
        clear hP henc hok e1 e2 R12
        go_wp2_with fail
        refine (HS _ _).mono ?_
        rintro e w12 ⟨rfl, rfl⟩
        go_wp2_with fail
        go_ret
        exact ⟨rfl, y11⟩
  · have hR : encR l2 n2 = encL l2 := by unfold encR; rw [hk]; rfl
    have hlen : (encL l2).length = 12 * n2 := by rw [encL_len, hl2]
    have HALL : Hid (l2.all okI = true) := by
      show l2.all okI = true
      unfold encOk at hk
      simp only [Bool.and_eq_true] at hk
      exact hk.2
    have M4 : Hid (BRow w3 a3 (12 * n2) (encL l2)) := by have := M3.out; rw [hR, hlen] at this; exact this
    rw [hR, hlen] at hc3 ⊢
    clear M3 hR hlen hk hx0
    go_wp2_with fail
    go_loopw [8, 9, 10] (fun i _ _ wr => ∃ j : Nat, j ≤ n2 ∧ i = .int .i64 j ∧ Hid (Below w3.heap.size w3 wr)) (fun i _ _ _ => n2 - (intOf i).toNat)
    case atStart => exact ⟨0, Nat.zero_le _, rfl, Below.refl _ _⟩
    case round =>
      obtain ⟨j, hj, rfl, HB⟩ := hrel
      have yr : Below w.heap.size w wr := y3.trans (HB.out.mono y3.size)
      by_cases hlt : j < n2
      · obtain ⟨b, off, rfl, _⟩ := I3.out.2 (by omega)
        obtain ⟨x, hx, _⟩ := IRow.el (IRow.below I3.out HB.out) hlt
        have hok : okI x = true := ok_of_all HALL.out hx
        obtain ⟨d0, d1, d2, d3, d4, d5, d6⟩ := dec_enc hl2 hx hok
        have H6 := implDecodeM a3 (12 * n2) c3 (encL l2) (j : Int) wr (M4.out.below HB.out) hc3 hc3m.out (HO.out.below yr)
        rw [d1, d2, d3, d4, d5, d6, d0] at H6
        have HX : Hid (l2[j]? = some x) := hx
        have HOK : Hid (okI x = true) := hok
        clear d0 d1 d2 d3 d4 d5 d6 hx hok
        go_wp2_with fail
        refine H6.mono ?_
        rintro e w6 ⟨rfl, hb6⟩
        have x7 := heap_new w6 #[.int .i64 x.o, .int .i64 x.a, .int .i64 x.b, .int .i64 x.c, .int .i64 x.n, .int .i64 x.m] 26
        have b67 : Below w6.heap.size w6 (w6.alloc (.cells #[.int .i64 x.o, .int .i64 x.a, .int .i64 x.b, .int .i64 x.c, .int .i64 x.n, .int .i64 x.m] 26)) := (Below.refl _ _).alloc (Nat.le_refl _) _
        have z7 : Below w3.heap.size w3 (w6.alloc (.cells #[.int .i64 x.o, .int .i64 x.a, .int .i64 x.b, .int .i64 x.c, .int .i64 x.n, .int .i64 x.m] 26)) := (HB.out.trans (hb6.mono HB.out.size)).trans (b67.mono (Nat.le_trans HB.out.size hb6.size))
        clear H6 hb6 b67
        go_upto_region 10 with fail
        generalize w6.alloc (.cells #[.int .i64 x.o, .int .i64 x.a, .int .i64 x.b, .int .i64 x.c, .int .i64 x.n, .int .i64 x.m] 26) = w7 at *
        have hgN : w6.heap.size < w7.heap.size := (Array.getElem?_eq_some_iff.1 x7).1
        generalize w6.heap.size = gN at *
        have HC : Hid (∀ wx, Below w7.heap.size w7 wx → (wx.cell? ⟨gN, 0, none⟩ = some (.int .i64 x.o) ∧ wx.cell? ⟨gN, 1, none⟩ = some (.int .i64 x.a) ∧ wx.cell? ⟨gN, 2, none⟩ = some (.int .i64 x.b) ∧ wx.cell? ⟨gN, 3, none⟩ = some (.int .i64 x.c) ∧ wx.cell? ⟨gN, 4, none⟩ = some (.int .i64 x.n) ∧ wx.cell? ⟨gN, 5, none⟩ = some (.int .i64 x.m)) ∧ (wx.cell? ⟨b, off + j * 6, none⟩ = some (.int .i64 x.o) ∧ wx.cell? ⟨b, off + j * 6 + 1, none⟩ = some (.int .i64 x.a) ∧ wx.cell? ⟨b, off + j * 6 + 2, none⟩ = some (.int .i64 x.b) ∧ wx.cell? ⟨b, off + j * 6 + 3, none⟩ = some (.int .i64 x.c) ∧ wx.cell? ⟨b, off + j * 6 + 4, none⟩ = some (.int .i64 x.n) ∧ wx.cell? ⟨b, off + j * 6 + 5, none⟩ = some (.int .i64 x.m))) := by
          intro wx hb
          obtain ⟨q0, q1, q2, q3, q4, q5, _⟩ := row6 ((hb.block gN hgN).trans x7)
          obtain ⟨y, hy, p0, p1, p2, p3, p4, p5⟩ := IRow.el (IRow.below (IRow.below I3.out z7) hb) hlt
          have e : y = x := by have := HX.out; rw [hy] at this; exact Option.some.inj this
          subst e
          exact ⟨⟨q0, q1, q2, q3, q4, q5⟩, p0, p1, p2, p3, p4, p5⟩
        have hji : (j : Int) < (n2 : Int) := by omega
        have hj0 : (0 : Int) ≤ (j : Int) := by omega
        refine wp_region_held_drew (S := fun wx => (wx.cell? ⟨gN, 0, none⟩ = some (.int .i64 x.o) ∧ wx.cell? ⟨gN, 1, none⟩ = some (.int .i64 x.a) ∧ wx.cell? ⟨gN, 2, none⟩ = some (.int .i64 x.b) ∧ wx.cell? ⟨gN, 3, none⟩ = some (.int .i64 x.c) ∧ wx.cell? ⟨gN, 4, none⟩ = some (.int .i64 x.n) ∧ wx.cell? ⟨gN, 5, none⟩ = some (.int .i64 x.m)) ∧ (wx.cell? ⟨b, off + j * 6, none⟩ = some (.int .i64 x.o) ∧ wx.cell? ⟨b, off + j * 6 + 1, none⟩ = some (.int .i64 x.a) ∧ wx.cell? ⟨b, off + j * 6 + 2, none⟩ = some (.int .i64 x.b) ∧ wx.cell? ⟨b, off + j * 6 + 3, none⟩ = some (.int .i64 x.c) ∧ wx.cell? ⟨b, off + j * 6 + 4, none⟩ = some (.int .i64 x.n) ∧ wx.cell? ⟨b, off + j * 6 + 5, none⟩ = some (.int .i64 x.m))) (by kernel_rfl) (HC.out _ (Below.refl _ _).drew) (fun hHeld => ?_)
        refine wpAnyH_take (i := 0) (oi := ?o501) (v := ?v501) ?i501 (by kernel_rfl) (by kernel_rfl) (by kernel_rfl) ?q501 ?y501 (hHeld) ?r501
        case i501 => exact rfl
        case q501 => exact (fun _ _ _ h => h)
        case y501 =>
          refine Or.inl ⟨by rfl, ?_⟩
          intro w hSw
          (try dsimp only at hSw)
          go_simp
          first | done | rfl
        try simp only [Act.put, List.getElem_toArray, List.getElem_cons_zero, List.getElem_cons_succ, List.setIfInBounds_toArray, List.set_cons_zero, List.set_cons_succ]
        refine wpAnyH_take (i := 1) (oi := ?o502) (v := ?v502) ?i502 (by kernel_rfl) (by kernel_rfl) (by kernel_rfl) ?q502 ?y502 (hHeld) ?r502
        case i502 => exact rfl
        case q502 => exact (fun _ _ _ h => h)
        case y502 =>
          refine Or.inl ⟨by rfl, ?_⟩
          intro w hSw
          (try dsimp only at hSw)
          go_simp
          first | done | rfl
        try simp only [Act.put, List.getElem_toArray, List.getElem_cons_zero, List.getElem_cons_succ, List.setIfInBounds_toArray, List.set_cons_zero, List.set_cons_succ]
        refine wpAnyH_take (i := 2) (oi := ?o503) (v := ?v503) ?i503 (by kernel_rfl) (by kernel_rfl) (by kernel_rfl) ?q503 ?y503 (hHeld) ?r503
        case i503 => exact rfl
        case q503 => exact (fun _ _ _ h => h)
        case y503 =>
          refine Or.inl ⟨by rfl, ?_⟩
          intro w hSw
          (try dsimp only at hSw)
          go_simp
          first | done | rfl
        try simp only [Act.put, List.getElem_toArray, List.getElem_cons_zero, List.getElem_cons_succ, List.setIfInBounds_toArray, List.set_cons_zero, List.set_cons_succ]
        refine wpAnyH_take (i := 3) (oi := ?o504) (v := ?v504) ?i504 (by kernel_rfl) (by kernel_rfl) (by kernel_rfl) ?q504 ?y504 (hHeld) ?r504
        case i504 => exact rfl
        case q504 => exact (fun _ _ _ h => h)
        case y504 =>
          refine Or.inl ⟨by rfl, ?_⟩
          intro w hSw
          (try dsimp only at hSw)
          go_simp
          first | done | rfl
        try simp only [Act.put, List.getElem_toArray, List.getElem_cons_zero, List.getElem_cons_succ, List.setIfInBounds_toArray, List.set_cons_zero, List.set_cons_succ]
        refine wpAnyH_take (i := 4) (oi := ?o505) (v := ?v505) ?i505 (by kernel_rfl) (by kernel_rfl) (by kernel_rfl) ?q505 ?y505 (hHeld) ?r505
        case i505 => exact rfl
        case q505 => exact (fun _ _ _ h => h)
        case y505 =>
          refine Or.inl ⟨by rfl, ?_⟩
          intro w hSw
          (try dsimp only at hSw)
          go_simp
          first | done | rfl
        try simp only [Act.put, List.getElem_toArray, List.getElem_cons_zero, List.getElem_cons_succ, List.setIfInBounds_toArray, List.set_cons_zero, List.set_cons_succ]
        refine wpAnyH_take (i := 5) (oi := ?o506) (v := ?v506) ?i506 (by kernel_rfl) (by kernel_rfl) (by kernel_rfl) ?q506 ?y506 (hHeld) ?r506
        case i506 => exact rfl
        case q506 => exact (fun _ _ _ h => h)
        case y506 =>
          refine Or.inl ⟨by rfl, ?_⟩
          intro w hSw
          (try dsimp only at hSw)
          go_simp
          first | done | rfl
        try simp only [Act.put, List.getElem_toArray, List.getElem_cons_zero, List.getElem_cons_succ, List.setIfInBounds_toArray, List.set_cons_zero, List.set_cons_succ]
        refine wpAnyH_take (i := 6) (oi := ?o507) (v := ?v507) ?i507 (by kernel_rfl) (by kernel_rfl) (by kernel_rfl) ?q507 ?y507 (hHeld) ?r507
        case i507 => exact rfl
        case q507 => exact (fun _ _ _ h => h)
        case y507 =>
          refine Or.inl ⟨by rfl, ?_⟩
          intro w hSw
          (try dsimp only at hSw)
          go_simp
          first | done | rfl
        try simp only [Act.put, List.getElem_toArray, List.getElem_cons_zero, List.getElem_cons_succ, List.setIfInBounds_toArray, List.set_cons_zero, List.set_cons_succ]
        refine wpAnyH_take (i := 7) (oi := ?o508) (v := ?v508) ?i508 (by kernel_rfl) (by kernel_rfl) (by kernel_rfl) ?q508 ?y508 (hHeld) ?r508
        case i508 => exact rfl
        case q508 => exact (fun _ _ _ h => h)
        case y508 =>
          refine Or.inl ⟨by rfl, ?_⟩
          intro w hSw
          (try dsimp only at hSw)
          go_simp
          first | done | rfl
        try simp only [Act.put, List.getElem_toArray, List.getElem_cons_zero, List.getElem_cons_succ, List.setIfInBounds_toArray, List.set_cons_zero, List.set_cons_succ]
        refine wpAnyH_take (i := 8) (oi := ?o509) (v := ?v509) ?i509 (by kernel_rfl) (by kernel_rfl) (by kernel_rfl) ?q509 ?y509 (hHeld) ?r509
        case i509 => exact rfl
        case q509 => exact (fun _ _ _ h => h)
        case y509 =>
          refine Or.inl ⟨by rfl, ?_⟩
          intro w hSw
          (try dsimp only at hSw)
          go_simp
          first | done | rfl
        try simp only [Act.put, List.getElem_toArray, List.getElem_cons_zero, List.getElem_cons_succ, List.setIfInBounds_toArray, List.set_cons_zero, List.set_cons_succ]
        refine wpAnyH_take (i := 9) (oi := ?o510) (v := ?v510) ?i510 (by kernel_rfl) (by kernel_rfl) (by kernel_rfl) ?q510 ?y510 (hHeld) ?r510
        case i510 => exact rfl
        case q510 => exact (fun _ _ _ h => h)
        case y510 =>
          refine Or.inl ⟨by rfl, ?_⟩
          intro w hSw
          (try dsimp only at hSw)
          go_simp
          first | done | rfl
        try simp only [Act.put, List.getElem_toArray, List.getElem_cons_zero, List.getElem_cons_succ, List.setIfInBounds_toArray, List.set_cons_zero, List.set_cons_succ]
        refine wpAnyH_take (i := 10) (oi := ?o511) (v := ?v511) ?i511 (by kernel_rfl) (by kernel_rfl) (by kernel_rfl) ?q511 ?y511 (hHeld) ?r511
        case i511 => exact rfl
        case q511 => exact (fun _ _ _ h => h)
        case y511 =>
          refine Or.inl ⟨by rfl, ?_⟩
          intro w hSw
          (try dsimp only at hSw)
          go_simp
          first | done | rfl
        try simp only [Act.put, List.getElem_toArray, List.getElem_cons_zero, List.getElem_cons_succ, List.setIfInBounds_toArray, List.set_cons_zero, List.set_cons_succ]
        refine wpAnyH_take (i := 11) (oi := ?o512) (v := ?v512) ?i512 (by kernel_rfl) (by kernel_rfl) (by kernel_rfl) ?q512 ?y512 (hHeld) ?r512
        case i512 => exact rfl
        case q512 => exact (fun _ _ _ h => h)
        case y512 =>
          refine Or.inl ⟨by rfl, ?_⟩
          intro w hSw
          (try dsimp only at hSw)
          go_simp
          first | done | rfl
        try simp only [Act.put, List.getElem_toArray, List.getElem_cons_zero, List.getElem_cons_succ, List.setIfInBounds_toArray, List.set_cons_zero, List.set_cons_succ]
        refine wpAnyH_ready (rs := [12]) (by kernel_rfl) (by simp) ?_
        refine AllReadyH.cons (i := 12) (o := ?o513) ?i513 (fun K hK => ?_) AllReadyH.nil
        case i513 => exact rfl
        go_simp
        (with_reducible refine (implInsOkM x.o x.a x.b x.c x.n x.m w7.drew (HO.out.below ((y3.trans (z7.mono y3.size)).drew))).mono ?_)
        rintro e w8 ⟨rfl, hb8⟩
        have hb78 : Below w7.heap.size w7 w8 := (Below.refl w7.heap.size w7).drew.trans hb8
        have eOK : insB x.o x.a x.b x.c x.n x.m = true := HOK.out
        rw [eOK]
        go_wp2_with fail
        refine hK.out _ _ ((HC.out _ hb78)) (fun hHeld => ?_)
        clear hK K
        try simp only [Act.put, List.getElem_toArray, List.getElem_cons_zero, List.getElem_cons_succ, List.setIfInBounds_toArray, List.set_cons_zero, List.set_cons_succ]
        refine wpAnyH_take (i := 13) (oi := ?o514) (v := ?v514) ?i514 (by kernel_rfl) (by kernel_rfl) (by kernel_rfl) ?q514 ?y514 (hHeld) ?r514
        case i514 => exact rfl
        case q514 => exact (fun _ _ _ h => h)
        case y514 =>
          refine Or.inl ⟨by rfl, ?_⟩
          intro w hSw
          (try dsimp only at hSw)
          go_simp
          first | done | rfl
        try simp only [Act.put, List.getElem_toArray, List.getElem_cons_zero, List.getElem_cons_succ, List.setIfInBounds_toArray, List.set_cons_zero, List.set_cons_succ]
        refine wpAnyH_take (i := 14) (oi := ?o515) (v := ?v515) ?i515 (by kernel_rfl) (by kernel_rfl) (by kernel_rfl) ?q515 ?y515 (hHeld) ?r515
        case i515 => exact rfl
        case q515 => exact (fun _ _ _ h => h)
        case y515 =>
          refine Or.inl ⟨by rfl, ?_⟩
          intro w hSw
          (try dsimp only at hSw)
          go_simp
          first | done | rfl
        try simp only [Act.put, List.getElem_toArray, List.getElem_cons_zero, List.getElem_cons_succ, List.setIfInBounds_toArray, List.set_cons_zero, List.set_cons_succ]
        refine wpAnyH_done (by kernel_rfl) ?_ _
        have HB8 : Hid (Below w3.heap.size w3 w8) := z7.trans (hb78.mono z7.size)
        go_wp2_with fail
        go_roundw
        case rel => exact ⟨j + 1, by omega, by go_num, HB8⟩
        case measure => simp [intOf]; omega
      · have hjn : j = n2 := by omega
        subst hjn
        have H4 := drawDecodeM a n c l wr (HR.out.below yr) hn
        go_wp2_with fail
        refine H4.mono ?_
        rintro e w5 ⟨a5, n5, c5, l5, k, rfl, r5, hc5, hm5, hnil5, hn5, hk5, hb5⟩
        have y5 : Below w.heap.size w w5 := yr.trans (hb5.mono yr.size)
        have H5 := implDecodeM a5 n5 c5 l5 k w5 r5 hc5 hm5 (HO.out.below y5)
        have R5 : Hid (BRow w5 a5 n5 l5) := r5
        have HF0 := dec_back (k := k) r5.1 r5.2.1
        have HF : Hid _ := HF0
        have HM5 : Hid (c5 ≤ maxLen) := hm5
        unfold maxLen at hm5
        have HD := fun (wx : World) (hb : Below w5.heap.size w5 wx) => implDecodeM a5 n5 c5 l5 ((n5 : Int) / 12) wx (R5.out.below hb) hc5 HM5.out (HO.out.below (y5.trans (hb.mono y5.size)))
        unfold decN decM at HD
        rw [dec_end] at HD
        simp only [sel, cond_false] at HD
        have hLL := r5.1
        clear H4 hb5 r5 HF0
        generalize sel (decOk l5 n5 k) (bt l5 k 0) = v0 at *
        generalize sel (decOk l5 n5 k) (bt l5 k 1) = v1 at *
        generalize sel (decOk l5 n5 k) (bt l5 k 2) = v2 at *
        generalize sel (decOk l5 n5 k) (bt l5 k 3) = v3 at *
        generalize decN l5 n5 k = v4 at *
        generalize decM l5 n5 k = v5 at *
        generalize decOk l5 n5 k = fine at *
        go_wp2_with fail
        refine H5.mono ?_
        rintro e w6 ⟨rfl, hb6⟩
        have x7 := heap_new w6 #[.int .i64 v0, .int .i64 v1, .int .i64 v2, .int .i64 v3, .int .i64 v4, .int .i64 v5] 26
        have b67 : Below w6.heap.size w6 (w6.alloc (.cells #[.int .i64 v0, .int .i64 v1, .int .i64 v2, .int .i64 v3, .int .i64 v4, .int .i64 v5] 26)) := (Below.refl _ _).alloc (Nat.le_refl _) _
        have z7 : Below w5.heap.size w5 (w6.alloc (.cells #[.int .i64 v0, .int .i64 v1, .int .i64 v2, .int .i64 v3, .int .i64 v4, .int .i64 v5] 26)) := hb6.trans (b67.mono hb6.size)
        clear H5 hb6 b67
        go_upto_region 16 with fail
        generalize w6.alloc (.cells #[.int .i64 v0, .int .i64 v1, .int .i64 v2, .int .i64 v3, .int .i64 v4, .int .i64 v5] 26) = w7 at *
        obtain ⟨q0, q1, q2, q3, q4, q5, _⟩ := row6 x7
        have z8 : Below w5.heap.size w5 (w7.alloc (.cells #[.int .i64 v0, .int .i64 v1, .int .i64 v2, .int .i64 v3, .int .i64 v4, .int .i64 v5] 26)) := z7.alloc z7.size _
        have H8 := implEncT (some ⟨w7.heap.size, 0, none⟩) 1 1 [⟨v0, v1, v2, v3, v4, v5⟩] _ (one_ins w7 ⟨v0, v1, v2, v3, v4, v5⟩) (by omega) (HO.out.below (y5.trans (z8.mono y5.size)))
        go_wp2_with fail
        refine H8.mono ?_
        rintro e w9 ⟨a9, c9, rfl, m9⟩
        have z9 : Below w5.heap.size w5 w9 := z8.trans (m9.below.mono z8.size)
        have R9 : Hid (BRow w9 a9 (encR [⟨v0, v1, v2, v3, v4, v5⟩] 1).length (encR [⟨v0, v1, v2, v3, v4, v5⟩] 1)) := m9.row
        have H9 := HD w9 z9
        clear H8 q0 q1 q2 q3 q4 q5 m9 z7 z8 x7 HD
        have hdv : Int.tdiv (n5 : Int) 12 = (n5 : Int) / 12 := Int.tdiv_eq_ediv_of_nonneg (by omega)
        go_wp2_with fail
        refine H9.mono ?_
        rintro e w10 ⟨rfl, hb10⟩
        have z10 : Below w5.heap.size w5 w10 := z9.trans (hb10.mono z9.size)
        have b1011 : Below w10.heap.size w10 (w10.alloc (.cells #[.int .i64 0, .int .i64 0, .int .i64 0, .int .i64 0, .int .i64 0, .int .i64 0] 26)) := (Below.refl _ _).alloc (Nat.le_refl _) _
        have z11 : Below w5.heap.size w5 (w10.alloc (.cells #[.int .i64 0, .int .i64 0, .int .i64 0, .int .i64 0, .int .i64 0, .int .i64 0] 26)) := z10.trans (b1011.mono z10.size)
        have R11 : Hid (BRow (w10.alloc (.cells #[.int .i64 0, .int .i64 0, .int .i64 0, .int .i64 0, .int .i64 0, .int .i64 0] 26)) a9 (encR [⟨v0, v1, v2, v3, v4, v5⟩] 1).length (encR [⟨v0, v1, v2, v3, v4, v5⟩] 1)) := (R9.out.below hb10).below b1011
        clear H9 hb10 z9 z10 R9 b1011
        go_upto_region 18 with fail
        generalize w10.alloc (.cells #[.int .i64 0, .int .i64 0, .int .i64 0, .int .i64 0, .int .i64 0, .int .i64 0] 26) = w11 at *
        have y11 : Below w.heap.size w w11 := y5.trans (z11.mono y5.size)
        cases fine
        · go_wp2_with fail
          go_ret
          exact ⟨rfl, y11⟩
        · obtain ⟨j, rfl, hj, hok, henc⟩ := HF.out rfl
          obtain ⟨e1, e2⟩ := encOk_one hok
          have hl12 : (enc6 ⟨v0, v1, v2, v3, v4, v5⟩).length = 12 := rfl
          have R12 : BRow w11 a9 12 (enc6 ⟨v0, v1, v2, v3, v4, v5⟩) := by have := R11.out; rw [e2] at this; exact this
          rw [e1, e2, hl12]
          obtain ⟨b, off, rfl, _⟩ := R5.out.2.2 (by omega)
          have hP := (R5.out.below z11).part (lo := 12 * j) (m := 12) (by omega)
          rw [← henc] at hP
          have HS := fun cx cy => sameM a9 12 cx (enc6 ⟨v0, v1, v2, v3, v4, v5⟩) (some ⟨b, off + 12 * j, none⟩) 12 cy (enc6 ⟨v0, v1, v2, v3, v4, v5⟩) w11 R12 hP
          rw [decide_eq_true rfl] at HS
          clear hP henc hok e1 e2 R12
          go_wp2_with fail
          refine (HS _ _).mono ?_
          rintro e w12 ⟨rfl, rfl⟩
          go_wp2_with fail
          go_ret
          exact ⟨rfl, y11⟩
end Go.Proofs.YtcidckmocmdijaaDoor

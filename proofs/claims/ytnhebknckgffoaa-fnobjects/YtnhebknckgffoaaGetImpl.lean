/- GetNum: the number at a place, and where it ends; 0, -1 where there is none. -/
import Derived.Test.YtnhebknckgffoaaGetM
import Derived.Test.YtnhebknckgffoaaArrEq
import Derived.Deep.RegionWith
namespace Go.Proofs.Ytnhebknckgffoaa
open Go.RowKit
set_option linter.unusedVariables false

theorem six_cells {w2 w3 : World} {b : Nat} {y0 y1 y2 y3 y4 : Int} {k : Nat} (hb : Below w2.heap.size w2 w3) (hs : b < w2.heap.size) (q0 : w2.cell? ⟨b, 0, none⟩ = some (.int .u8 y0)) (q1 : w2.cell? ⟨b, 1, none⟩ = some (.int .u8 y1)) (q2 : w2.cell? ⟨b, 2, none⟩ = some (.int .u8 y2))
    (q3 : w2.cell? ⟨b, 3, none⟩ = some (.int .u8 y3)) (q4 : w2.cell? ⟨b, 4, none⟩ = some (.int .u8 y4)) (q5 : w2.cell? ⟨b, 5, none⟩ = some (.int .i64 k)) :
    w3.cell? ⟨b, 0, none⟩ = some (.int .u8 y0) ∧ w3.cell? ⟨b, 1, none⟩ = some (.int .u8 y1) ∧ w3.cell? ⟨b, 2, none⟩ = some (.int .u8 y2) ∧ w3.cell? ⟨b, 3, none⟩ = some (.int .u8 y3) ∧ w3.cell? ⟨b, 4, none⟩ = some (.int .u8 y4) ∧ w3.cell? ⟨b, 5, none⟩ = some (.int .i64 k) :=
  ⟨(hb.cell (p := ⟨b, 0, none⟩) hs).trans q0, (hb.cell (p := ⟨b, 1, none⟩) hs).trans q1, (hb.cell (p := ⟨b, 2, none⟩) hs).trans q2, (hb.cell (p := ⟨b, 3, none⟩) hs).trans q3, (hb.cell (p := ⟨b, 4, none⟩) hs).trans q4, (hb.cell (p := ⟨b, 5, none⟩) hs).trans q5⟩

theorem wrap_in {x : Int} (h0 : 0 ≤ x) (h1 : x ≤ 9223372036854775807) : IntKind.i64.wrap x = x := by
  rw [IntKind.wrap_i64]
  omega

theorem rowV_inj {d d' : List Int} (h5 : d.length ≤ 5) (hl : d.length = d'.length) (h : rowV d = rowV d') : d = d' := by
  unfold rowV at h
  simp only [Value.agg.injEq, Array.mk.injEq, List.cons.injEq, Value.int.injEq, true_and, and_true] at h
  apply List.ext_getElem hl
  intro i h1 h2
  have : i = 0 ∨ i = 1 ∨ i = 2 ∨ i = 3 ∨ i = 4 := by omega
  rcases this with rfl | rfl | rfl | rfl | rfl
  · have := h.1; simpa [h1, h2] using this
  · have := h.2.1; simpa [h1, h2] using this
  · have := h.2.2.1; simpa [h1, h2] using this
  · have := h.2.2.2.1; simpa [h1, h2] using this
  · have := h.2.2.2.2.1; simpa [h1, h2] using this

theorem row_names (d : List Int) : ∃ y0 y1 y2 y3 y4 : Int, ∃ k : Nat, rowV d = .agg #[.int .u8 y0, .int .u8 y1, .int .u8 y2, .int .u8 y3, .int .u8 y4, .int .i64 k] ∧ k = d.length := ⟨_, _, _, _, _, _, rfl, rfl⟩

set_option maxRecDepth 100000 in
set_option maxHeartbeats 2000000 in
theorem implGetM (a : Option Addr) (n c : Nat) (l : List Int) (t : Int) (w : World) (h : BRow w a n l) (hn : n ≤ 1073741824) (hnc : n ≤ c) (hcm : c ≤ maxLen) :
    Calls Try.prog 44 #[.slice a n c, .int .i64 t] w fun e w' => e = .returned (.tuple #[.int .i64 (getL l t).1, .int .i64 (getL l t).2]) ∧ Below w.heap.size w w' := by
  have hby := h.2.1
  have hl := h.1
  have HL : Hid _ := hl
  clear hl
  go_enter Try.func44, Try.ntmps44
  go_wp2_with fail
  refine (rowAtM a n c l t _ h hn hnc hcm).mono ?_
  rintro e w1 ⟨d, en, rfl, hd5, hb1, hpost⟩
  by_cases hen : en = 0
  · subst hen
    have hR : (0 ≤ t ∧ t ≤ (l.length : Int)) ∧ getR 5 (l.drop t.toNat) = some d := by
      unfold rowPost at hpost
      split at hpost
      · omega
      · refine ⟨by omega, ?_⟩
        cases hg : getR 5 (l.drop t.toNat) with
        | none => rw [hg] at hpost; simp at hpost
        | some d' => rw [hg] at hpost; rw [hpost.1]
    obtain ⟨ht, hR⟩ := hR
    have ht0 : 0 ≤ t := ht.1
    have ht1 : t ≤ 1073741824 := by have h1 := ht.2; rw [HL.out] at h1; omega
    have hdw := getR_whole hR (fun x hx => hby x (List.mem_of_mem_drop hx))
    have hdb := getR_bytes hR (fun x hx => hby x (List.mem_of_mem_drop hx))
    have hG : getL l t = if badEnd d = true ∨ 2147483647 < valI d then (0, -1) else (valI d, t + d.length) := by
      unfold getL; rw [if_neg (by omega), hR]
    have hd0 : 0 < d.length := by cases d with | nil => exact hdw.1.elim | cons => simp
    have hv := valI_val d hdb
    have HR : Hid _ := hR
    have HG : Hid _ := hG
    have HV : Hid _ := hv
    clear hR hG hv hpost hby h
    have hnm : Hid (∀ wx, Calls Try.prog 62 #[rowV d] wx fun e w' => e = .returned (.int .i64 (valI d)) ∧ Below wx.heap.size wx w') := fun wx => numberM d wx hd0 hd5 hdb
    obtain ⟨y0, y1, y2, y3, y4, k, hrow, hk⟩ := row_names d
    have HRow : Hid _ := hrow
    have HK : Hid _ := hk
    have hk5 : k ≤ 5 := by omega
    have HB : Hid (∀ x ∈ d, 0 ≤ x ∧ x ≤ 255) := hdb
    have HW : Hid _ := hdw
    rw [hrow]
    clear hrow hk hdb hdw hd0 hd5
    go_wp2_with fail
    rw [← HRow.out]
    refine (hnm.out _).mono ?_
    rintro e w2 ⟨rfl, hb2⟩
    have hs1 := hb1.size
    have hs2 : w1.heap.size + 1 ≤ w2.heap.size := by have := hb2.size; simpa using this
    have hB2 : Below w.heap.size w w2 := (hb1.alloc hs1 _).trans (hb2.mono (by simp; omega))
    have q0 : w2.cell? ⟨w1.heap.size, 0, none⟩ = some (.int .u8 y0) := (hb2.cell (p := ⟨w1.heap.size, 0, none⟩) (by simp)).trans (by simp)
    have q1 : w2.cell? ⟨w1.heap.size, 1, none⟩ = some (.int .u8 y1) := (hb2.cell (p := ⟨w1.heap.size, 1, none⟩) (by simp)).trans (by simp)
    have q2 : w2.cell? ⟨w1.heap.size, 2, none⟩ = some (.int .u8 y2) := (hb2.cell (p := ⟨w1.heap.size, 2, none⟩) (by simp)).trans (by simp)
    have q3 : w2.cell? ⟨w1.heap.size, 3, none⟩ = some (.int .u8 y3) := (hb2.cell (p := ⟨w1.heap.size, 3, none⟩) (by simp)).trans (by simp)
    have q4 : w2.cell? ⟨w1.heap.size, 4, none⟩ = some (.int .u8 y4) := (hb2.cell (p := ⟨w1.heap.size, 4, none⟩) (by simp)).trans (by simp)
    have q5 : w2.cell? ⟨w1.heap.size, 5, none⟩ = some (.int .i64 k) := (hb2.cell (p := ⟨w1.heap.size, 5, none⟩) (by simp)).trans (by simp)
    clear hb1 hb2 hnm
    obtain ⟨v, hv⟩ : ∃ v, v = valI d := ⟨_, rfl⟩
    rw [← hv]
    have hv0 : 0 ≤ v := by rw [hv, HV.out]; omega
    have HVV : Hid _ := hv
    clear hv
    by_cases hbig : 2147483647 < v
    · have hfin : Hid (((0 : Int), (-1 : Int)) = getL l t) := by
        show _ = _
        rw [HG.out, if_pos (.inr (by rw [← HVV.out]; exact hbig))]
      go_wp2_with fail
      go_quiet (fail)
      go_wp2
      go_ret2
      exact ⟨ret_pair hfin.out, below_drewN hB2 _⟩
    · obtain ⟨m, rfl⟩ := Int.eq_ofNat_of_zero_le hv0
      have hm : m ≤ 2147483647 := by omega
      have hdec : decide (2147483647 < (m : Int)) = false := by simpa using hbig
      have hmv : m = val d := by have h1 := HVV.out; have h2 := HV.out; omega
      have HM : Hid _ := hmv
      clear hmv hbig
      by_cases hsame : num m = d
      · have hro : Hid (∀ wx, Calls Try.prog 36 #[.int .i64 m] wx fun e w' => e = .returned (.agg #[.int .u8 y0, .int .u8 y1, .int .u8 y2, .int .u8 y3, .int .u8 y4, .int .i64 k]) ∧ Below wx.heap.size wx w') := by
          intro wx
          refine (rowOfB m wx hm).mono ?_
          rintro e w' ⟨rfl, hb⟩
          exact ⟨by rw [hsame, HRow.out], hb⟩
        have hnb := (badEnd_num d HW.out.1).2 (by rw [← HM.out]; exact hsame)
        have hfin : Hid (((m : Int), t + (k : Int)) = getL l t) := by
          show _ = _
          rw [HG.out, if_neg (by rw [hnb, ← HVV.out]; simp; omega), HVV.out, HK.out]
        clear hsame hnb
        have harr := arr5_run y0 y1 y2 y3 y4 y0 y1 y2 y3 y4
        have hsm := arrB_same y0 y1 y2 y3 y4
        go_wp2_with fail
        go_region_with (go_at_call 36; refine (hro.out _).mono ?_; rintro e w3 ⟨rfl, hb3⟩; obtain ⟨r0, r1, r2, r3, r4, r5⟩ := six_cells hb3 (by simp; omega) q0 q1 q2 q3 q4 q5)
        all_goals
          have hB3 : Below w.heap.size w w3 := hB2.drew.trans (hb3.mono hB2.size)
          clear hb3 hB2 q0 q1 q2 q3 q4 q5 hro harr hsm
          go_wp2_with fail
          go_quiet (fail)
          go_wp2
          go_ret2
          exact ⟨ret_pair (by rw [wrap_in (by omega) (by omega)]; exact hfin.out), below_drewN hB3 _⟩
      · have hnb : badEnd d = true := by
          cases hb : badEnd d with
          | true => rfl
          | false => exact absurd (by rw [HM.out]; exact (badEnd_num d HW.out.1).1 hb) hsame
        have hfin : Hid (((0 : Int), (-1 : Int)) = getL l t) := by
          show _ = _
          rw [HG.out, if_pos (.inl hnb)]
        have hlen5 := num_len5 m hm
        obtain ⟨z0, z1, z2, z3, z4, j, hrow2, hj⟩ := row_names (num m)
        have hro : Hid (∀ wx, Calls Try.prog 36 #[.int .i64 m] wx fun e w' => e = .returned (.agg #[.int .u8 z0, .int .u8 z1, .int .u8 z2, .int .u8 z3, .int .u8 z4, .int .i64 j]) ∧ Below wx.heap.size wx w') := by
          intro wx
          refine (rowOfB m wx hm).mono ?_
          rintro e w' ⟨rfl, hb⟩
          exact ⟨by rw [hrow2], hb⟩
        have hdiff : arrB z0 z1 z2 z3 z4 y0 y1 y2 y3 y4 = true → ((j : Int) == (k : Int)) = false := by
          intro hb
          rw [beq_eq_false_iff_ne]
          intro hjk
          obtain ⟨rfl, rfl, rfl, rfl, rfl⟩ := arrB_eq hb
          have hjk' : j = k := by omega
          subst hjk'
          exact hsame (rowV_inj hlen5 (by rw [← hj, HK.out]) (by rw [hrow2, HRow.out]))
        clear hsame hnb hrow2 hj hlen5
        have harr := arr5_run z0 z1 z2 z3 z4 y0 y1 y2 y3 y4
        cases hab : arrB z0 z1 z2 z3 z4 y0 y1 y2 y3 y4 with
        | false =>
          clear hdiff
          go_wp2_with fail
          go_region_with (go_at_call 36; refine (hro.out _).mono ?_; rintro e w3 ⟨rfl, hb3⟩; obtain ⟨r0, r1, r2, r3, r4, r5⟩ := six_cells hb3 (by simp; omega) q0 q1 q2 q3 q4 q5)
          all_goals
            have hB3 : Below w.heap.size w w3 := hB2.drew.trans (hb3.mono hB2.size)
            clear hb3 hB2 q0 q1 q2 q3 q4 q5 hro harr hab
            go_wp2_with fail
            go_ret2
            exact ⟨ret_pair hfin.out, hB3⟩
        | true =>
          have hjk := hdiff hab
          clear hdiff
          go_wp2_with fail
          go_region_with (go_at_call 36; refine (hro.out _).mono ?_; rintro e w3 ⟨rfl, hb3⟩; obtain ⟨r0, r1, r2, r3, r4, r5⟩ := six_cells hb3 (by simp; omega) q0 q1 q2 q3 q4 q5)
          all_goals
            have hB3 : Below w.heap.size w w3 := hB2.drew.trans (hb3.mono hB2.size)
            clear hb3 hB2 q0 q1 q2 q3 q4 q5 hro harr hab hjk
            go_wp2_with fail
            go_ret2
            exact ⟨ret_pair hfin.out, hB3⟩
  · have hen' : en = 1 ∨ en = 2 := by
      unfold rowPost at hpost
      split at hpost
      · exact hpost
      · cases hg : getR 5 (l.drop t.toNat) with
        | none => rw [hg] at hpost; exact hpost
        | some d' => rw [hg] at hpost; exact absurd hpost.2 hen
    have hfin : Hid (((0 : Int), (-1 : Int)) = getL l t) := by
      show _ = _
      unfold getL
      unfold rowPost at hpost
      split at hpost
      · rw [if_pos (by assumption)]
      · rw [if_neg (by assumption)]
        cases hg : getR 5 (l.drop t.toNat) with
        | none => rfl
        | some d' => rw [hg] at hpost; exact absurd hpost.2 hen
    obtain ⟨y0, y1, y2, y3, y4, k, hrow, hk⟩ := row_names d
    rw [hrow]
    have hs1 := hb1.size
    have hB1 : Below w.heap.size w (w1.alloc (.cells #[.int .u8 y0, .int .u8 y1, .int .u8 y2, .int .u8 y3, .int .u8 y4, .int .i64 k] 75)) := hb1.alloc hs1 _
    clear hrow hk hpost hen h hby hd5
    rcases hen' with rfl | rfl
    all_goals
      go_wp2
      go_ret2
      exact ⟨ret_pair hfin.out, hB1⟩
end Go.Proofs.Ytnhebknckgffoaa

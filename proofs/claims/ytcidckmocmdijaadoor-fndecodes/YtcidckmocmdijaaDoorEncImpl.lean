/- Encode as it is built. -/
import Derived.Test.YtcidckmocmdijaaDoorEncWrite
namespace Go.Proofs.YtcidckmocmdijaaDoor
open Go.RowKit
set_option linter.unusedVariables false
set_option linter.unusedSimpArgs false
set_option maxRecDepth 100000

theorem set_at (A R : List Int) (o i : Nat) (v : Int) (h : o = A.length) : (A ++ R).set (o + i) v = A ++ R.set i v := by
  subst h
  rw [List.set_append_right _ _ (by omega), Nat.add_sub_cancel_left]
theorem set_at0 (A R : List Int) (o : Nat) (v : Int) (h : o = A.length) : (A ++ R).set o v = A ++ R.set 0 v := set_at A R o 0 v h

theorem put12_step (A R : List Int) (o : Nat) (x : In6) (h : o = A.length) (y0 y1 y2 y3 y4 y5 y6 y7 y8 y9 y10 y11 : Int) : put12 (A ++ (y0 :: y1 :: y2 :: y3 :: y4 :: y5 :: y6 :: y7 :: y8 :: y9 :: y10 :: y11 :: R)) o x.o x.a x.b x.c x.n x.m = (A ++ enc6 x) ++ R := by
  rw [put12, putN_four, putN_four, put4]
  simp only [Nat.add_assoc, Nat.reduceAdd]
  rw [set_at0 _ _ _ _ h]
  simp only [set_at _ _ _ _ _ h, List.set_cons_zero, List.set_cons_succ]
  simp [enc6, four]

theorem zeros_next {n k : Nat} (h : k < n) : List.replicate (12 * (n - k)) (0 : Int) = 0 :: 0 :: 0 :: 0 :: 0 :: 0 :: 0 :: 0 :: 0 :: 0 :: 0 :: 0 :: List.replicate (12 * (n - (k + 1))) 0 := by
  have e : 12 * (n - k) = 12 * (n - (k + 1)) + 12 := by omega
  rw [e]
  rfl

theorem enc_next {l : List In6} {n k : Nat} {x : In6} (hl : l.length = n) (hk : k < n) (hx : l[k]? = some x) :
    put12 (encL (l.take k) ++ List.replicate (12 * (n - k)) 0) (12 * k) x.o x.a x.b x.c x.n x.m = encL (l.take (k + 1)) ++ List.replicate (12 * (n - (k + 1))) 0 := by
  rw [zeros_next hk, put12_step _ _ _ _ (by rw [encL_len, List.length_take, hl, Nat.min_eq_left (Nat.le_of_lt hk)]), encL_next hx]

theorem enc_len {l : List In6} {n k : Nat} (hl : l.length = n) (hk : k ≤ n) : (encL (l.take k) ++ List.replicate (12 * (n - k)) (0 : Int)).length = 12 * n := by
  rw [List.length_append, encL_len, List.length_take, hl, Nat.min_eq_left hk, List.length_replicate]
  omega

theorem six_in (x : Int) (h : 0 ≤ x ∧ x ≤ 255) : 0 ≤ x ∧ x ≤ 255 := h
theorem enc6_bytes (x : In6) : ∀ y ∈ enc6 x, 0 ≤ y ∧ y ≤ 255 := by
  intro y hy
  simp only [enc6, four, List.mem_append, List.mem_cons, List.not_mem_nil, or_false] at hy
  omega
theorem encL_bytes (l : List In6) : ∀ y ∈ encL l, 0 ≤ y ∧ y ≤ 255 := by
  intro y hy
  obtain ⟨x, _, hx⟩ := List.mem_flatMap.1 hy
  exact enc6_bytes x y hx

theorem own_of_BB {w : World} {base g k : Nat} {m : List Int} (h : BB w g m) (hb : base ≤ g) (hm : m.length = k) (hk : k ≤ maxLen) (hby : ∀ x ∈ m, 0 ≤ x ∧ x ≤ 255) : Own w base (.slice (some ⟨g, 0, none⟩) k k) k m := by
  subst hm
  exact own_of_block h hb hk hby

theorem made_zeros (k : Nat) : (madeCells #[Value.int IntKind.u8 0] k).toList = (List.replicate k (0 : Int)).map (Value.int .u8) := by
  have e : (madeCells #[Value.int IntKind.u8 0] k).toList = List.replicate k (Value.int IntKind.u8 0) := toList_madeCells_one _ _
  rw [e, List.map_replicate]

set_option maxHeartbeats 8000000 in
theorem implEncodeM (a : Option Addr) (n c : Nat) (l : List In6) (w : World) (h : IRow w a n l) (hn : n ≤ 1048576) (hO : Ops w) :
    Calls Tryd.prog 4 #[.slice a n c] w fun e w' => ∃ v, e = .returned (.tuple #[v, .bool (encOk l n)]) ∧ Own w' w.heap.size v (encR l n).length (encR l n) ∧ Below w.heap.size w w' := by
  obtain ⟨i0, hi, hz0, hz1, hz2⟩ := info_parts info5
  have HI : Hid (IRow w a n l) := h
  have Hl : Hid (l.length = n) := h.1
  have HO : Hid (Ops w) := hO
  clear h hO
  unfold encR
  by_cases h4 : n ≤ 4000
  · have HOK : Hid (∀ b, l.all okI = b → encOk l n = b) := by
      intro b hb
      simp [encOk, h4, hb]
    have hcut : ¬ (4000 : Int) < n := by omega
    cases hall : l.all okI
    · rw [HOK.out _ hall]
      simp only [cond_false, List.length_nil]
      have HF : Hid (l.all okI = false) := hall
      clear HOK hall
      go_enter Tryd.func4, Tryd.ntmps4
      go_wp2_with (at_make; refine wpList_make_full _ rfl _ _ 22 rfl w.heap.size 5 i0 _ 1 Tryd.underlying22 hi hz0 hz1 _ _ _ _ (n * 12) rfl rfl rfl rfl (by rw [hz2]; omega) (by unfold maxLen; omega) (Nat.le_refl _) ?_)
      intro w1 hown hgrow
      have hb1 : Below w.heap.size w w1 := (Below.refl _ _).grown hgrow (Nat.le_refl _) (by intro k hk; cases hk)
      have hB1 : Hid (BB w1 w.heap.size (encL (l.take 0) ++ List.replicate (12 * (n - 0)) 0)) := by
        show BB _ _ _
        have := block_of_owns hown
        rw [made_zeros] at this
        rw [Nat.mul_comm n 12] at this
        simpa [BB, encL] using this
      have hL1 : Hid (Below w.heap.size w w1) := hb1
      clear hown hgrow hb1 hi hz0 hz1 hz2 i0
      have e12 : n * 12 = 12 * n := Nat.mul_comm _ _
      rw [e12]
      generalize hg : w.heap.size = g at *
      have HG : Hid (w.heap.size = g) := hg
      clear hg e12
      go_wp2_with fail
      go_loopw [16] (fun i wr => ∃ k : Nat, k ≤ n ∧ i = .int .i64 k ∧ Hid ((l.take k).all okI = true) ∧ Hid (BB wr g (encL (l.take k) ++ List.replicate (12 * (n - k)) 0)) ∧ Hid (Below g w wr)) (fun i _ => n - (intOf i).toNat)
      case atStart => exact ⟨0, Nat.zero_le _, rfl, by show _ = _; simp, hB1, hL1⟩
      case round =>
        obtain ⟨k, hk, rfl, ha, hw, hb⟩ := hrel
        clear hB1 hL1
        by_cases hlt : k < n
        · obtain ⟨b, off, rfl, _⟩ := HI.out.2 (Nat.lt_of_le_of_lt (Nat.zero_le _) hlt)
          obtain ⟨x, hx, p0, p1, p2, p3, p4, p5⟩ := IRow.el (IRow.below (show IRow w (some ⟨b, off, none⟩) n l from HI.out) (by rw [HG.out]; exact hb.out)) hlt
          have HX : Hid _ := hx
          have HS := implInsOkM x.o x.a x.b x.c x.n x.m
          have HE : Hid (okI x = insB x.o x.a x.b x.c x.n x.m) := rfl
          generalize insB x.o x.a x.b x.c x.n x.m = ok at *
          clear hx
          have hle : g ≤ wr.heap.size := Nat.le_of_lt hw.out.lt
          go_upto_region 7 with fail
          have hx2 := heap_new wr #[.int .i64 x.o, .int .i64 x.a, .int .i64 x.b, .int .i64 x.c, .int .i64 x.n, .int .i64 x.m] 26
          have hb2 : Below g w (wr.alloc (.cells #[.int .i64 x.o, .int .i64 x.a, .int .i64 x.b, .int .i64 x.c, .int .i64 x.n, .int .i64 x.m] 26)) := hb.out.alloc hle _
          have hw2 : BB (wr.alloc (.cells #[.int .i64 x.o, .int .i64 x.a, .int .i64 x.b, .int .i64 x.c, .int .i64 x.n, .int .i64 x.m] 26)) g (encL (l.take k) ++ List.replicate (12 * (n - k)) 0) := (old_block hw.out.lt).trans hw.out
          have hne : g ≠ wr.heap.size := Nat.ne_of_lt hw.out.lt
          generalize wr.alloc (.cells #[.int .i64 x.o, .int .i64 x.a, .int .i64 x.b, .int .i64 x.c, .int .i64 x.n, .int .i64 x.m] 26) = w2 at *
          generalize wr.heap.size = gx at *
          obtain ⟨a0, a1, a2, a3, a4, a5, _⟩ := row6 hx2
          have HX2 : Hid _ := hx2
          have HB2 : Hid (Below g w w2) := hb2
          have HW2 : Hid (BB w2 g (encL (l.take k) ++ List.replicate (12 * (n - k)) 0)) := hw2
          clear hx2 hb2 hw2 p0 p1 p2 p3 p4 p5 hb hw hle
          go_wp2_with fail
          refine (HS _ (HO.out.below (by rw [HG.out]; exact HB2.out))).mono ?_
          rintro e w3 ⟨rfl, hb3⟩
          have hx3 := zero_keep HX2.out hb3
          have hB3 := HB2.out.trans (hb3.mono (Nat.le_of_lt HW2.out.lt))
          have hW3 : BB w3 g (encL (l.take k) ++ List.replicate (12 * (n - k)) 0) := HW2.out.below hb3 HW2.out.lt
          have HX3 : Hid _ := hx3
          have HB3 : Hid (Below g w w3) := hB3
          have HW3 : Hid (BB w3 g (encL (l.take k) ++ List.replicate (12 * (n - k)) 0)) := hW3
          clear hx3 hB3 hW3 hb3 HX2 HB2 HW2 a0 a1 a2 a3 a4 a5 HS
          cases ok
          · go_wp2_with fail
            go_ret2
            exact ⟨_, rfl, own_nil _ _, by rw [HG.out]; exact HB3.out⟩
          · have hxl := (Array.getElem?_eq_some_iff.1 HX3.out).1
            have hO3 := HW3.out.drew
            have HK : Hid (∀ {wx : World}, But w3 wx g → wx.cell? ⟨gx, 0, none⟩ = some (.int .i64 x.o) ∧ wx.cell? ⟨gx, 1, none⟩ = some (.int .i64 x.a) ∧ wx.cell? ⟨gx, 2, none⟩ = some (.int .i64 x.b) ∧ wx.cell? ⟨gx, 3, none⟩ = some (.int .i64 x.c) ∧ wx.cell? ⟨gx, 4, none⟩ = some (.int .i64 x.n) ∧ wx.cell? ⟨gx, 5, none⟩ = some (.int .i64 x.m)) := by
              intro wx hbx
              obtain ⟨f0, f1, f2, f3, f4, f5, _⟩ := row6 ((hbx.rest gx hxl (Ne.symm hne)).trans HX3.out)
              exact ⟨f0, f1, f2, f3, f4, f5⟩
            have UwS : Hid (But w3 w3.drew g) := (But.refl _ _).drew
            have HwS : Hid (BB w3.drew g (encL (l.take k) ++ List.replicate (12 * (n - k)) 0)) := hO3
            clear hO3 hxl HX3 HW3
            go_upto_region 9 with fail
            refine wp_region_held_drew (S := fun wx => wx.cell? ⟨gx, 0, none⟩ = some (.int .i64 x.o) ∧ wx.cell? ⟨gx, 1, none⟩ = some (.int .i64 x.a) ∧ wx.cell? ⟨gx, 2, none⟩ = some (.int .i64 x.b) ∧ wx.cell? ⟨gx, 3, none⟩ = some (.int .i64 x.c) ∧ wx.cell? ⟨gx, 4, none⟩ = some (.int .i64 x.n) ∧ wx.cell? ⟨gx, 5, none⟩ = some (.int .i64 x.m)) (by kernel_rfl) (HK.out UwS.out) (fun hHeld => ?_)
            generalize w3.drew = wS at HwS UwS hHeld ⊢
            refine wpAnyH_take (i := 0) (oi := ?o501) (v := ?v501) ?i501 (by kernel_rfl) (by kernel_rfl) (by kernel_rfl) ?q501 ?y501 (hHeld) ?r501
            case i501 => exact rfl
            case q501 => exact (fun _ _ _ h => h)
            case y501 =>
              refine Or.inl ⟨by rfl, ?_⟩
              intro w hSw
              (try dsimp only at hSw)
              go_simp
              first | done | rfl
            try simp only [Act.put, List.getElem_toArray, List.getElem_cons_zero, List.getElem_cons_succ, List.setIfInBounds_toArray, List.set_cons_zero, List.set_cons_succ]
            refine wpAnyH_take (i := 1) (oi := ?o502) (v := ?v502) ?i502 (by kernel_rfl) (by kernel_rfl) (by kernel_rfl) ?q502 ?y502 (hHeld) ?r502
            case i502 => exact rfl
            case q502 => exact (fun _ _ _ h => h)
            case y502 =>
              refine Or.inl ⟨by rfl, ?_⟩
              intro w hSw
              (try dsimp only at hSw)
              go_simp
              first | done | rfl
            try simp only [Act.put, List.getElem_toArray, List.getElem_cons_zero, List.getElem_cons_succ, List.setIfInBounds_toArray, List.set_cons_zero, List.set_cons_succ]
            refine wpAnyH_take (i := 2) (oi := ?o503) (v := ?v503) ?i503 (by kernel_rfl) (by kernel_rfl) (by kernel_rfl) ?q503 ?y503 (hHeld) ?r503
            case i503 => exact rfl
            case q503 => exact (fun _ _ _ h => h)
            case y503 =>
              refine Or.inl ⟨by rfl, ?_⟩
              intro w hSw
              (try dsimp only at hSw)
              go_simp
              first | done | rfl
            try simp only [Act.put, List.getElem_toArray, List.getElem_cons_zero, List.getElem_cons_succ, List.setIfInBounds_toArray, List.set_cons_zero, List.set_cons_succ]
            refine wpAnyH_ready (rs := [3]) (by kernel_rfl) (by simp) ?_
            refine AllReadyH.cons (i := 3) (o := ?o504) ?i504 (fun K hK => ?_) AllReadyH.nil
            case i504 => exact rfl
            go_simp
            (with_reducible refine (insBytesM g 0 (12 * n) (12 * n) k wS (by omega) (Nat.le_refl _) (by unfold maxLen; omega)).mono ?_)
            rintro e wl ⟨rfl, rfl⟩
            rw [Nat.zero_add]
            go_wp2_with fail
            refine hK.out _ _ (HK.out UwS.out) (fun hHeld => ?_)
            clear hK K
            try simp only [Act.put, List.getElem_toArray, List.getElem_cons_zero, List.getElem_cons_succ, List.setIfInBounds_toArray, List.set_cons_zero, List.set_cons_succ]
            refine wpAnyH_ready (rs := [4]) (by kernel_rfl) (by simp) ?_
            refine AllReadyH.cons (i := 4) (o := ?o505) ?i505 (fun K hK => ?_) AllReadyH.nil
            case i505 => exact rfl
            go_simp
            (with_reducible refine (writeM x.o x.a x.b x.c x.n x.m g (12 * k) _ wl HwS.out (by rw [enc_len Hl.out hk]; omega)).mono ?_)
            rintro e w4 ⟨rfl, hb4, hu4⟩
            rw [enc_next Hl.out hlt HX.out] at hb4
            have HW4 : Hid (BB w4 g (encL (l.take (k + 1)) ++ List.replicate (12 * (n - (k + 1))) 0)) := hb4
            have U4 : Hid (But w3 w4 g) := UwS.out.trans hu4
            have HB4 : Hid (Below g w w4) := HB3.out.trans U4.out.below
            clear hb4 hu4 UwS HwS
            go_wp2_with fail
            refine hK.out _ _ (HK.out U4.out) (fun hHeld => ?_)
            clear hK K
            try simp only [Act.put, List.getElem_toArray, List.getElem_cons_zero, List.getElem_cons_succ, List.setIfInBounds_toArray, List.set_cons_zero, List.set_cons_succ]
            refine wpAnyH_done (by kernel_rfl) ?_ _
            go_wp2_with fail
            go_roundw
            case rel => exact ⟨k + 1, by omega, by go_num, all_take ha.out HX.out HE.out, HW4, HB4⟩
            case measure => simp [intOf]; omega
        · exfalso
          have : k = n := by omega
          subst this
          have hf := ha.out
          rw [List.take_of_length_le (by rw [Hl.out]; exact Nat.le_refl _), HF.out] at hf
          cases hf
    · rw [HOK.out _ hall]
      simp only [cond_true]
      have HT : Hid (l.all okI = true) := hall
      have HLen : Hid ((encL l).length = 12 * n) := by show _ = _; rw [encL_len, Hl.out]
      clear HOK hall
      go_enter Tryd.func4, Tryd.ntmps4
      go_wp2_with (at_make; refine wpList_make_full _ rfl _ _ 22 rfl w.heap.size 5 i0 _ 1 Tryd.underlying22 hi hz0 hz1 _ _ _ _ (n * 12) rfl rfl rfl rfl (by rw [hz2]; omega) (by unfold maxLen; omega) (Nat.le_refl _) ?_)
      intro w1 hown hgrow
      have hb1 : Below w.heap.size w w1 := (Below.refl _ _).grown hgrow (Nat.le_refl _) (by intro k hk; cases hk)
      have hB1 : Hid (BB w1 w.heap.size (encL (l.take 0) ++ List.replicate (12 * (n - 0)) 0)) := by
        show BB _ _ _
        have := block_of_owns hown
        rw [made_zeros] at this
        rw [Nat.mul_comm n 12] at this
        simpa [BB, encL] using this
      have hL1 : Hid (Below w.heap.size w w1) := hb1
      clear hown hgrow hb1 hi hz0 hz1 hz2 i0
      have e12 : n * 12 = 12 * n := Nat.mul_comm _ _
      rw [e12]
      generalize hg : w.heap.size = g at *
      have HG : Hid (w.heap.size = g) := hg
      clear hg e12
      go_wp2_with fail
      go_loopw [16] (fun i wr => ∃ k : Nat, k ≤ n ∧ i = .int .i64 k ∧ Hid (BB wr g (encL (l.take k) ++ List.replicate (12 * (n - k)) 0)) ∧ Hid (Below g w wr)) (fun i _ => n - (intOf i).toNat)
      case atStart => exact ⟨0, Nat.zero_le _, rfl, hB1, hL1⟩
      case round =>
        obtain ⟨k, hk, rfl, hw, hb⟩ := hrel
        clear hB1 hL1
        by_cases hlt : k < n
        · obtain ⟨b, off, rfl, _⟩ := HI.out.2 (Nat.lt_of_le_of_lt (Nat.zero_le _) hlt)
          obtain ⟨x, hx, p0, p1, p2, p3, p4, p5⟩ := IRow.el (IRow.below (show IRow w (some ⟨b, off, none⟩) n l from HI.out) (by rw [HG.out]; exact hb.out)) hlt
          have HX : Hid _ := hx
          have HS := implInsOkM x.o x.a x.b x.c x.n x.m
          rw [show insB x.o x.a x.b x.c x.n x.m = true from ok_of_all HT.out hx] at HS
          clear hx
          have hle : g ≤ wr.heap.size := Nat.le_of_lt hw.out.lt
          go_upto_region 7 with fail
          have hx2 := heap_new wr #[.int .i64 x.o, .int .i64 x.a, .int .i64 x.b, .int .i64 x.c, .int .i64 x.n, .int .i64 x.m] 26
          have hb2 : Below g w (wr.alloc (.cells #[.int .i64 x.o, .int .i64 x.a, .int .i64 x.b, .int .i64 x.c, .int .i64 x.n, .int .i64 x.m] 26)) := hb.out.alloc hle _
          have hw2 : BB (wr.alloc (.cells #[.int .i64 x.o, .int .i64 x.a, .int .i64 x.b, .int .i64 x.c, .int .i64 x.n, .int .i64 x.m] 26)) g (encL (l.take k) ++ List.replicate (12 * (n - k)) 0) := (old_block hw.out.lt).trans hw.out
          have hne : g ≠ wr.heap.size := Nat.ne_of_lt hw.out.lt
          generalize wr.alloc (.cells #[.int .i64 x.o, .int .i64 x.a, .int .i64 x.b, .int .i64 x.c, .int .i64 x.n, .int .i64 x.m] 26) = w2 at *
          generalize wr.heap.size = gx at *
          obtain ⟨a0, a1, a2, a3, a4, a5, _⟩ := row6 hx2
          have HX2 : Hid _ := hx2
          have HB2 : Hid (Below g w w2) := hb2
          have HW2 : Hid (BB w2 g (encL (l.take k) ++ List.replicate (12 * (n - k)) 0)) := hw2
          clear hx2 hb2 hw2 p0 p1 p2 p3 p4 p5 hb hw hle
          go_wp2_with fail
          refine (HS _ (HO.out.below (by rw [HG.out]; exact HB2.out))).mono ?_
          rintro e w3 ⟨rfl, hb3⟩
          have hx3 := zero_keep HX2.out hb3
          have hB3 := HB2.out.trans (hb3.mono (Nat.le_of_lt HW2.out.lt))
          have hW3 : BB w3 g (encL (l.take k) ++ List.replicate (12 * (n - k)) 0) := HW2.out.below hb3 HW2.out.lt
          have HX3 : Hid _ := hx3
          have HB3 : Hid (Below g w w3) := hB3
          have HW3 : Hid (BB w3 g (encL (l.take k) ++ List.replicate (12 * (n - k)) 0)) := hW3
          clear hx3 hB3 hW3 hb3 HX2 HB2 HW2 a0 a1 a2 a3 a4 a5 HS
          have hxl := (Array.getElem?_eq_some_iff.1 HX3.out).1
          have hO3 := HW3.out.drew
          have HK : Hid (∀ {wx : World}, But w3 wx g → wx.cell? ⟨gx, 0, none⟩ = some (.int .i64 x.o) ∧ wx.cell? ⟨gx, 1, none⟩ = some (.int .i64 x.a) ∧ wx.cell? ⟨gx, 2, none⟩ = some (.int .i64 x.b) ∧ wx.cell? ⟨gx, 3, none⟩ = some (.int .i64 x.c) ∧ wx.cell? ⟨gx, 4, none⟩ = some (.int .i64 x.n) ∧ wx.cell? ⟨gx, 5, none⟩ = some (.int .i64 x.m)) := by
            intro wx hbx
            obtain ⟨f0, f1, f2, f3, f4, f5, _⟩ := row6 ((hbx.rest gx hxl (Ne.symm hne)).trans HX3.out)
            exact ⟨f0, f1, f2, f3, f4, f5⟩
          have UwS : Hid (But w3 w3.drew g) := (But.refl _ _).drew
          have HwS : Hid (BB w3.drew g (encL (l.take k) ++ List.replicate (12 * (n - k)) 0)) := hO3
          clear hO3 hxl HX3 HW3
          go_upto_region 9 with fail
          refine wp_region_held_drew (S := fun wx => wx.cell? ⟨gx, 0, none⟩ = some (.int .i64 x.o) ∧ wx.cell? ⟨gx, 1, none⟩ = some (.int .i64 x.a) ∧ wx.cell? ⟨gx, 2, none⟩ = some (.int .i64 x.b) ∧ wx.cell? ⟨gx, 3, none⟩ = some (.int .i64 x.c) ∧ wx.cell? ⟨gx, 4, none⟩ = some (.int .i64 x.n) ∧ wx.cell? ⟨gx, 5, none⟩ = some (.int .i64 x.m)) (by kernel_rfl) (HK.out UwS.out) (fun hHeld => ?_)
          generalize w3.drew = wS at HwS UwS hHeld ⊢
          refine wpAnyH_take (i := 0) (oi := ?o506) (v := ?v506) ?i506 (by kernel_rfl) (by kernel_rfl) (by kernel_rfl) ?q506 ?y506 (hHeld) ?r506
          case i506 => exact rfl
          case q506 => exact (fun _ _ _ h => h)
          case y506 =>
            refine Or.inl ⟨by rfl, ?_⟩
            intro w hSw
            (try dsimp only at hSw)
            go_simp
            first | done | rfl
          try simp only [Act.put, List.getElem_toArray, List.getElem_cons_zero, List.getElem_cons_succ, List.setIfInBounds_toArray, List.set_cons_zero, List.set_cons_succ]
          refine wpAnyH_take (i := 1) (oi := ?o507) (v := ?v507) ?i507 (by kernel_rfl) (by kernel_rfl) (by kernel_rfl) ?q507 ?y507 (hHeld) ?r507
          case i507 => exact rfl
          case q507 => exact (fun _ _ _ h => h)
          case y507 =>
            refine Or.inl ⟨by rfl, ?_⟩
            intro w hSw
            (try dsimp only at hSw)
            go_simp
            first | done | rfl
          try simp only [Act.put, List.getElem_toArray, List.getElem_cons_zero, List.getElem_cons_succ, List.setIfInBounds_toArray, List.set_cons_zero, List.set_cons_succ]
          refine wpAnyH_take (i := 2) (oi := ?o508) (v := ?v508) ?i508 (by kernel_rfl) (by kernel_rfl) (by kernel_rfl) ?q508 ?y508 (hHeld) ?r508
          case i508 => exact rfl
          case q508 => exact (fun _ _ _ h => h)
          case y508 =>
            refine Or.inl ⟨by rfl, ?_⟩
            intro w hSw
            (try dsimp only at hSw)
            go_simp
            first | done | rfl
          try simp only [Act.put, List.getElem_toArray, List.getElem_cons_zero, List.getElem_cons_succ, List.setIfInBounds_toArray, List.set_cons_zero, List.set_cons_succ]
          refine wpAnyH_ready (rs := [3]) (by kernel_rfl) (by simp) ?_
          refine AllReadyH.cons (i := 3) (o := ?o509) ?i509 (fun K hK => ?_) AllReadyH.nil
          case i509 => exact rfl
          go_simp
          (with_reducible refine (insBytesM g 0 (12 * n) (12 * n) k wS (by omega) (Nat.le_refl _) (by unfold maxLen; omega)).mono ?_)
          rintro e wl ⟨rfl, rfl⟩
          rw [Nat.zero_add]
          go_wp2_with fail
          refine hK.out _ _ (HK.out UwS.out) (fun hHeld => ?_)
          clear hK K
          try simp only [Act.put, List.getElem_toArray, List.getElem_cons_zero, List.getElem_cons_succ, List.setIfInBounds_toArray, List.set_cons_zero, List.set_cons_succ]
          refine wpAnyH_ready (rs := [4]) (by kernel_rfl) (by simp) ?_
          refine AllReadyH.cons (i := 4) (o := ?o510) ?i510 (fun K hK => ?_) AllReadyH.nil
          case i510 => exact rfl
          go_simp
          (with_reducible refine (writeM x.o x.a x.b x.c x.n x.m g (12 * k) _ wl HwS.out (by rw [enc_len Hl.out hk]; omega)).mono ?_)
          rintro e w4 ⟨rfl, hb4, hu4⟩
          rw [enc_next Hl.out hlt HX.out] at hb4
          have HW4 : Hid (BB w4 g (encL (l.take (k + 1)) ++ List.replicate (12 * (n - (k + 1))) 0)) := hb4
          have U4 : Hid (But w3 w4 g) := UwS.out.trans hu4
          have HB4 : Hid (Below g w w4) := HB3.out.trans U4.out.below
          clear hb4 hu4 UwS HwS
          go_wp2_with fail
          refine hK.out _ _ (HK.out U4.out) (fun hHeld => ?_)
          clear hK K
          try simp only [Act.put, List.getElem_toArray, List.getElem_cons_zero, List.getElem_cons_succ, List.setIfInBounds_toArray, List.set_cons_zero, List.set_cons_succ]
          refine wpAnyH_done (by kernel_rfl) ?_ _
          go_wp2_with fail
          go_roundw
          case rel => exact ⟨k + 1, by omega, by go_num, HW4, HB4⟩
          case measure => simp [intOf]; omega
        · have : k = n := by omega
          subst this
          go_wp2_with fail
          go_ret2
          refine ⟨_, rfl, ?_, by rw [HG.out]; exact hb.out⟩
          have hw' := hw.out
          rw [Nat.sub_self, Nat.mul_zero, List.replicate_zero, List.append_nil, List.take_of_length_le (by rw [Hl.out]; exact Nat.le_refl _)] at hw'
          rw [HLen.out, HG.out]
          exact own_of_BB hw' (Nat.le_refl _) HLen.out (by unfold maxLen; omega) (encL_bytes l)
  · have HOK : encOk l n = false := by simp [encOk, h4]
    rw [HOK]
    simp only [cond_false, List.length_nil]
    have hcut : (4000 : Int) < n := by omega
    go_enter Tryd.func4, Tryd.ntmps4
    go_wp2_with fail
    go_ret2
    exact ⟨_, rfl, own_nil _ _, Below.refl _ _⟩
end Go.Proofs.YtcidckmocmdijaaDoor

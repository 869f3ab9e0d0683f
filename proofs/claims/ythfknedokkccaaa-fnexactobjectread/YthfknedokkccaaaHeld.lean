/- Marks over exports and imports looked for, by the laws' helpers. -/
import Derived.Test.YthfknedokkccaaaMarkO
namespace Go.Proofs.Ythfknedokkccaaa
open Go.RowKit
set_option linter.unusedVariables false
set_option linter.unusedSimpArgs false
set_option maxRecDepth 100000

set_option maxHeartbeats 4000000 in
theorem heldExportsM (a : Option Addr) (n c : Nat) (ds : List D3) (k : Nat) (w : World) (h : DRow w a n (markL k ds)) (hd : ∀ d ∈ ds, ∃ l p q, d = (⟨.b l, .n p, .n q⟩ : D3) ∧ l.length ≤ 1048576) (hn : n ≤ 1048576) (hk : k + wsum ds ≤ 1000000000) :
    Calls Try.prog 24 #[.slice a n c, .int .i64 k] w fun e w' => e = .returned (.int .i64 ((k + wsum ds : Nat) : Int)) ∧ w' = w := by
  have Hd : Hid (ds.length = n) := by show ds.length = n; rw [← h.1, markL_len]
  have HD : Hid (∀ d ∈ ds, ∃ l p q, d = (⟨.b l, .n p, .n q⟩ : D3) ∧ l.length ≤ 1048576) := hd
  clear hd
  rcases Nat.eq_zero_or_pos n with h0 | hpos
  · subst h0
    have e0 : ds = [] := List.eq_nil_of_length_eq_zero Hd.out
    subst e0
    clear h
    go_enter Try.func24, Try.ntmps24
    go_wp2_with fail
    refine wp_loop_rounds 1 ?_
    rw [rounds_succ]
    go_wp2_with fail
    go_ret
    exact ⟨ret_int (by simp [wsum]), rfl⟩
  · obtain ⟨b, off, rfl⟩ := h.addr hpos
    have H : Hid (DRow w (some ⟨b, off, none⟩) n (markL k ds)) := h
    clear h
    go_enter Try.func24, Try.ntmps24
    go_wp2_with fail
    go_loop [1, 5] (fun kv i => ∃ j : Nat, j ≤ n ∧ i = .int .i64 j ∧ ∃ kj : Nat, kv = .int .i64 kj ∧ Hid (kj = k + wsum (ds.take j)) ∧ kj ≤ 1000000000) (fun _ i => n - (intOf i).toNat)
    case atStart => exact ⟨0, Nat.zero_le _, rfl, k, rfl, by show _ = _; simp [wsum], by omega⟩
    case round =>
      obtain ⟨j, hj, rfl, kj, rfl, hkj, hkm⟩ := hrel
      by_cases hlt : j < n
      · obtain ⟨⟨rx, ry, rz⟩, d', hdk, hR, q0, q1, q2⟩ := DRow.el (show DRow w (some ⟨b, off, none⟩) n (markL k ds) from H.out) hlt
        obtain ⟨d, hdj⟩ : ∃ d, ds[j]? = some d := ⟨_, List.getElem?_eq_getElem (by rw [Hd.out]; exact hlt)⟩
        rw [markL_at k hdj, ← hkj.out] at hdk
        have e := (Option.some.inj hdk).symm
        subst e
        obtain ⟨ll, p, q, rfl, hll⟩ := HD.out d (List.mem_of_getElem? hdj)
        obtain ⟨⟨ax, cx, ex, hbx, _⟩, ey, ez⟩ := hR
        simp only [marks_length] at ex ey ez hbx
        subst ex ey ez
        simp only [Fd.wt] at q1 q2
        have hnext := wsum_next hdj
        have htot := wsum_take ds (j + 1)
        have hwt : D3.wt ⟨.b ll, .n p, .n q⟩ = ll.length + 1 + 1 := rfl
        have hks : kj + ll.length + 2 ≤ 1000000000 := by have := hkj.out; omega
        have HN : Hid (kj + ll.length + 1 + 1 = k + wsum (ds.take (j + 1))) := by show _ = _; rw [hnext, hwt]; have := hkj.out; omega
        clear hnext htot hwt hdk hdj
        have HC := heldM ax ll.length cx (kj : Int) w (by rw [Int.toNat_natCast]; exact hbx) (by omega) (by omega) (by omega)
        have n1 : ¬ ((kj : Int) + (ll.length : Int) < 0) := by omega
        have n2 : (((kj + ll.length : Nat) : Int) != (kj : Int) + (ll.length : Int)) = false := by simp
        have n3 : (((kj + ll.length + 1 : Nat) : Int) != (kj : Int) + (ll.length : Int) + 1) = false := by simp
        go_wp2_with fail
        refine HC.mono ?_
        rintro e w ⟨rfl, rfl⟩
        go_wp2_with fail
        go_round
        case rel => exact ⟨j + 1, by omega, by go_num, kj + ll.length + 1 + 1, by go_num, HN, by omega⟩
        case measure => simp [intOf]; omega
      · have : j = n := by omega
        subst this
        have HT : Hid (kj = k + wsum ds) := by
          have := hkj.out
          rwa [List.take_of_length_le (by rw [Hd.out]; exact Nat.le_refl _)] at this
        go_wp2_with fail
        go_ret
        exact ⟨ret_int (by have := HT.out; omega), rfl⟩

set_option maxHeartbeats 4000000 in
theorem heldImportsM (a : Option Addr) (n c : Nat) (ds : List D3) (k : Nat) (w : World) (h : DRow w a n (markL k ds)) (hd : ∀ d ∈ ds, ∃ l l2 p, d = (⟨.b l, .b l2, .n p⟩ : D3) ∧ l.length ≤ 1048576 ∧ l2.length ≤ 1048576) (hn : n ≤ 1048576) (hk : k + wsum ds ≤ 1000000000) :
    Calls Try.prog 25 #[.slice a n c, .int .i64 k] w fun e w' => e = .returned (.int .i64 ((k + wsum ds : Nat) : Int)) ∧ w' = w := by
  have Hd : Hid (ds.length = n) := by show ds.length = n; rw [← h.1, markL_len]
  have HD : Hid (∀ d ∈ ds, ∃ l l2 p, d = (⟨.b l, .b l2, .n p⟩ : D3) ∧ l.length ≤ 1048576 ∧ l2.length ≤ 1048576) := hd
  clear hd
  rcases Nat.eq_zero_or_pos n with h0 | hpos
  · subst h0
    have e0 : ds = [] := List.eq_nil_of_length_eq_zero Hd.out
    subst e0
    clear h
    go_enter Try.func25, Try.ntmps25
    go_wp2_with fail
    refine wp_loop_rounds 1 ?_
    rw [rounds_succ]
    go_wp2_with fail
    go_ret
    exact ⟨ret_int (by simp [wsum]), rfl⟩
  · obtain ⟨b, off, rfl⟩ := h.addr hpos
    have H : Hid (DRow w (some ⟨b, off, none⟩) n (markL k ds)) := h
    clear h
    go_enter Try.func25, Try.ntmps25
    go_wp2_with fail
    go_loop [1, 5] (fun kv i => ∃ j : Nat, j ≤ n ∧ i = .int .i64 j ∧ ∃ kj : Nat, kv = .int .i64 kj ∧ Hid (kj = k + wsum (ds.take j)) ∧ kj ≤ 1000000000) (fun _ i => n - (intOf i).toNat)
    case atStart => exact ⟨0, Nat.zero_le _, rfl, k, rfl, by show _ = _; simp [wsum], by omega⟩
    case round =>
      obtain ⟨j, hj, rfl, kj, rfl, hkj, hkm⟩ := hrel
      by_cases hlt : j < n
      · obtain ⟨⟨rx, ry, rz⟩, d', hdk, hR, q0, q1, q2⟩ := DRow.el (show DRow w (some ⟨b, off, none⟩) n (markL k ds) from H.out) hlt
        obtain ⟨d, hdj⟩ : ∃ d, ds[j]? = some d := ⟨_, List.getElem?_eq_getElem (by rw [Hd.out]; exact hlt)⟩
        rw [markL_at k hdj, ← hkj.out] at hdk
        have e := (Option.some.inj hdk).symm
        subst e
        obtain ⟨ll, ly, p, rfl, hll, hly⟩ := HD.out d (List.mem_of_getElem? hdj)
        obtain ⟨⟨ax, cx, ex, hbx, _⟩, ⟨ay, cy, ey, hby, _⟩, ez⟩ := hR
        simp only [marks_length, Fd.wt] at ex ey ez hbx hby
        subst ex ey ez
        simp only [Fd.wt] at q1 q2
        have hnext := wsum_next hdj
        have htot := wsum_take ds (j + 1)
        have hwt : D3.wt ⟨.b ll, .b ly, .n p⟩ = ll.length + ly.length + 1 := rfl
        have hks : kj + ll.length + ly.length + 1 ≤ 1000000000 := by have := hkj.out; omega
        have HN : Hid (kj + ll.length + ly.length + 1 = k + wsum (ds.take (j + 1))) := by show _ = _; rw [hnext, hwt]; have := hkj.out; omega
        clear hnext htot hwt hdk hdj
        have HC := heldM ax ll.length cx (kj : Int) w (by rw [Int.toNat_natCast]; exact hbx) (by omega) (by omega) (by omega)
        have HC2 := heldM ay ly.length cy ((kj + ll.length : Nat) : Int) w (by rw [Int.toNat_natCast]; exact hby) (by omega) (by omega) (by omega)
        rw [Int.natCast_add] at HC2
        have n1 : ¬ ((kj : Int) + (ll.length : Int) < 0) := by omega
        have n2 : ¬ ((kj : Int) + (ll.length : Int) + (ly.length : Int) < 0) := by omega
        have n3 : (((kj + ll.length + ly.length : Nat) : Int) != (kj : Int) + (ll.length : Int) + (ly.length : Int)) = false := by simp
        go_wp2_with fail
        refine HC.mono ?_
        rintro e w ⟨rfl, rfl⟩
        go_wp2_with fail
        refine HC2.mono ?_
        rintro e w ⟨rfl, rfl⟩
        go_wp2_with fail
        go_round
        case rel => exact ⟨j + 1, by omega, by go_num, kj + ll.length + ly.length + 1, by go_num, HN, by omega⟩
        case measure => simp [intOf]; omega
      · have : j = n := by omega
        subst this
        have HT : Hid (kj = k + wsum ds) := by
          have := hkj.out
          rwa [List.take_of_length_le (by rw [Hd.out]; exact Nat.le_refl _)] at this
        go_wp2_with fail
        go_ret
        exact ⟨ret_int (by have := HT.out; omega), rfl⟩

theorem markOb_read {w : World} {o : O5} {b : Ob} {k : Nat} (h : ORead w o (markOb k b)) : ∃ a1 c1 a2 c2 a3 c3 a4 c4, o = ⟨.slice a1 b.name.length c1, .slice a2 b.ex.length c2, .slice a3 b.im.length c3, .int .i64 b.data, .slice a4 b.code.length c4⟩ ∧ BRow w a1 b.name.length (marks k b.name.length) ∧ DRow w a2 b.ex.length (markL (k + b.name.length) b.ex) ∧ DRow w a3 b.im.length (markL (k + b.name.length + wsum b.ex) b.im) ∧ BRow w a4 b.code.length (marks (k + b.name.length + wsum b.ex + wsum b.im) b.code.length) := by
  obtain ⟨x, xe, xi, xd, xc⟩ := o
  obtain ⟨⟨a1, c1, h1, r1, _⟩, ⟨a2, c2, h2, r2, _⟩, ⟨a3, c3, h3, r3, _⟩, h4, ⟨a4, c4, h5, r5, _⟩, _, _⟩ := h
  simp only [markOb, marks_length, markL_len] at h1 h2 h3 h4 h5 r1 r2 r3 r5
  exact ⟨a1, c1, a2, c2, a3, c3, a4, c4, by rw [h1, h2, h3, h4, h5], r1, r2, r3, r5⟩

set_option maxHeartbeats 4000000 in
theorem heldObjectM (o : O5) (b : Ob) (w : World) (h : ORead w o (markOb 1 b)) (hs : osz b ≤ 1048576) (hE : ∀ d ∈ b.ex, isE d) (hI : ∀ d ∈ b.im, isM d) :
    Calls Try.prog 11 #[.agg #[o.x, o.e, o.i, o.d, o.c], .int .i64 1] w fun e w' => e = .returned (.int .i64 ((1 + wtO b : Nat) : Int)) ∧ Below w.heap.size w w' := by
  have hbig : wtO b ≤ 4194304 := Nat.le_trans (wtO_le b) (by omega)
  have EX := osz_ex hs hE
  have IM := osz_im hs hI
  obtain ⟨a1, c1, a2, c2, a3, c3, a4, c4, rfl, r1, r2, r3, r4⟩ := markOb_read h
  clear h
  unfold osz at hs
  unfold wtO at hbig ⊢
  have x0 := B5.new w 26 ⟨.slice a1 b.name.length c1, .slice a2 b.ex.length c2, .slice a3 b.im.length c3, .int .i64 b.data, .slice a4 b.code.length c4⟩
  have y0 : Below w.heap.size w (w.alloc (.cells #[.slice a1 b.name.length c1, .slice a2 b.ex.length c2, .slice a3 b.im.length c3, .int .i64 b.data, .slice a4 b.code.length c4] 26 (0, 0))) := (Below.refl _ _).alloc (Nat.le_refl _) _
  simp only at x0 ⊢
  go_enter Try.func11, Try.ntmps11
  go_upto_region 1 with fail
  generalize w.alloc (.cells #[.slice a1 b.name.length c1, .slice a2 b.ex.length c2, .slice a3 b.im.length c3, .int .i64 b.data, .slice a4 b.code.length c4] 26 (0, 0)) = w0 at *
  obtain ⟨k0, k1, k2, k3, k4⟩ := x0.facts
  simp only at k0 k1 k2 k3 k4
  have H1 := heldM a1 b.name.length c1 1 w0 (r1.below y0) (by omega) (by omega) (by omega)
  have H2 := heldExportsM a2 b.ex.length c2 b.ex (1 + b.name.length) w0 (r2.below y0) EX (by omega) (by omega)
  have H3 := heldImportsM a3 b.im.length c3 b.im (1 + b.name.length + wsum b.ex) w0 (r3.below y0) IM (by omega) (by omega)
  have H4 := heldM a4 b.code.length c4 ((1 + b.name.length + wsum b.ex + wsum b.im : Nat) : Int) w0 (by rw [Int.toNat_natCast]; exact r4.below y0) (by omega) (by omega) (by omega)
  rw [show (((1 + b.name.length : Nat)) : Int) = 1 + (b.name.length : Int) by omega] at H2
  have n1 : ¬ ((1 : Int) + (b.name.length : Int) < 0) := by omega
  have n2 : ¬ (((1 + b.name.length + wsum b.ex : Nat) : Int) < 0) := by omega
  have n3 : ¬ (((1 + b.name.length + wsum b.ex + wsum b.im : Nat) : Int) < 0) := by omega
  have n4 : ¬ (((1 + b.name.length + wsum b.ex + wsum b.im : Nat) : Int) + (b.code.length : Int) < 0) := by omega
  clear r1 r2 r3 r4 EX IM
  go_wp2_with fail
  refine H1.mono ?_
  rintro e wx ⟨rfl, hw⟩
  rw [hw]
  go_wp2_with fail
  refine H2.mono ?_
  rintro e wy ⟨rfl, hw2⟩
  rw [hw2]
  go_wp2_with fail
  refine H3.mono ?_
  rintro e wz ⟨rfl, hw3⟩
  rw [hw3]
  go_wp2_with fail
  refine H4.mono ?_
  rintro e wu ⟨rfl, hw4⟩
  rw [hw4]
  go_wp2_with fail
  go_ret
  exact ⟨ret_int (by omega), y0⟩

end Go.Proofs.Ythfknedokkccaaa

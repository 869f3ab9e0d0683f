/- Contracts of the laws' own helpers over slices of words. -/
import Derived.Test.YtchchigiafacbaaDoorMem
import Derived.Test.YtchchigiafacbaaDoorWords
import Derived.Deep.RegionHeld3
namespace Go.Proofs.YtchchigiafacbaaDoor
open Go.RowKit
set_option linter.unusedVariables false

set_option maxRecDepth 100000 in
set_option maxHeartbeats 4000000 in
theorem toWS (a : Option Addr) (n c : Nat) (l : List Wd) (w : World) (h : WRow w a n l) (hn : n ≤ 1048576) :
    Calls Tryd.prog 47 #[.slice a n c] w fun e w' => e = .returned (.slice (some ⟨w.heap.size, 0, none⟩) n n) ∧ WB w' w.heap.size l ∧ Below w.heap.size w w' := by
  obtain ⟨i0, hi, hz0, hz1, hz2⟩ := info_parts infoW
  obtain ⟨hl, hcells⟩ := h
  have Hl : Hid (l.length = n) := hl
  clear hl
  have hfin : Hid (∀ wr : World, WB wr w.heap.size (l.take n ++ (List.replicate n zeroW).drop n) → WB wr w.heap.size l) := by
    intro wr hw
    rwa [List.take_of_length_le (by rw [Hl.out]; exact Nat.le_refl _), List.drop_of_length_le (by simp), List.append_nil] at hw
  rcases Nat.eq_zero_or_pos n with h0 | hpos
  · subst h0
    clear hcells
    go_enter Tryd.func47, Tryd.ntmps47
    go_wp2_with (at_make; refine wpList_make_full _ rfl _ _ 31 rfl w.heap.size 26 i0 _ 7 Tryd.underlying31 hi hz0 hz1 _ _ _ _ 0 rfl rfl rfl rfl (by rw [hz2]; omega) (by unfold maxLen; omega) (Nat.le_refl _) ?_)
    intro w1 hown hgrow
    have hb : Below w.heap.size w w1 := (Below.refl _ _).grown hgrow (Nat.le_refl _) (by intro k hk; cases hk)
    have hB1 : Hid (WB w1 w.heap.size (l.take 0 ++ (List.replicate 0 zeroW).drop 0)) := by
      show WB _ _ _
      have := block_of_ownsW hown
      have e := made_flat 0
      rw [Nat.zero_mul] at e
      rw [e] at this
      simpa [WB] using this
    clear hown hgrow
    go_wp2_with fail
    refine wp_loop_rounds 1 ?_
    rw [rounds_succ]
    go_wp2_with fail
    go_ret
    exact ⟨rfl, hfin.out _ hB1.out, hb⟩
  · obtain ⟨b, off, rfl, hc⟩ := hcells hpos
    have hbl : b < w.heap.size := by
      obtain ⟨v, hv⟩ : ∃ v, (flat l)[0]? = some v := ⟨(flat l)[0]'(by rw [flat_len, Hl.out]; omega), List.getElem?_eq_getElem _⟩
      exact World.block_lt_of_cell? w _ (hc 0 v hv)
    have HC : Hid _ := hc
    clear hc hcells
    go_enter Tryd.func47, Tryd.ntmps47
    go_wp2_with (at_make; refine wpList_make_full _ rfl _ _ 31 rfl w.heap.size 26 i0 _ 7 Tryd.underlying31 hi hz0 hz1 _ _ _ _ n rfl rfl rfl rfl (by rw [hz2]; omega) (by unfold maxLen; omega) (Nat.le_refl _) ?_)
    intro w1 hown hgrow
    have hb : Below w.heap.size w w1 := (Below.refl _ _).grown hgrow (Nat.le_refl _) (by intro k hk; cases hk)
    have hB1 : Hid (WB w1 w.heap.size (l.take 0 ++ (List.replicate n zeroW).drop 0)) := by
      show WB _ _ _
      have := block_of_ownsW hown
      rw [made_flat] at this
      simpa [WB] using this
    clear hown hgrow
    go_wp2_with fail
    go_loopw [4] (fun i wr => ∃ k : Nat, k ≤ n ∧ i = .int .i64 k ∧ Hid (WB wr w.heap.size (l.take k ++ (List.replicate n zeroW).drop k)) ∧ Below w.heap.size w wr) (fun i _ => n - (intOf i).toNat)
    case atStart => exact ⟨0, Nat.zero_le _, rfl, hB1, hb⟩
    case round =>
      obtain ⟨k, hk, rfl, hw, hbr⟩ := hrel
      clear hB1 hb
      by_cases hlt : k < n
      · obtain ⟨x, hx⟩ : ∃ x, l[k]? = some x := ⟨_, List.getElem?_eq_getElem (by rw [Hl.out]; exact hlt)⟩
        obtain ⟨r0, r1, r2, r3, r4, r5, r6⟩ := row_word (w := wr) (b := b) (off := off) (fun j v hv => (hbr.cell (by exact hbl)).trans (HC.out j v hv)) hx
        have HXX : Hid _ := hx
        clear hx
        go_wp2_with fail
        refine (toWordM _ _ _ _ _ _ _ _).mono ?_
        rintro e w2 ⟨rfl, hb2⟩
        have hB2 : Hid (WB w2 w.heap.size (l.take k ++ (List.replicate n zeroW).drop k)) := hw.out.below hb2 (Array.getElem?_eq_some_iff.1 hw.out).1
        have hbw2 : Below w.heap.size w w2 := hbr.trans (hb2.mono hbr.size)
        obtain ⟨y, hy⟩ : ∃ y, (l.take k ++ (List.replicate n zeroW).drop k)[k]? = some y := ⟨_, List.getElem?_eq_getElem (by rw [List.length_append, List.length_take, Hl.out]; simp; omega)⟩
        obtain ⟨c0, c1, c2, c3, c4, c5, c6⟩ := hB2.out.word hy
        have f0 := hB2.out.frozen (k * 7)
        have f1 := hB2.out.frozen (k * 7 + 1)
        have f2 := hB2.out.frozen (k * 7 + 2)
        have f3 := hB2.out.frozen (k * 7 + 3)
        have f4 := hB2.out.frozen (k * 7 + 4)
        have f5 := hB2.out.frozen (k * 7 + 5)
        have f6 := hB2.out.frozen (k * 7 + 6)
        clear hy r0 r1 r2 r3 r4 r5 r6 hb2
        go_wp2_with fail
        go_roundw
        case rel =>
          have hs := hB2.out.set (k := k) x (by rw [List.length_append, List.length_take, Hl.out]; simp; omega)
          rw [wtake_set _ _ _ _ HXX.out (by simpa using hlt)] at hs
          exact ⟨k + 1, by omega, by go_num, hs, below_put hbw2 (Nat.le_refl _) _ _ _ _ _ _ _ _ _ _ _ _ _ _⟩
        case measure => simp [intOf]; omega
      · have : k = n := by omega
        subst this
        go_wp2_with fail
        go_ret
        exact ⟨rfl, hfin.out _ hw.out, hbr⟩

/-- The walk's seven facts of an element. -/
theorem WRow.el {w : World} {b off n : Nat} {l : List Wd} (h : WRow w (some ⟨b, off, none⟩) n l) {k : Nat} (hk : k < n) : ∃ x, l[k]? = some x ∧ w.cell? ⟨b, off + k * 7, none⟩ = some (.bool x.t) ∧ w.cell? ⟨b, off + k * 7 + 1, none⟩ = some (.int .i64 x.n) ∧ w.cell? ⟨b, off + k * 7 + 2, none⟩ = some (.int .i64 x.l) ∧ w.cell? ⟨b, off + k * 7 + 3, none⟩ = some (.int .i64 x.h) ∧ w.cell? ⟨b, off + k * 7 + 4, none⟩ = some (.int .i64 x.a) ∧ w.cell? ⟨b, off + k * 7 + 5, none⟩ = some (.int .i64 x.p) ∧ w.cell? ⟨b, off + k * 7 + 6, none⟩ = some (.int .i64 x.s) := by
  obtain ⟨b', off', e, hc⟩ := h.2 (by omega)
  simp only [Option.some.injEq, Addr.mk.injEq, and_true] at e
  obtain ⟨rfl, rfl⟩ := e
  exact ⟨_, List.getElem?_eq_getElem (by rw [h.1]; exact hk), row_word hc (List.getElem?_eq_getElem (by rw [h.1]; exact hk))⟩

set_option maxRecDepth 100000 in
set_option maxHeartbeats 4000000 in
theorem eqWS (a1 : Option Addr) (n c1 : Nat) (l : List Wd) (a2 : Option Addr) (c2 : Nat) (w : World) (h1 : WRow w a1 n l) (h2 : WRow w a2 n l) (hn : n ≤ 1048576) :
    Calls Tryd.prog 48 #[.slice a1 n c1, .slice a2 n c2] w fun e w' => e = .returned (.bool true) ∧ Below w.heap.size w w' := by
  rcases Nat.eq_zero_or_pos n with h0 | hpos
  · subst h0
    clear h1 h2
    go_enter Tryd.func48, Tryd.ntmps48
    go_wp2_with fail
    refine wp_loop_rounds 1 ?_
    rw [rounds_succ]
    go_wp2_with fail
    go_ret
    exact ⟨rfl, Below.refl _ _⟩
  · obtain ⟨b1, o1, rfl, _⟩ := h1.2 hpos
    obtain ⟨b2, o2, rfl, _⟩ := h2.2 hpos
    have H1 : Hid (WRow w (some ⟨b1, o1, none⟩) n l) := h1
    have H2 : Hid (WRow w (some ⟨b2, o2, none⟩) n l) := h2
    clear h1 h2
    go_enter Tryd.func48, Tryd.ntmps48
    go_wp2_with fail
    go_loopw [5] (fun i wr => ∃ k : Nat, k ≤ n ∧ i = .int .i64 k ∧ Below w.heap.size w wr) (fun i _ => n - (intOf i).toNat)
    case atStart => exact ⟨0, Nat.zero_le _, rfl, Below.refl _ _⟩
    case round =>
      obtain ⟨k, hk, rfl, hbr⟩ := hrel
      by_cases hlt : k < n
      · obtain ⟨x, hx, p0, p1, p2, p3, p4, p5, p6⟩ := WRow.el (WRow.below (show WRow w (some ⟨b1, o1, none⟩) n l from H1.out) hbr) hlt
        obtain ⟨y, hy, q0, q1, q2, q3, q4, q5, q6⟩ := WRow.el (WRow.below (show WRow w (some ⟨b2, o2, none⟩) n l from H2.out) hbr) hlt
        have e : x = y := by rw [hx] at hy; exact Option.some.inj hy
        subst e
        clear hx hy
        have HS0 : (wr.drew.cell? ⟨b1, o1 + k * 7, none⟩ = some (.bool x.t) ∧ wr.drew.cell? ⟨b1, o1 + k * 7 + 1, none⟩ = some (.int .i64 x.n) ∧ wr.drew.cell? ⟨b1, o1 + k * 7 + 2, none⟩ = some (.int .i64 x.l) ∧ wr.drew.cell? ⟨b1, o1 + k * 7 + 3, none⟩ = some (.int .i64 x.h) ∧ wr.drew.cell? ⟨b1, o1 + k * 7 + 4, none⟩ = some (.int .i64 x.a) ∧ wr.drew.cell? ⟨b1, o1 + k * 7 + 5, none⟩ = some (.int .i64 x.p) ∧ wr.drew.cell? ⟨b1, o1 + k * 7 + 6, none⟩ = some (.int .i64 x.s)) ∧ (wr.drew.cell? ⟨b2, o2 + k * 7, none⟩ = some (.bool x.t) ∧ wr.drew.cell? ⟨b2, o2 + k * 7 + 1, none⟩ = some (.int .i64 x.n) ∧ wr.drew.cell? ⟨b2, o2 + k * 7 + 2, none⟩ = some (.int .i64 x.l) ∧ wr.drew.cell? ⟨b2, o2 + k * 7 + 3, none⟩ = some (.int .i64 x.h) ∧ wr.drew.cell? ⟨b2, o2 + k * 7 + 4, none⟩ = some (.int .i64 x.a) ∧ wr.drew.cell? ⟨b2, o2 + k * 7 + 5, none⟩ = some (.int .i64 x.p) ∧ wr.drew.cell? ⟨b2, o2 + k * 7 + 6, none⟩ = some (.int .i64 x.s)) := ⟨⟨p0, p1, p2, p3, p4, p5, p6⟩, ⟨q0, q1, q2, q3, q4, q5, q6⟩⟩
        have hbs : ∀ {wl : World}, Below wr.drew.heap.size wr.drew wl → (wl.cell? ⟨b1, o1 + k * 7, none⟩ = some (.bool x.t) ∧ wl.cell? ⟨b1, o1 + k * 7 + 1, none⟩ = some (.int .i64 x.n) ∧ wl.cell? ⟨b1, o1 + k * 7 + 2, none⟩ = some (.int .i64 x.l) ∧ wl.cell? ⟨b1, o1 + k * 7 + 3, none⟩ = some (.int .i64 x.h) ∧ wl.cell? ⟨b1, o1 + k * 7 + 4, none⟩ = some (.int .i64 x.a) ∧ wl.cell? ⟨b1, o1 + k * 7 + 5, none⟩ = some (.int .i64 x.p) ∧ wl.cell? ⟨b1, o1 + k * 7 + 6, none⟩ = some (.int .i64 x.s)) ∧ (wl.cell? ⟨b2, o2 + k * 7, none⟩ = some (.bool x.t) ∧ wl.cell? ⟨b2, o2 + k * 7 + 1, none⟩ = some (.int .i64 x.n) ∧ wl.cell? ⟨b2, o2 + k * 7 + 2, none⟩ = some (.int .i64 x.l) ∧ wl.cell? ⟨b2, o2 + k * 7 + 3, none⟩ = some (.int .i64 x.h) ∧ wl.cell? ⟨b2, o2 + k * 7 + 4, none⟩ = some (.int .i64 x.a) ∧ wl.cell? ⟨b2, o2 + k * 7 + 5, none⟩ = some (.int .i64 x.p) ∧ wl.cell? ⟨b2, o2 + k * 7 + 6, none⟩ = some (.int .i64 x.s)) := by
          intro wl hb
          have e1 : ∀ j, wl.cell? ⟨b1, j, none⟩ = wr.drew.cell? ⟨b1, j, none⟩ := fun j => hb.cell (show b1 < wr.heap.size from World.block_lt_of_cell? wr _ p0)
          have e2 : ∀ j, wl.cell? ⟨b2, j, none⟩ = wr.drew.cell? ⟨b2, j, none⟩ := fun j => hb.cell (show b2 < wr.heap.size from World.block_lt_of_cell? wr _ q0)
          simp only [e1, e2]
          exact HS0
        go_wp2_with fail
        go_region_held3 (fun wx => (wx.cell? ⟨b1, o1 + k * 7, none⟩ = some (.bool x.t) ∧ wx.cell? ⟨b1, o1 + k * 7 + 1, none⟩ = some (.int .i64 x.n) ∧ wx.cell? ⟨b1, o1 + k * 7 + 2, none⟩ = some (.int .i64 x.l) ∧ wx.cell? ⟨b1, o1 + k * 7 + 3, none⟩ = some (.int .i64 x.h) ∧ wx.cell? ⟨b1, o1 + k * 7 + 4, none⟩ = some (.int .i64 x.a) ∧ wx.cell? ⟨b1, o1 + k * 7 + 5, none⟩ = some (.int .i64 x.p) ∧ wx.cell? ⟨b1, o1 + k * 7 + 6, none⟩ = some (.int .i64 x.s)) ∧ (wx.cell? ⟨b2, o2 + k * 7, none⟩ = some (.bool x.t) ∧ wx.cell? ⟨b2, o2 + k * 7 + 1, none⟩ = some (.int .i64 x.n) ∧ wx.cell? ⟨b2, o2 + k * 7 + 2, none⟩ = some (.int .i64 x.l) ∧ wx.cell? ⟨b2, o2 + k * 7 + 3, none⟩ = some (.int .i64 x.h) ∧ wx.cell? ⟨b2, o2 + k * 7 + 4, none⟩ = some (.int .i64 x.a) ∧ wx.cell? ⟨b2, o2 + k * 7 + 5, none⟩ = some (.int .i64 x.p) ∧ wx.cell? ⟨b2, o2 + k * 7 + 6, none⟩ = some (.int .i64 x.s))) (with_reducible assumption) (first
          | (go_at_call 22; (with_reducible refine (eqWordM _ _ _ _ _ _ _ _ _ _ _ _ _ _ _ ⟨rfl, rfl, rfl, rfl, rfl, rfl, rfl⟩).mono ?_); rintro e wl ⟨rfl, hbl⟩; have HSl := hbs hbl))
        have hbw : Below w.heap.size w wl := hbr.drew.trans (hbl.mono hbr.size)
        clear HS0 hbs
        go_wp2_with fail
        go_roundw
        case rel => exact ⟨k + 1, by omega, by go_num, hbw⟩
        case measure => simp [intOf]; omega
      · go_wp2_with fail
        go_ret
        exact ⟨rfl, hbr⟩
end Go.Proofs.YtchchigiafacbaaDoor

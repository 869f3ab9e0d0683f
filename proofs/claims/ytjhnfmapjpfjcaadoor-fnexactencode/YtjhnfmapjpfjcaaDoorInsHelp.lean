/- Contracts of the laws' own helpers over slices of instructions. -/
import Derived.Test.YtjhnfmapjpfjcaaDoorInsRow
import Derived.Test.YtjhnfmapjpfjcaaDoorDecLaw
import Derived.Deep.RegionHeld3
namespace Go.Proofs.YtjhnfmapjpfjcaaDoor
open Go.RowKit
set_option linter.unusedVariables false
set_option linter.unusedSimpArgs false
set_option maxRecDepth 100000

set_option maxHeartbeats 4000000 in
theorem toIS (a : Option Addr) (n c : Nat) (l : List In6) (w : World) (h : IRow w a n l) (hn : n ≤ 1048576) :
    Calls Tryd.prog 11 #[.slice a n c] w fun e w' => e = .returned (.slice (some ⟨w.heap.size, 0, none⟩) n n) ∧ IB w' w.heap.size l ∧ Below w.heap.size w w' := by
  obtain ⟨i0, hi, hz0, hz1, hz2⟩ := info_parts infoI
  obtain ⟨hl, hcells⟩ := h
  have Hl : Hid (l.length = n) := hl
  clear hl
  have hfin : Hid (∀ wr : World, IB wr w.heap.size (l.take n ++ (List.replicate n zeroI).drop n) → IB wr w.heap.size l) := by
    intro wr hw
    rwa [List.take_of_length_le (by rw [Hl.out]; exact Nat.le_refl _), List.drop_of_length_le (by simp), List.append_nil] at hw
  rcases Nat.eq_zero_or_pos n with h0 | hpos
  · subst h0
    clear hcells
    go_enter Tryd.func11, Tryd.ntmps11
    go_wp2_with (at_make; refine wpList_make_full _ rfl _ _ 33 rfl w.heap.size 25 i0 _ 6 Tryd.underlying33 hi hz0 hz1 _ _ _ _ 0 rfl rfl rfl rfl (by rw [hz2]; omega) (by unfold maxLen; omega) (Nat.le_refl _) ?_)
    intro w1 hown hgrow
    have hb : Below w.heap.size w w1 := (Below.refl _ _).grown hgrow (Nat.le_refl _) (by intro k hk; cases hk)
    have hB1 : Hid (IB w1 w.heap.size (l.take 0 ++ (List.replicate 0 zeroI).drop 0)) := by
      show IB _ _ _
      have := block_of_ownsI hown
      have e := made_flatI 0
      rw [Nat.zero_mul] at e
      rw [e] at this
      simpa [IB] using this
    clear hown hgrow
    go_wp2_with fail
    refine wp_loop_rounds 1 ?_
    rw [rounds_succ]
    go_wp2_with fail
    go_ret
    exact ⟨rfl, hfin.out _ hB1.out, hb⟩
  · obtain ⟨b, off, rfl, hc⟩ := hcells hpos
    have hbl : b < w.heap.size := by
      obtain ⟨v, hv⟩ : ∃ v, (flatI l)[0]? = some v := ⟨(flatI l)[0]'(by rw [flatI_len, Hl.out]; omega), List.getElem?_eq_getElem _⟩
      exact World.block_lt_of_cell? w _ (hc 0 v hv)
    have HC : Hid _ := hc
    clear hc hcells
    go_enter Tryd.func11, Tryd.ntmps11
    go_wp2_with (at_make; refine wpList_make_full _ rfl _ _ 33 rfl w.heap.size 25 i0 _ 6 Tryd.underlying33 hi hz0 hz1 _ _ _ _ n rfl rfl rfl rfl (by rw [hz2]; omega) (by unfold maxLen; omega) (Nat.le_refl _) ?_)
    intro w1 hown hgrow
    have hb : Below w.heap.size w w1 := (Below.refl _ _).grown hgrow (Nat.le_refl _) (by intro k hk; cases hk)
    have hB1 : Hid (IB w1 w.heap.size (l.take 0 ++ (List.replicate n zeroI).drop 0)) := by
      show IB _ _ _
      have := block_of_ownsI hown
      rw [made_flatI] at this
      simpa [IB] using this
    clear hown hgrow
    go_wp2_with fail
    go_loopw [4] (fun i wr => ∃ k : Nat, k ≤ n ∧ i = .int .i64 k ∧ Hid (IB wr w.heap.size (l.take k ++ (List.replicate n zeroI).drop k)) ∧ Below w.heap.size w wr) (fun i _ => n - (intOf i).toNat)
    case atStart => exact ⟨0, Nat.zero_le _, rfl, hB1, hb⟩
    case round =>
      obtain ⟨k, hk, rfl, hw, hbr⟩ := hrel
      clear hB1 hb
      by_cases hlt : k < n
      · obtain ⟨x, hx⟩ : ∃ x, l[k]? = some x := ⟨_, List.getElem?_eq_getElem (by rw [Hl.out]; exact hlt)⟩
        obtain ⟨r0, r1, r2, r3, r4, r5⟩ := row_ins (w := wr) (b := b) (off := off) (fun j v hv => (hbr.cell (by exact hbl)).trans (HC.out j v hv)) hx
        have HXX : Hid _ := hx
        clear hx
        go_wp2_with fail
        refine (toInsM _ _ _ _ _ _ _).mono ?_
        rintro e w2 ⟨rfl, hb2⟩
        have hB2 : Hid (IB w2 w.heap.size (l.take k ++ (List.replicate n zeroI).drop k)) := hw.out.below hb2 (Array.getElem?_eq_some_iff.1 hw.out).1
        have hbw2 : Below w.heap.size w w2 := hbr.trans (hb2.mono hbr.size)
        obtain ⟨y, hy⟩ : ∃ y, (l.take k ++ (List.replicate n zeroI).drop k)[k]? = some y := ⟨_, List.getElem?_eq_getElem (by rw [List.length_append, List.length_take, Hl.out]; simp; omega)⟩
        obtain ⟨c0, c1, c2, c3, c4, c5⟩ := hB2.out.ins hy
        have f0 := hB2.out.frozen (k * 6)
        have f1 := hB2.out.frozen (k * 6 + 1)
        have f2 := hB2.out.frozen (k * 6 + 2)
        have f3 := hB2.out.frozen (k * 6 + 3)
        have f4 := hB2.out.frozen (k * 6 + 4)
        have f5 := hB2.out.frozen (k * 6 + 5)
        clear hy r0 r1 r2 r3 r4 r5 hb2
        go_wp2_with fail
        go_roundw
        case rel =>
          have hs := hB2.out.set (k := k) x (by rw [List.length_append, List.length_take, Hl.out]; simp; omega)
          rw [itake_set _ _ _ _ HXX.out (by simpa using hlt)] at hs
          exact ⟨k + 1, by omega, by go_num, hs, below_put6 hbw2 (Nat.le_refl _) _ _ _ _ _ _ _ _ _ _ _ _⟩
        case measure => simp [intOf]; omega
      · have : k = n := by omega
        subst this
        go_wp2_with fail
        go_ret
        exact ⟨rfl, hfin.out _ hw.out, hbr⟩

theorem szIS (a : Option Addr) (n c : Nat) (w : World) (hn : n ≤ 9223372036854775807) :
    Calls Tryd.prog 9 #[.slice a n c, .int .i64 1048576] w fun e w' => e = .returned (.int .i64 (if n ≤ 1048576 then 1048576 - (n : Int) else -1)) ∧ w' = w := by
  by_cases h : n ≤ 1048576
  · rw [if_pos h]
    have h' : ¬ ((1048576 : Int) - (n : Int) < 0) := by omega
    go_enter Tryd.func9, Tryd.ntmps9
    go_wp2
    go_ret
    exact ⟨rfl, rfl⟩
  · rw [if_neg h]
    have h' : (1048576 : Int) - (n : Int) < 0 := by omega
    go_enter Tryd.func9, Tryd.ntmps9
    go_wp2
    go_ret
    exact ⟨rfl, rfl⟩

set_option maxHeartbeats 4000000 in
theorem eqIS (a1 : Option Addr) (n c1 : Nat) (l : List In6) (a2 : Option Addr) (c2 : Nat) (w : World) (h1 : IRow w a1 n l) (h2 : IRow w a2 n l) (hn : n ≤ 1048576) :
    Calls Tryd.prog 14 #[.slice a1 n c1, .slice a2 n c2] w fun e w' => e = .returned (.bool true) ∧ Below w.heap.size w w' := by
  rcases Nat.eq_zero_or_pos n with h0 | hpos
  · subst h0
    clear h1 h2
    go_enter Tryd.func14, Tryd.ntmps14
    go_wp2_with fail
    refine wp_loop_rounds 1 ?_
    rw [rounds_succ]
    go_wp2_with fail
    go_ret
    exact ⟨rfl, Below.refl _ _⟩
  · obtain ⟨b1, o1, rfl, _⟩ := h1.2 hpos
    obtain ⟨b2, o2, rfl, _⟩ := h2.2 hpos
    have H1 : Hid (IRow w (some ⟨b1, o1, none⟩) n l) := h1
    have H2 : Hid (IRow w (some ⟨b2, o2, none⟩) n l) := h2
    clear h1 h2
    go_enter Tryd.func14, Tryd.ntmps14
    go_wp2_with fail
    go_loopw [5] (fun i wr => ∃ k : Nat, k ≤ n ∧ i = .int .i64 k ∧ Below w.heap.size w wr) (fun i _ => n - (intOf i).toNat)
    case atStart => exact ⟨0, Nat.zero_le _, rfl, Below.refl _ _⟩
    case round =>
      obtain ⟨k, hk, rfl, hbr⟩ := hrel
      by_cases hlt : k < n
      · obtain ⟨x, hx, p0, p1, p2, p3, p4, p5⟩ := IRow.el (IRow.below (show IRow w (some ⟨b1, o1, none⟩) n l from H1.out) hbr) hlt
        obtain ⟨y, hy, q0, q1, q2, q3, q4, q5⟩ := IRow.el (IRow.below (show IRow w (some ⟨b2, o2, none⟩) n l from H2.out) hbr) hlt
        have e : x = y := by rw [hx] at hy; exact Option.some.inj hy
        subst e
        clear hx hy
        have HS0 : (wr.drew.cell? ⟨b1, o1 + k * 6, none⟩ = some (.int .i64 x.o) ∧ wr.drew.cell? ⟨b1, o1 + k * 6 + 1, none⟩ = some (.int .i64 x.a) ∧ wr.drew.cell? ⟨b1, o1 + k * 6 + 2, none⟩ = some (.int .i64 x.b) ∧ wr.drew.cell? ⟨b1, o1 + k * 6 + 3, none⟩ = some (.int .i64 x.c) ∧ wr.drew.cell? ⟨b1, o1 + k * 6 + 4, none⟩ = some (.int .i64 x.n) ∧ wr.drew.cell? ⟨b1, o1 + k * 6 + 5, none⟩ = some (.int .i64 x.m)) ∧ (wr.drew.cell? ⟨b2, o2 + k * 6, none⟩ = some (.int .i64 x.o) ∧ wr.drew.cell? ⟨b2, o2 + k * 6 + 1, none⟩ = some (.int .i64 x.a) ∧ wr.drew.cell? ⟨b2, o2 + k * 6 + 2, none⟩ = some (.int .i64 x.b) ∧ wr.drew.cell? ⟨b2, o2 + k * 6 + 3, none⟩ = some (.int .i64 x.c) ∧ wr.drew.cell? ⟨b2, o2 + k * 6 + 4, none⟩ = some (.int .i64 x.n) ∧ wr.drew.cell? ⟨b2, o2 + k * 6 + 5, none⟩ = some (.int .i64 x.m)) := ⟨⟨p0, p1, p2, p3, p4, p5⟩, q0, q1, q2, q3, q4, q5⟩
        have hbs : ∀ {wl : World}, Below wr.drew.heap.size wr.drew wl → (wl.cell? ⟨b1, o1 + k * 6, none⟩ = some (.int .i64 x.o) ∧ wl.cell? ⟨b1, o1 + k * 6 + 1, none⟩ = some (.int .i64 x.a) ∧ wl.cell? ⟨b1, o1 + k * 6 + 2, none⟩ = some (.int .i64 x.b) ∧ wl.cell? ⟨b1, o1 + k * 6 + 3, none⟩ = some (.int .i64 x.c) ∧ wl.cell? ⟨b1, o1 + k * 6 + 4, none⟩ = some (.int .i64 x.n) ∧ wl.cell? ⟨b1, o1 + k * 6 + 5, none⟩ = some (.int .i64 x.m)) ∧ (wl.cell? ⟨b2, o2 + k * 6, none⟩ = some (.int .i64 x.o) ∧ wl.cell? ⟨b2, o2 + k * 6 + 1, none⟩ = some (.int .i64 x.a) ∧ wl.cell? ⟨b2, o2 + k * 6 + 2, none⟩ = some (.int .i64 x.b) ∧ wl.cell? ⟨b2, o2 + k * 6 + 3, none⟩ = some (.int .i64 x.c) ∧ wl.cell? ⟨b2, o2 + k * 6 + 4, none⟩ = some (.int .i64 x.n) ∧ wl.cell? ⟨b2, o2 + k * 6 + 5, none⟩ = some (.int .i64 x.m)) := by
          intro wl hb
          have e1 : ∀ j, wl.cell? ⟨b1, j, none⟩ = wr.drew.cell? ⟨b1, j, none⟩ := fun j => hb.cell (show b1 < wr.heap.size from World.block_lt_of_cell? wr _ p0)
          have e2 : ∀ j, wl.cell? ⟨b2, j, none⟩ = wr.drew.cell? ⟨b2, j, none⟩ := fun j => hb.cell (show b2 < wr.heap.size from World.block_lt_of_cell? wr _ q0)
          simp only [e1, e2]
          exact HS0
        go_wp2_with fail
        go_region_held3 (fun wx => (wx.cell? ⟨b1, o1 + k * 6, none⟩ = some (.int .i64 x.o) ∧ wx.cell? ⟨b1, o1 + k * 6 + 1, none⟩ = some (.int .i64 x.a) ∧ wx.cell? ⟨b1, o1 + k * 6 + 2, none⟩ = some (.int .i64 x.b) ∧ wx.cell? ⟨b1, o1 + k * 6 + 3, none⟩ = some (.int .i64 x.c) ∧ wx.cell? ⟨b1, o1 + k * 6 + 4, none⟩ = some (.int .i64 x.n) ∧ wx.cell? ⟨b1, o1 + k * 6 + 5, none⟩ = some (.int .i64 x.m)) ∧ (wx.cell? ⟨b2, o2 + k * 6, none⟩ = some (.int .i64 x.o) ∧ wx.cell? ⟨b2, o2 + k * 6 + 1, none⟩ = some (.int .i64 x.a) ∧ wx.cell? ⟨b2, o2 + k * 6 + 2, none⟩ = some (.int .i64 x.b) ∧ wx.cell? ⟨b2, o2 + k * 6 + 3, none⟩ = some (.int .i64 x.c) ∧ wx.cell? ⟨b2, o2 + k * 6 + 4, none⟩ = some (.int .i64 x.n) ∧ wx.cell? ⟨b2, o2 + k * 6 + 5, none⟩ = some (.int .i64 x.m))) (first | exact HS0 | exact HSl) (first
          | (go_at_call 21; (with_reducible refine (eqInsM _ _ _ _ _ _ _ _ _ _ _ _ _ ⟨rfl, rfl, rfl, rfl, rfl, rfl⟩).mono ?_); rintro e wl ⟨rfl, hbl⟩; have HSl := hbs hbl))
        have hbw : Below w.heap.size w wl := hbr.drew.trans (hbl.mono hbr.size)
        clear HS0 hbs
        go_wp2_with fail
        go_roundw
        case rel => exact ⟨k + 1, by omega, by go_num, hbw⟩
        case measure => simp [intOf]; omega
      · go_wp2_with fail
        go_ret
        exact ⟨rfl, hbr⟩

/-- The marks: instruction number i from k on. -/
def markI (k : Int) : In6 := ⟨k, k + 1, k + 2, k + 3, k + 4, k + 5⟩
def marksI (n : Nat) : List In6 := (List.range n).map fun (i : Nat) => markI (1 + 6 * (i : Int))

theorem marksI_at {n i : Nat} (h : i < n) : (marksI n)[i]? = some (markI (1 + 6 * (i : Int))) := by
  simp [marksI, h]

theorem marksI_step (l : List In6) (n i : Nat) (hl : l.length = n) (h : i < n) : ((marksI n).take i ++ l.drop i).set i (markI (1 + 6 * (i : Int))) = (marksI n).take (i + 1) ++ l.drop (i + 1) :=
  itake_set _ _ _ _ (marksI_at h) (by omega)

set_option maxHeartbeats 4000000 in
theorem markIS (g n c : Nat) (l : List In6) (w : World) (h : IB w g l) (hl : l.length = n) (hn : n ≤ 1048576) :
    Calls Tryd.prog 15 #[.slice (some ⟨g, 0, none⟩) n c, .int .i64 1] w fun e w' => e = .returned (.int .i64 (1 + 6 * (n : Int))) ∧ But w w' g := by
  have Hl : Hid (l.length = n) := hl
  have H0 : Hid (IB w g ((marksI n).take 0 ++ l.drop 0)) := by show IB _ _ _; simpa using h
  clear h hl
  go_enter Tryd.func15, Tryd.ntmps15
  go_wp2_with fail
  go_loopw [1, 5] (fun k i wr => ∃ j : Nat, j ≤ n ∧ i = .int .i64 j ∧ k = .int .i64 (1 + 6 * (j : Int)) ∧ Hid (IB wr g ((marksI n).take j ++ l.drop j)) ∧ Hid (But w wr g)) (fun _ i _ => n - (intOf i).toNat)
  case atStart => exact ⟨0, Nat.zero_le _, rfl, rfl, H0, But.refl _ _⟩
  case round =>
    obtain ⟨j, hj, rfl, rfl, hw, hbut⟩ := hrel
    by_cases hlt : j < n
    · obtain ⟨y, hy⟩ : ∃ y, ((marksI n).take j ++ l.drop j)[j]? = some y := ⟨_, List.getElem?_eq_getElem (by rw [List.length_append, List.length_take, List.length_drop, Hl.out]; simp [marksI]; omega)⟩
      obtain ⟨c0, c1, c2, c3, c4, c5⟩ := hw.out.ins hy
      have f0 := hw.out.frozen (j * 6)
      have f1 := hw.out.frozen (j * 6 + 1)
      have f2 := hw.out.frozen (j * 6 + 2)
      have f3 := hw.out.frozen (j * 6 + 3)
      have f4 := hw.out.frozen (j * 6 + 4)
      have f5 := hw.out.frozen (j * 6 + 5)
      clear hy
      go_wp2_with fail
      go_roundw
      case rel =>
        have hs := IB.set (k := j) hw.out (markI (1 + 6 * (j : Int))) (by rw [List.length_append, List.length_take, List.length_drop, Hl.out]; simp [marksI]; omega)
        rw [marksI_step l n j Hl.out hlt] at hs
        have hb := (((((hbut.out.set (j * 6) (.int .i64 (1 + 6 * (j : Int)))).set (j * 6 + 1) (.int .i64 (1 + 6 * (j : Int) + 1))).set (j * 6 + 2) (.int .i64 (1 + 6 * (j : Int) + 2))).set (j * 6 + 3) (.int .i64 (1 + 6 * (j : Int) + 3))).set (j * 6 + 4) (.int .i64 (1 + 6 * (j : Int) + 4))).set (j * 6 + 5) (.int .i64 (1 + 6 * (j : Int) + 5))
        exact ⟨j + 1, by omega, by go_num, by go_num, hs, hb⟩
      case measure => simp [intOf]; omega
    · have : j = n := by omega
      subst this
      go_wp2_with fail
      go_ret
      exact ⟨rfl, hbut.out⟩
end Go.Proofs.YtjhnfmapjpfjcaaDoor

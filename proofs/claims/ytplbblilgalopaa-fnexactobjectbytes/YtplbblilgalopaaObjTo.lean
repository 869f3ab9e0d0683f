/- Contracts of the laws' own helpers that copy exports and imports. -/
import Derived.Test.YtplbblilgalopaaRec3b
import Derived.Test.YtplbblilgalopaaBytes
import Derived.Deep.RegionHeld3
import Derived.Deep.Cut
import Derived.Deep.CutRange
namespace Go.Proofs.Ytplbblilgalopaa
open Go.RowKit
set_option linter.unusedVariables false
set_option maxRecDepth 100000

theorem bkE {lo hi g n : Nat} {p q : Int} (h1 : lo ≤ g) (h2 : g < hi) : Bk lo hi (R3.owns ⟨.slice (some ⟨g, 0, none⟩) n n, .int .i64 p, .int .i64 q⟩) := by
  refine ⟨fun k hk => ?_, ?_⟩
  · simp only [R3.owns, Value.ownBlock, List.mem_cons, List.not_mem_nil, or_false, Option.some.injEq, reduceCtorEq] at hk; omega
  · simp [R3.owns, Value.ownBlock]

theorem bkM {lo hi g g2 n m : Nat} {p : Int} (h1 : lo ≤ g) (h2 : g < g2) (h3 : g2 < hi) : Bk lo hi (R3.owns ⟨.slice (some ⟨g, 0, none⟩) n n, .slice (some ⟨g2, 0, none⟩) m m, .int .i64 p⟩) := by
  refine ⟨fun k hk => ?_, ?_⟩
  · simp only [R3.owns, Value.ownBlock, List.mem_cons, List.not_mem_nil, or_false, Option.some.injEq, reduceCtorEq] at hk; omega
  · simp [R3.owns, Value.ownBlock]; omega

set_option maxHeartbeats 2000000 in
theorem toExportM (a : Option Addr) (c : Nat) (l : List Int) (p q : Int) (w : World) (h : BRow w a l.length l) (hn : l.length ≤ 1048576) :
    Calls Try.prog 53 #[.agg #[.slice a l.length c, .int .i64 p, .int .i64 q]] w fun e w' => ∃ g, e = .returned (.agg #[.slice (some ⟨g, 0, none⟩) l.length l.length, .int .i64 p, .int .i64 q]) ∧ w.heap.size ≤ g ∧ g < w'.heap.size ∧ Own w' w.heap.size (.slice (some ⟨g, 0, none⟩) l.length l.length) l.length l ∧ Below w.heap.size w w' := by
  go_enter Try.func53, Try.ntmps53
  go_upto_region 2 with fail
  have x1 := B3.new w 84 (.slice a l.length c) (.int .i64 p) (.int .i64 q)
  have y1 : Below w.heap.size w (w.alloc (.cells #[.slice a l.length c, .int .i64 p, .int .i64 q] 84 (0, 0))) := (Below.refl _ _).alloc (Nat.le_refl _) _
  have z1 : (w.alloc (.cells #[.slice a l.length c, .int .i64 p, .int .i64 q] 84 (0, 0))).heap.size = w.heap.size + 1 := by simp
  generalize w.alloc (.cells #[.slice a l.length c, .int .i64 p, .int .i64 q] 84 (0, 0)) = w1 at *
  have x2 := B3.new w1 49 (.slice none 0 0) (.int .i64 0) (.int .i64 0)
  have y2 := y1.alloc y1.size (.cells #[.slice none 0 0, .int .i64 0, .int .i64 0] 49 (0, 0))
  have x1' := x1.old (o := .cells #[.slice none 0 0, .int .i64 0, .int .i64 0] 49 (0, 0))
  have z2 : (w1.alloc (.cells #[.slice none 0 0, .int .i64 0, .int .i64 0] 49 (0, 0))).heap.size = w.heap.size + 2 := by simp; omega
  rw [z1] at x2
  generalize w1.alloc (.cells #[.slice none 0 0, .int .i64 0, .int .i64 0] 49 (0, 0)) = w2 at *
  have x3 := B3.new w2 49 (.slice none 0 0) (.int .i64 0) (.int .i64 0)
  have y3 := y2.alloc y2.size (.cells #[.slice none 0 0, .int .i64 0, .int .i64 0] 49 (0, 0))
  have x1'' := x1'.old (o := .cells #[.slice none 0 0, .int .i64 0, .int .i64 0] 49 (0, 0))
  have x2' := x2.old (o := .cells #[.slice none 0 0, .int .i64 0, .int .i64 0] 49 (0, 0))
  have z3 : (w2.alloc (.cells #[.slice none 0 0, .int .i64 0, .int .i64 0] 49 (0, 0))).heap.size = w.heap.size + 3 := by simp; omega
  rw [z2] at x3
  generalize w2.alloc (.cells #[.slice none 0 0, .int .i64 0, .int .i64 0] 49 (0, 0)) = w3 at *
  have hr := h.below y3
  clear x1 x1' x2 y1 y2 z1 z2 h
  obtain ⟨c0, c1, c2, _, _, _⟩ := x1''.facts
  go_wp2_with fail
  refine (copyB _ _ _ l _ hr hn).mono ?_
  rintro e w4 ⟨rfl, ho, _, hb, hlt⟩
  rw [z3] at ho hb hlt ⊢
  have b0 := x1''.below hb (by omega)
  have b1 := x2'.below hb (by omega)
  have b2 := x3.below hb (by omega)
  have y4 : Below w.heap.size w w4 := y3.trans (hb.mono (by omega))
  clear c0 c1 c2 x1'' x2' x3 hr y3 z3 hb
  obtain ⟨c0, c1, c2, _, _, _⟩ := b0.facts
  obtain ⟨d0, d1, d2, f0, f1, f2⟩ := b1.facts
  obtain ⟨g0, g1, g2, k0, k1, k2⟩ := b2.facts
  go_wp2_with fail
  obtain ⟨W3, WB, WS, WO⟩ := lay6 (x := .slice (some ⟨w.heap.size + 3, 0, none⟩) l.length l.length) (y := .int .i64 p) (z := .int .i64 q) (g := w.heap.size + 1 + 1) b1 y4 (by omega) (by omega) (by omega)
  have WO' := (WO _ _ _ _ ho (by simp [Value.ownBlock]) (by simp [Value.ownBlock])).mono (base' := w.heap.size) (by omega)
  obtain ⟨e0, e1, e2, _, _, _⟩ := W3.facts
  refine bodyPost_ret (v := .agg #[.slice (some ⟨w.heap.size + 3, 0, none⟩) l.length l.length, .int .i64 p, .int .i64 q]) (by simp only [results, Try.results53]; simp [go_sem, d0, d1, d2]) rfl ⟨_, rfl, by omega, by rw [WS]; exact hlt, WO', WB⟩
set_option maxHeartbeats 2000000 in
theorem toImportM (a : Option Addr) (c : Nat) (l : List Int) (a2 : Option Addr) (c2 : Nat) (l2 : List Int) (p : Int) (w : World) (h : BRow w a l.length l) (hn : l.length ≤ 1048576) (h2 : BRow w a2 l2.length l2) (hn2 : l2.length ≤ 1048576) :
    Calls Try.prog 54 #[.agg #[.slice a l.length c, .slice a2 l2.length c2, .int .i64 p]] w fun e w' => ∃ g g2, e = .returned (.agg #[.slice (some ⟨g, 0, none⟩) l.length l.length, .slice (some ⟨g2, 0, none⟩) l2.length l2.length, .int .i64 p]) ∧ w.heap.size ≤ g ∧ g < g2 ∧ g2 < w'.heap.size ∧ Own w' w.heap.size (.slice (some ⟨g, 0, none⟩) l.length l.length) l.length l ∧ Own w' w.heap.size (.slice (some ⟨g2, 0, none⟩) l2.length l2.length) l2.length l2 ∧ Below w.heap.size w w' := by
  go_enter Try.func54, Try.ntmps54
  go_upto_region 2 with fail
  have x1 := B3.new w 86 (.slice a l.length c) (.slice a2 l2.length c2) (.int .i64 p)
  have y1 : Below w.heap.size w (w.alloc (.cells #[.slice a l.length c, .slice a2 l2.length c2, .int .i64 p] 86 (0, 0))) := (Below.refl _ _).alloc (Nat.le_refl _) _
  have z1 : (w.alloc (.cells #[.slice a l.length c, .slice a2 l2.length c2, .int .i64 p] 86 (0, 0))).heap.size = w.heap.size + 1 := by simp
  generalize w.alloc (.cells #[.slice a l.length c, .slice a2 l2.length c2, .int .i64 p] 86 (0, 0)) = w1 at *
  have x2 := B3.new w1 52 (.slice none 0 0) (.slice none 0 0) (.int .i64 0)
  have y2 := y1.alloc y1.size (.cells #[.slice none 0 0, .slice none 0 0, .int .i64 0] 52 (0, 0))
  have x1' := x1.old (o := .cells #[.slice none 0 0, .slice none 0 0, .int .i64 0] 52 (0, 0))
  have z2 : (w1.alloc (.cells #[.slice none 0 0, .slice none 0 0, .int .i64 0] 52 (0, 0))).heap.size = w.heap.size + 2 := by simp; omega
  rw [z1] at x2
  generalize w1.alloc (.cells #[.slice none 0 0, .slice none 0 0, .int .i64 0] 52 (0, 0)) = w2 at *
  have x3 := B3.new w2 52 (.slice none 0 0) (.slice none 0 0) (.int .i64 0)
  have y3 := y2.alloc y2.size (.cells #[.slice none 0 0, .slice none 0 0, .int .i64 0] 52 (0, 0))
  have x1'' := x1'.old (o := .cells #[.slice none 0 0, .slice none 0 0, .int .i64 0] 52 (0, 0))
  have x2' := x2.old (o := .cells #[.slice none 0 0, .slice none 0 0, .int .i64 0] 52 (0, 0))
  have z3 : (w2.alloc (.cells #[.slice none 0 0, .slice none 0 0, .int .i64 0] 52 (0, 0))).heap.size = w.heap.size + 3 := by simp; omega
  rw [z2] at x3
  generalize w2.alloc (.cells #[.slice none 0 0, .slice none 0 0, .int .i64 0] 52 (0, 0)) = w3 at *
  have hr := h.below y3
  clear x1 x1' x2 y1 y2 z1 z2 h
  obtain ⟨c0, c1, c2', _, _, _⟩ := x1''.facts
  go_wp2_with fail
  refine (copyB _ _ _ l _ hr hn).mono ?_
  rintro e w4 ⟨rfl, ho, _, hb, hlt⟩
  rw [z3] at ho hb hlt ⊢
  have b0 := x1''.below hb (by omega)
  have b1 := x2'.below hb (by omega)
  have b2 := x3.below hb (by omega)
  have y4 : Below w.heap.size w w4 := y3.trans (hb.mono (by omega))
  clear c0 c1 c2' x1'' x2' x3 hr y3 z3 hb
  obtain ⟨c0, c1, c2', _, _, _⟩ := b0.facts
  obtain ⟨g0, g1, g2, k0, k1, k2⟩ := b2.facts
  go_upto_region 3 with fail
  have b0' := b0.other (k := w.heap.size + 1 + 1) (i := 0) (v := .slice (some ⟨w.heap.size + 3, 0, none⟩) l.length l.length) (by omega)
  have b1' := b1.other (k := w.heap.size + 1 + 1) (i := 0) (v := .slice (some ⟨w.heap.size + 3, 0, none⟩) l.length l.length) (by omega)
  have b2' := b2.set0 (.slice (some ⟨w.heap.size + 3, 0, none⟩) l.length l.length)
  have y5 : Below w.heap.size w (w4.setCell ⟨w.heap.size + 1 + 1, 0, none⟩ (.slice (some ⟨w.heap.size + 3, 0, none⟩) l.length l.length)) := y4.setCell (by simp; omega) _
  have ho5 := ho.other (k := w.heap.size + 1 + 1) (i := 0) (u := .slice (some ⟨w.heap.size + 3, 0, none⟩) l.length l.length) (by simp [Value.ownBlock])
  have hs5 : (w4.setCell ⟨w.heap.size + 1 + 1, 0, none⟩ (.slice (some ⟨w.heap.size + 3, 0, none⟩) l.length l.length)).heap.size = w4.heap.size := by simp
  generalize w4.setCell ⟨w.heap.size + 1 + 1, 0, none⟩ (.slice (some ⟨w.heap.size + 3, 0, none⟩) l.length l.length) = w5 at *
  rw [← hs5] at hlt
  clear c0 c1 c2' g0 g1 g2 k0 k1 k2 b0 b1 b2 y4 ho hs5
  obtain ⟨c0, c1, c2', _, _, _⟩ := b0'.facts
  go_wp2_with fail
  refine (copyB _ _ _ l2 _ (h2.below y5) hn2).mono ?_
  rintro e w6 ⟨rfl, ho2, _, hb, hlt2⟩
  have b0 := b0'.below hb (by omega)
  have b1 := b1'.below hb (by omega)
  have b2 := b2'.below hb (by omega)
  have y6 : Below w.heap.size w w6 := y5.trans (hb.mono y5.size)
  have ho6 := ho5.below hb
  clear c0 c1 c2' b0' b1' b2' ho5 hb
  generalize w5.heap.size = s5 at *
  obtain ⟨c0, c1, c2', _, _, _⟩ := b0.facts
  obtain ⟨d0, d1, d2, f0, f1, f2⟩ := b1.facts
  obtain ⟨g0, g1, g2, k0, k1, k2⟩ := b2.facts
  go_wp2_with fail
  obtain ⟨W3, WB, WS, WO⟩ := lay5 (x := .slice (some ⟨w.heap.size + 3, 0, none⟩) l.length l.length) (y := .slice (some ⟨s5, 0, none⟩) l2.length l2.length) (z := .int .i64 p) (g := w.heap.size + 1 + 1) b1 y6 (by omega) (by omega) (by omega)
  have WO1 := (WO _ _ _ _ ho6 (by simp [Value.ownBlock]) (by simp [Value.ownBlock])).mono (base' := w.heap.size) (by omega)
  have WO2 := (WO _ _ _ _ ho2 (by simp [Value.ownBlock]; omega) (by simp [Value.ownBlock]; omega)).mono (base' := w.heap.size) (by omega)
  refine bodyPost_ret (v := .agg #[.slice (some ⟨w.heap.size + 3, 0, none⟩) l.length l.length, .slice (some ⟨s5, 0, none⟩) l2.length l2.length, .int .i64 p]) (by simp only [results, Try.results54]; simp [go_sem, d0, d1, d2]) rfl ⟨_, _, rfl, by omega, by omega, by rw [WS]; exact hlt2, WO1, WO2, WB⟩

set_option maxHeartbeats 4000000 in
theorem toExportsM (a : Option Addr) (n c : Nat) (ds : List D3) (w : World) (h : DRow w a n ds) (hn : n ≤ 1048576) (hd : ∀ d ∈ ds, ∃ l p q, d = (⟨.b l, .n p, .n q⟩ : D3) ∧ l.length ≤ 1048576) :
    Calls Try.prog 26 #[.slice a n c] w fun e w' => ∃ l, e = .returned (.slice (some ⟨w.heap.size, 0, none⟩) n n) ∧ DOwn w' 49 w.heap.size (.slice (some ⟨w.heap.size, 0, none⟩) n n) n l ds ∧ Bk w.heap.size w'.heap.size (some w.heap.size :: owners l) ∧ Below w.heap.size w w' := by
  obtain ⟨i0, hi, hz0, hz1, hz2⟩ := info_parts infoE
  have Hd : Hid (ds.length = n) := h.1
  have H : Hid (DRow w a n ds) := h
  have HD : Hid (∀ d ∈ ds, ∃ l p q, d = (⟨.b l, .n p, .n q⟩ : D3) ∧ l.length ≤ 1048576) := hd
  clear hd
  go_enter Try.func26, Try.ntmps26
  go_wp2_with (at_make; refine wpList_make_full _ rfl _ _ 29 rfl w.heap.size 49 i0 _ 3 Try.underlying29 hi hz0 hz1 _ _ _ _ n rfl rfl rfl rfl (by rw [hz2]; omega) (by unfold maxLen; omega) (Nat.le_refl _) ?_)
  intro w1 hown hgrow
  have H1 : Hid (∃ l, TL w w1 49 n 0 zeroE l ds) := ⟨[], TL.start hown hgrow⟩
  clear hown hgrow
  rcases Nat.eq_zero_or_pos n with h0 | hpos
  · subst h0
    clear h
    go_wp2_with fail
    refine wp_loop_rounds 1 ?_
    rw [rounds_succ]
    go_wp2_with fail
    go_ret
    obtain ⟨l, hl⟩ := H1.out
    exact ⟨l, rfl, hl.done Hd.out, hl.bk, hl.below⟩
  · obtain ⟨b, off, rfl⟩ := h.addr hpos
    clear h
    go_wp2_with fail
    go_loopw [4] (fun i wr => ∃ k : Nat, k ≤ n ∧ i = .int .i64 k ∧ Hid (∃ l, TL w wr 49 n k zeroE l ds)) (fun i _ => n - (intOf i).toNat)
    case atStart => exact ⟨0, Nat.zero_le _, rfl, H1⟩
    case round =>
      obtain ⟨k, hk, rfl, ht⟩ := hrel
      clear H1
      by_cases hlt : k < n
      · obtain ⟨l, ht⟩ := ht.out
        obtain ⟨⟨rx, ry, rz⟩, d, hdk, hR, q0, q1, q2⟩ := DRow.el (DRow.below (show DRow w (some ⟨b, off, none⟩) n ds from H.out) ht.below) hlt
        obtain ⟨ll, p, q, rfl, hll⟩ := HD.out d (List.mem_of_getElem? hdk)
        obtain ⟨⟨ax, cx, rfl, hbx, _⟩, rfl, rfl⟩ := hR
        have HT : Hid _ := ht
        have HK : Hid _ := hdk
        clear ht hdk
        go_wp2_with fail
        refine (toExportM ax cx ll p q wr hbx hll).mono ?_
        rintro e w2 ⟨g2, rfl, hg2, hg3, ho2, hb2⟩
        have HS := HT.out.step hlt hb2 HK.out (r := ⟨.slice (some ⟨g2, 0, none⟩) ll.length ll.length, .int .i64 p, .int .i64 q⟩) ⟨⟨_, _, rfl, ho2⟩, rfl, rfl⟩ (bkE hg2 hg3)
        have HS' : Hid _ := HS
        obtain ⟨u0, u1, u2, c0, c1, c2, f0, f1, f2⟩ := (HT.out.call hb2).cells hlt
        clear q0 q1 q2 HS HT HK
        go_wp2_with fail
        go_roundw
        case rel => exact ⟨k + 1, by omega, by go_num, ⟨_, HS'.out⟩⟩
        case measure => simp [intOf]; omega
      · have : k = n := by omega
        subst this
        go_wp2_with fail
        go_ret
        obtain ⟨l, hl⟩ := ht.out
        exact ⟨l, rfl, hl.done Hd.out, hl.bk, hl.below⟩

set_option maxHeartbeats 4000000 in
theorem toImportsM (a : Option Addr) (n c : Nat) (ds : List D3) (w : World) (h : DRow w a n ds) (hn : n ≤ 1048576) (hd : ∀ d ∈ ds, ∃ l l2 p, d = (⟨.b l, .b l2, .n p⟩ : D3) ∧ l.length ≤ 1048576 ∧ l2.length ≤ 1048576) :
    Calls Try.prog 27 #[.slice a n c] w fun e w' => ∃ l, e = .returned (.slice (some ⟨w.heap.size, 0, none⟩) n n) ∧ DOwn w' 52 w.heap.size (.slice (some ⟨w.heap.size, 0, none⟩) n n) n l ds ∧ Bk w.heap.size w'.heap.size (some w.heap.size :: owners l) ∧ Below w.heap.size w w' := by
  obtain ⟨i0, hi, hz0, hz1, hz2⟩ := info_parts infoM
  have Hd : Hid (ds.length = n) := h.1
  have H : Hid (DRow w a n ds) := h
  have HD : Hid (∀ d ∈ ds, ∃ l l2 p, d = (⟨.b l, .b l2, .n p⟩ : D3) ∧ l.length ≤ 1048576 ∧ l2.length ≤ 1048576) := hd
  clear hd
  go_enter Try.func27, Try.ntmps27
  go_wp2_with (at_make; refine wpList_make_full _ rfl _ _ 30 rfl w.heap.size 52 i0 _ 3 Try.underlying30 hi hz0 hz1 _ _ _ _ n rfl rfl rfl rfl (by rw [hz2]; omega) (by unfold maxLen; omega) (Nat.le_refl _) ?_)
  intro w1 hown hgrow
  have H1 : Hid (∃ l, TL w w1 52 n 0 zeroM l ds) := ⟨[], TL.start hown hgrow⟩
  clear hown hgrow
  rcases Nat.eq_zero_or_pos n with h0 | hpos
  · subst h0
    clear h
    go_wp2_with fail
    refine wp_loop_rounds 1 ?_
    rw [rounds_succ]
    go_wp2_with fail
    go_ret
    obtain ⟨l, hl⟩ := H1.out
    exact ⟨l, rfl, hl.done Hd.out, hl.bk, hl.below⟩
  · obtain ⟨b, off, rfl⟩ := h.addr hpos
    clear h
    go_wp2_with fail
    go_loopw [4] (fun i wr => ∃ k : Nat, k ≤ n ∧ i = .int .i64 k ∧ Hid (∃ l, TL w wr 52 n k zeroM l ds)) (fun i _ => n - (intOf i).toNat)
    case atStart => exact ⟨0, Nat.zero_le _, rfl, H1⟩
    case round =>
      obtain ⟨k, hk, rfl, ht⟩ := hrel
      clear H1
      by_cases hlt : k < n
      · obtain ⟨l, ht⟩ := ht.out
        obtain ⟨⟨rx, ry, rz⟩, d, hdk, hR, q0, q1, q2⟩ := DRow.el (DRow.below (show DRow w (some ⟨b, off, none⟩) n ds from H.out) ht.below) hlt
        obtain ⟨ll, ll2, p, rfl, hll, hll2⟩ := HD.out d (List.mem_of_getElem? hdk)
        obtain ⟨⟨ax, cx, rfl, hbx, _⟩, ⟨ay, cy, rfl, hby, _⟩, rfl⟩ := hR
        have HT : Hid _ := ht
        have HK : Hid _ := hdk
        clear ht hdk
        go_wp2_with fail
        refine (toImportM ax cx ll ay cy ll2 p wr hbx hll hby hll2).mono ?_
        rintro e w2 ⟨g2, g3, rfl, hg2, hg3, hg4, ho2, ho3, hb2⟩
        have HS := HT.out.step hlt hb2 HK.out (r := ⟨.slice (some ⟨g2, 0, none⟩) ll.length ll.length, .slice (some ⟨g3, 0, none⟩) ll2.length ll2.length, .int .i64 p⟩) ⟨⟨_, _, rfl, ho2⟩, ⟨_, _, rfl, ho3⟩, rfl⟩ (bkM hg2 hg3 hg4)
        have HS' : Hid _ := HS
        obtain ⟨u0, u1, u2, c0, c1, c2, f0, f1, f2⟩ := (HT.out.call hb2).cells hlt
        clear q0 q1 q2 HS HT HK
        go_wp2_with fail
        go_roundw
        case rel => exact ⟨k + 1, by omega, by go_num, ⟨_, HS'.out⟩⟩
        case measure => simp [intOf]; omega
      · have : k = n := by omega
        subst this
        go_wp2_with fail
        go_ret
        obtain ⟨l, hl⟩ := ht.out
        exact ⟨l, rfl, hl.done Hd.out, hl.bk, hl.below⟩

end Go.Proofs.Ytplbblilgalopaa

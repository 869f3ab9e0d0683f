/- Contracts of the laws' own helpers that compare exports and imports: where both read alike, they say so. -/
import Derived.Test.YthfknedokkccaaaRec3b
import Derived.Test.YthfknedokkccaaaBytes
import Derived.Deep.RegionHeld3
import Derived.Deep.Cut
import Derived.Deep.CutRange
namespace Go.Proofs.Ythfknedokkccaaa
open Go.RowKit
set_option linter.unusedVariables false
set_option linter.unusedSimpArgs false
set_option maxRecDepth 100000

theorem two_boxes (w : World) (t : TypeId) (x y z x' y' z' : Value) :
    B3 ((w.alloc (.cells #[x, y, z] t (0, 0))).alloc (.cells #[x', y', z'] t (0, 0))) w.heap.size t x y z ∧ B3 ((w.alloc (.cells #[x, y, z] t (0, 0))).alloc (.cells #[x', y', z'] t (0, 0))) (w.heap.size + 1) t x' y' z' ∧ Below w.heap.size w ((w.alloc (.cells #[x, y, z] t (0, 0))).alloc (.cells #[x', y', z'] t (0, 0))) := by
  have h := B3.new (w.alloc (.cells #[x, y, z] t (0, 0))) t x' y' z'
  rw [show (w.alloc (.cells #[x, y, z] t (0, 0))).heap.size = w.heap.size + 1 by simp] at h
  exact ⟨(B3.new w t x y z).old, h, ((Below.refl _ _).alloc (Nat.le_refl _) _).alloc (by simp) _⟩

set_option maxHeartbeats 2000000 in
theorem eqExportM (a : Option Addr) (c : Nat) (a2 : Option Addr) (c2 : Nat) (l : List Int) (p q : Int) (w : World) (h : BRow w a l.length l) (h2 : BRow w a2 l.length l) (hn : l.length ≤ 1048576) :
    Calls Try.prog 47 #[.agg #[.slice a l.length c, .int .i64 p, .int .i64 q], .agg #[.slice a2 l.length c2, .int .i64 p, .int .i64 q]] w fun e w' => e = .returned (.bool true) ∧ Below w.heap.size w w' := by
  obtain ⟨x1, x2, hb⟩ := two_boxes w 41 (.slice a l.length c) (.int .i64 p) (.int .i64 q) (.slice a2 l.length c2) (.int .i64 p) (.int .i64 q)
  have hp : (p != p) = false := by simp
  have hq : (q != q) = false := by simp
  go_enter Try.func47, Try.ntmps47
  go_upto_region 1 with fail
  generalize (w.alloc (.cells #[.slice a l.length c, .int .i64 p, .int .i64 q] 41 (0, 0))).alloc (.cells #[.slice a2 l.length c2, .int .i64 p, .int .i64 q] 41 (0, 0)) = w1 at *
  have r1 := h.below hb
  have r2 := h2.below hb
  obtain ⟨c0, _, _, _, _, _⟩ := x1.facts
  obtain ⟨d0, _, _, _, _, _⟩ := x2.facts
  go_wp2_with fail
  refine (eqT _ _ _ l _ _ _ _ r1 r2 (by omega)).mono ?_
  rintro e w2 ⟨rfl, hb2⟩
  have y1 := x1.below hb2 x1.lt
  have y2 := x2.below hb2 x2.lt
  have hbw : Below w.heap.size w w2 := hb.trans (hb2.mono hb.size)
  clear c0 d0 x1 x2 hb hb2 r1 r2 h h2
  obtain ⟨_, c1, c2, _, _, _⟩ := y1.facts
  obtain ⟨_, d1, d2, _, _, _⟩ := y2.facts
  go_wp2_with fail
  go_ret
  exact ⟨rfl, hbw⟩

set_option maxHeartbeats 2000000 in
theorem eqImportM (a : Option Addr) (c : Nat) (a2 : Option Addr) (c2 : Nat) (l : List Int) (b : Option Addr) (d : Nat) (b2 : Option Addr) (d2 : Nat) (m : List Int) (p : Int) (w : World) (h : BRow w a l.length l) (h2 : BRow w a2 l.length l) (hn : l.length ≤ 1048576) (g : BRow w b m.length m) (g2 : BRow w b2 m.length m) (gn : m.length ≤ 1048576) :
    Calls Try.prog 48 #[.agg #[.slice a l.length c, .slice b m.length d, .int .i64 p], .agg #[.slice a2 l.length c2, .slice b2 m.length d2, .int .i64 p]] w fun e w' => e = .returned (.bool true) ∧ Below w.heap.size w w' := by
  obtain ⟨x1, x2, hb⟩ := two_boxes w 43 (.slice a l.length c) (.slice b m.length d) (.int .i64 p) (.slice a2 l.length c2) (.slice b2 m.length d2) (.int .i64 p)
  have hp : (p != p) = false := by simp
  go_enter Try.func48, Try.ntmps48
  go_upto_region 1 with fail
  generalize (w.alloc (.cells #[.slice a l.length c, .slice b m.length d, .int .i64 p] 43 (0, 0))).alloc (.cells #[.slice a2 l.length c2, .slice b2 m.length d2, .int .i64 p] 43 (0, 0)) = w1 at *
  have r1 := h.below hb
  have r2 := h2.below hb
  have s1 := g.below hb
  have s2 := g2.below hb
  obtain ⟨k0, _, _, _, _, _⟩ := x1.facts
  obtain ⟨j0, _, _, _, _, _⟩ := x2.facts
  go_wp2_with fail
  refine (eqT _ _ _ l _ _ _ _ r1 r2 (by omega)).mono ?_
  rintro e w2 ⟨rfl, hb2⟩
  have y1 := x1.below hb2 x1.lt
  have y2 := x2.below hb2 x2.lt
  have t1 := s1.below hb2
  have t2 := s2.below hb2
  have hbw : Below w.heap.size w w2 := hb.trans (hb2.mono hb.size)
  clear k0 j0 x1 x2 hb hb2 r1 r2 h h2 g g2 s1 s2
  obtain ⟨_, k1, k2, _, _, _⟩ := y1.facts
  obtain ⟨_, j1, j2, _, _, _⟩ := y2.facts
  go_wp2_with fail
  refine (eqT _ _ _ m _ _ _ _ t1 t2 (by omega)).mono ?_
  rintro e w3 ⟨rfl, hb3⟩
  have z1 := y1.below hb3 y1.lt
  have z2 := y2.below hb3 y2.lt
  have hbw3 : Below w.heap.size w w3 := hbw.trans (hb3.mono hbw.size)
  clear k1 k2 j1 j2 y1 y2 hb3 t1 t2 hbw
  obtain ⟨_, _, k2, _, _, _⟩ := z1.facts
  obtain ⟨_, _, j2, _, _, _⟩ := z2.facts
  go_wp2_with fail
  go_ret
  exact ⟨rfl, hbw3⟩

set_option maxHeartbeats 4000000 in
theorem eqExportsM (a1 : Option Addr) (n c1 : Nat) (ds : List D3) (a2 : Option Addr) (c2 : Nat) (w : World) (h1 : DRow w a1 n ds) (h2 : DRow w a2 n ds) (hn : n ≤ 1048576) (hd : ∀ d ∈ ds, ∃ l p q, d = (⟨.b l, .n p, .n q⟩ : D3) ∧ l.length ≤ 1048576) :
    Calls Try.prog 19 #[.slice a1 n c1, .slice a2 n c2] w fun e w' => e = .returned (.bool true) ∧ Below w.heap.size w w' := by
  rcases Nat.eq_zero_or_pos n with h0 | hpos
  · subst h0
    clear h1 h2 hd
    go_enter Try.func19, Try.ntmps19
    go_wp2_with fail
    refine wp_loop_rounds 1 ?_
    rw [rounds_succ]
    go_wp2_with fail
    go_ret
    exact ⟨rfl, Below.refl _ _⟩
  · obtain ⟨b1, o1, rfl⟩ := h1.addr hpos
    obtain ⟨b2, o2, rfl⟩ := h2.addr hpos
    have H1 : Hid (DRow w (some ⟨b1, o1, none⟩) n ds) := h1
    have H2 : Hid (DRow w (some ⟨b2, o2, none⟩) n ds) := h2
    have HD : Hid (∀ d ∈ ds, ∃ l p q, d = (⟨.b l, .n p, .n q⟩ : D3) ∧ l.length ≤ 1048576) := hd
    clear h1 h2 hd
    go_enter Try.func19, Try.ntmps19
    go_wp2_with fail
    go_loopw [5] (fun i wr => ∃ k : Nat, k ≤ n ∧ i = .int .i64 k ∧ Below w.heap.size w wr) (fun i _ => n - (intOf i).toNat)
    case atStart => exact ⟨0, Nat.zero_le _, rfl, Below.refl _ _⟩
    case round =>
      obtain ⟨k, hk, rfl, hbr⟩ := hrel
      by_cases hlt : k < n
      · obtain ⟨⟨rx, ry, rz⟩, d, hdk, hR, p0, p1, p2⟩ := DRow.el (DRow.below (show DRow w (some ⟨b1, o1, none⟩) n ds from H1.out) hbr) hlt
        obtain ⟨⟨sx, sy, sz⟩, d', hdk', hR', q0, q1, q2⟩ := DRow.el (DRow.below (show DRow w (some ⟨b2, o2, none⟩) n ds from H2.out) hbr) hlt
        have e : d = d' := by rw [hdk] at hdk'; exact Option.some.inj hdk'
        subst e
        obtain ⟨ll, p, q, rfl, hll⟩ := HD.out d (List.mem_of_getElem? hdk)
        obtain ⟨⟨ax, cx, rfl, hbx, _⟩, rfl, rfl⟩ := hR
        obtain ⟨⟨ay, cy, rfl, hby, _⟩, rfl, rfl⟩ := hR'
        have hbx' : BRow wr.drew ax ll.length ll := hbx
        have hby' : BRow wr.drew ay ll.length ll := hby
        clear hdk hdk'
        have HS0 : (wr.drew.cell? ⟨b1, o1 + k * 3, none⟩ = some (.slice ax ll.length cx) ∧ wr.drew.cell? ⟨b1, o1 + k * 3 + 1, none⟩ = some (.int .i64 p) ∧ wr.drew.cell? ⟨b1, o1 + k * 3 + 2, none⟩ = some (.int .i64 q) ∧ wr.drew.cell? ⟨b2, o2 + k * 3, none⟩ = some (.slice ay ll.length cy) ∧ wr.drew.cell? ⟨b2, o2 + k * 3 + 1, none⟩ = some (.int .i64 p) ∧ wr.drew.cell? ⟨b2, o2 + k * 3 + 2, none⟩ = some (.int .i64 q)) := ⟨p0, p1, p2, q0, q1, q2⟩
        have hbs : ∀ {wl : World}, Below wr.drew.heap.size wr.drew wl → (wl.cell? ⟨b1, o1 + k * 3, none⟩ = some (.slice ax ll.length cx) ∧ wl.cell? ⟨b1, o1 + k * 3 + 1, none⟩ = some (.int .i64 p) ∧ wl.cell? ⟨b1, o1 + k * 3 + 2, none⟩ = some (.int .i64 q) ∧ wl.cell? ⟨b2, o2 + k * 3, none⟩ = some (.slice ay ll.length cy) ∧ wl.cell? ⟨b2, o2 + k * 3 + 1, none⟩ = some (.int .i64 p) ∧ wl.cell? ⟨b2, o2 + k * 3 + 2, none⟩ = some (.int .i64 q)) := by
          intro wl hb
          have e1 : ∀ j, wl.cell? ⟨b1, j, none⟩ = wr.drew.cell? ⟨b1, j, none⟩ := fun j => hb.cell (show b1 < wr.heap.size from World.block_lt_of_cell? wr _ p0)
          have e2 : ∀ j, wl.cell? ⟨b2, j, none⟩ = wr.drew.cell? ⟨b2, j, none⟩ := fun j => hb.cell (show b2 < wr.heap.size from World.block_lt_of_cell? wr _ q0)
          simp only [e1, e2]
          exact HS0
        go_wp2_with fail
        go_region_held3 (fun wx => (wx.cell? ⟨b1, o1 + k * 3, none⟩ = some (.slice ax ll.length cx) ∧ wx.cell? ⟨b1, o1 + k * 3 + 1, none⟩ = some (.int .i64 p) ∧ wx.cell? ⟨b1, o1 + k * 3 + 2, none⟩ = some (.int .i64 q) ∧ wx.cell? ⟨b2, o2 + k * 3, none⟩ = some (.slice ay ll.length cy) ∧ wx.cell? ⟨b2, o2 + k * 3 + 1, none⟩ = some (.int .i64 p) ∧ wx.cell? ⟨b2, o2 + k * 3 + 2, none⟩ = some (.int .i64 q))) (first | exact HS0 | exact HSl) (first
          | (go_at_call 47; (with_reducible refine (eqExportM ax cx ay cy ll p q wr.drew hbx' hby' hll).mono ?_); rintro e wl ⟨rfl, hbl⟩; have HSl := hbs hbl))
        have hbw : Below w.heap.size w wl := hbr.drew.trans (hbl.mono hbr.size)
        clear HS0 hbs
        go_wp2_with fail
        go_roundw
        case rel => exact ⟨k + 1, by omega, by go_num, hbw⟩
        case measure => simp [intOf]; omega
      · go_wp2_with fail
        go_ret
        exact ⟨rfl, hbr⟩

set_option maxHeartbeats 4000000 in
theorem eqImportsM (a1 : Option Addr) (n c1 : Nat) (ds : List D3) (a2 : Option Addr) (c2 : Nat) (w : World) (h1 : DRow w a1 n ds) (h2 : DRow w a2 n ds) (hn : n ≤ 1048576) (hd : ∀ d ∈ ds, ∃ l l2 p, d = (⟨.b l, .b l2, .n p⟩ : D3) ∧ l.length ≤ 1048576 ∧ l2.length ≤ 1048576) :
    Calls Try.prog 20 #[.slice a1 n c1, .slice a2 n c2] w fun e w' => e = .returned (.bool true) ∧ Below w.heap.size w w' := by
  rcases Nat.eq_zero_or_pos n with h0 | hpos
  · subst h0
    clear h1 h2 hd
    go_enter Try.func20, Try.ntmps20
    go_wp2_with fail
    refine wp_loop_rounds 1 ?_
    rw [rounds_succ]
    go_wp2_with fail
    go_ret
    exact ⟨rfl, Below.refl _ _⟩
  · obtain ⟨b1, o1, rfl⟩ := h1.addr hpos
    obtain ⟨b2, o2, rfl⟩ := h2.addr hpos
    have H1 : Hid (DRow w (some ⟨b1, o1, none⟩) n ds) := h1
    have H2 : Hid (DRow w (some ⟨b2, o2, none⟩) n ds) := h2
    have HD : Hid (∀ d ∈ ds, ∃ l l2 p, d = (⟨.b l, .b l2, .n p⟩ : D3) ∧ l.length ≤ 1048576 ∧ l2.length ≤ 1048576) := hd
    clear h1 h2 hd
    go_enter Try.func20, Try.ntmps20
    go_wp2_with fail
    go_loopw [5] (fun i wr => ∃ k : Nat, k ≤ n ∧ i = .int .i64 k ∧ Below w.heap.size w wr) (fun i _ => n - (intOf i).toNat)
    case atStart => exact ⟨0, Nat.zero_le _, rfl, Below.refl _ _⟩
    case round =>
      obtain ⟨k, hk, rfl, hbr⟩ := hrel
      by_cases hlt : k < n
      · obtain ⟨⟨rx, ry, rz⟩, d, hdk, hR, p0, p1, p2⟩ := DRow.el (DRow.below (show DRow w (some ⟨b1, o1, none⟩) n ds from H1.out) hbr) hlt
        obtain ⟨⟨sx, sy, sz⟩, d', hdk', hR', q0, q1, q2⟩ := DRow.el (DRow.below (show DRow w (some ⟨b2, o2, none⟩) n ds from H2.out) hbr) hlt
        have e : d = d' := by rw [hdk] at hdk'; exact Option.some.inj hdk'
        subst e
        obtain ⟨ll, ll2, p, rfl, hll, hll2⟩ := HD.out d (List.mem_of_getElem? hdk)
        obtain ⟨⟨ax, cx, rfl, hbx, _⟩, ⟨ax2, cx2, rfl, hbx2, _⟩, rfl⟩ := hR
        obtain ⟨⟨ay, cy, rfl, hby, _⟩, ⟨ay2, cy2, rfl, hby2, _⟩, rfl⟩ := hR'
        have hbx' : BRow wr.drew ax ll.length ll := hbx
        have hby' : BRow wr.drew ay ll.length ll := hby
        have hbx2' : BRow wr.drew ax2 ll2.length ll2 := hbx2
        have hby2' : BRow wr.drew ay2 ll2.length ll2 := hby2
        clear hdk hdk'
        have HS0 : (wr.drew.cell? ⟨b1, o1 + k * 3, none⟩ = some (.slice ax ll.length cx) ∧ wr.drew.cell? ⟨b1, o1 + k * 3 + 1, none⟩ = some (.slice ax2 ll2.length cx2) ∧ wr.drew.cell? ⟨b1, o1 + k * 3 + 2, none⟩ = some (.int .i64 p) ∧ wr.drew.cell? ⟨b2, o2 + k * 3, none⟩ = some (.slice ay ll.length cy) ∧ wr.drew.cell? ⟨b2, o2 + k * 3 + 1, none⟩ = some (.slice ay2 ll2.length cy2) ∧ wr.drew.cell? ⟨b2, o2 + k * 3 + 2, none⟩ = some (.int .i64 p)) := ⟨p0, p1, p2, q0, q1, q2⟩
        have hbs : ∀ {wl : World}, Below wr.drew.heap.size wr.drew wl → (wl.cell? ⟨b1, o1 + k * 3, none⟩ = some (.slice ax ll.length cx) ∧ wl.cell? ⟨b1, o1 + k * 3 + 1, none⟩ = some (.slice ax2 ll2.length cx2) ∧ wl.cell? ⟨b1, o1 + k * 3 + 2, none⟩ = some (.int .i64 p) ∧ wl.cell? ⟨b2, o2 + k * 3, none⟩ = some (.slice ay ll.length cy) ∧ wl.cell? ⟨b2, o2 + k * 3 + 1, none⟩ = some (.slice ay2 ll2.length cy2) ∧ wl.cell? ⟨b2, o2 + k * 3 + 2, none⟩ = some (.int .i64 p)) := by
          intro wl hb
          have e1 : ∀ j, wl.cell? ⟨b1, j, none⟩ = wr.drew.cell? ⟨b1, j, none⟩ := fun j => hb.cell (show b1 < wr.heap.size from World.block_lt_of_cell? wr _ p0)
          have e2 : ∀ j, wl.cell? ⟨b2, j, none⟩ = wr.drew.cell? ⟨b2, j, none⟩ := fun j => hb.cell (show b2 < wr.heap.size from World.block_lt_of_cell? wr _ q0)
          simp only [e1, e2]
          exact HS0
        go_wp2_with fail
        go_region_held3 (fun wx => (wx.cell? ⟨b1, o1 + k * 3, none⟩ = some (.slice ax ll.length cx) ∧ wx.cell? ⟨b1, o1 + k * 3 + 1, none⟩ = some (.slice ax2 ll2.length cx2) ∧ wx.cell? ⟨b1, o1 + k * 3 + 2, none⟩ = some (.int .i64 p) ∧ wx.cell? ⟨b2, o2 + k * 3, none⟩ = some (.slice ay ll.length cy) ∧ wx.cell? ⟨b2, o2 + k * 3 + 1, none⟩ = some (.slice ay2 ll2.length cy2) ∧ wx.cell? ⟨b2, o2 + k * 3 + 2, none⟩ = some (.int .i64 p))) (first | exact HS0 | exact HSl) (first
          | (go_at_call 48; (with_reducible refine (eqImportM ax cx ay cy ll ax2 cx2 ay2 cy2 ll2 p wr.drew hbx' hby' hll hbx2' hby2' hll2).mono ?_); rintro e wl ⟨rfl, hbl⟩; have HSl := hbs hbl))
        have hbw : Below w.heap.size w wl := hbr.drew.trans (hbl.mono hbr.size)
        clear HS0 hbs
        go_wp2_with fail
        go_roundw
        case rel => exact ⟨k + 1, by omega, by go_num, hbw⟩
        case measure => simp [intOf]; omega
      · go_wp2_with fail
        go_ret
        exact ⟨rfl, hbr⟩

end Go.Proofs.Ythfknedokkccaaa

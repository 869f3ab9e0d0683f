/- Objects as bytes: lists of exports and imports, by the program. -/
import Derived.Test.YtnhebknckgffoaaObjPut
namespace Go.Proofs.Ytnhebknckgffoaa
open Go.RowKit
set_option linter.unusedVariables false
set_option linter.unusedSimpArgs false
set_option maxRecDepth 100000

set_option maxHeartbeats 4000000 in
theorem putExportsM (a : Option Addr) (n c : Nat) (l : List Int) (a2 : Option Addr) (c2 : Nat) (ds : List D3) (w : World) (h : BRow w a n l) (hn : n ≤ 100000) (h2 : DRow w a2 ds.length ds) (h8 : ds.length ≤ 8) (hd : ∀ d ∈ ds, ∃ l p q, d = (⟨.b l, .n p, .n q⟩ : D3) ∧ l.length ≤ 1048576) :
    Calls Try.prog 15 #[.slice a n c, .slice a2 ds.length c2, .func (.func 16) #[] #[]] w fun e w' => ∃ a' c', e = .returned (.slice a' (n + (putL ds.length).length + (listB exB ds).length) c') ∧ Made w w' a' (n + (putL ds.length).length + (listB exB ds).length) c' (l ++ putL ds.length ++ listB exB ds) := by
  have t1 := putL_len (ds.length : Int)
  have H1 := implPutM a n c l (ds.length : Int) w h (by omega)
  have HB : Hid (∀ k, (listB exB (ds.take k)).length ≤ 100 * 8) := fun k => Nat.le_trans (listB_len exB_len _) (by rw [List.length_take]; omega)
  have H2 : Hid (DRow w a2 ds.length ds) := h2
  have HD : Hid (∀ d ∈ ds, ∃ l p q, d = (⟨.b l, .n p, .n q⟩ : D3) ∧ l.length ≤ 1048576) := hd
  clear h hd
  generalize hP : putL (ds.length : Int) = P at *
  go_enter Try.func15, Try.ntmps15
  go_wp2_with fail
  refine H1.mono ?_
  rintro e w1 ⟨a1, c1, rfl, m1⟩
  have o1 := m1.own
  have b1 := m1.below
  clear m1 H1
  generalize hn1 : n + P.length = n1 at *
  rcases Nat.eq_zero_or_pos ds.length with h0 | hpos
  · have e0 : ds = [] := List.eq_nil_of_length_eq_zero h0
    subst e0
    clear h2
    go_wp2_with fail
    refine wp_loop_rounds 1 ?_
    rw [rounds_succ]
    go_wp2_with fail
    go_ret
    obtain ⟨a', c', e', hm⟩ := o1.made b1
    simp only [Value.slice.injEq, true_and] at e'
    obtain ⟨rfl, rfl⟩ := e'
    simp only [listB, List.length_nil, Nat.add_zero, List.append_nil]
    rw [hn1]
    exact ⟨_, _, rfl, hm⟩
  · obtain ⟨b, off, rfl⟩ := h2.addr hpos
    clear h2
    go_wp2_with fail
    go_loopw [0, 8, 15] (fun s _ i wr => ∃ j : Nat, j ≤ ds.length ∧ i = .int .i64 j ∧ Hid (∃ a c, s = .slice a (n1 + (listB exB (ds.take j)).length) c ∧ Own wr w.heap.size (.slice a (n1 + (listB exB (ds.take j)).length) c) (n1 + (listB exB (ds.take j)).length) (l ++ P ++ listB exB (ds.take j))) ∧ Below w.heap.size w wr) (fun _ _ i _ => ds.length - (intOf i).toNat)
    case atStart => exact ⟨0, Nat.zero_le _, rfl, ⟨_, _, rfl, by simpa [listB] using o1⟩, b1⟩
    case round =>
      obtain ⟨j, hj, rfl, hs, hbr⟩ := hrel
      obtain ⟨av, cv, rfl, ho⟩ := hs.out
      clear hs o1 b1
      by_cases hlt : j < ds.length
      · obtain ⟨⟨rx, ry, rz⟩, d, hdk, hR, q0, q1, q2⟩ := DRow.el (DRow.below (show DRow w (some ⟨b, off, none⟩) ds.length ds from H2.out) hbr) hlt
        obtain ⟨ll, p, q, rfl, hll⟩ := HD.out d (List.mem_of_getElem? hdk)
        obtain ⟨⟨ax, cx, rfl, hbx, _⟩, rfl, rfl⟩ := hR
        have HN : Hid (listB exB (ds.take (j + 1)) = listB exB (ds.take j) ++ exB ⟨.b ll, .n p, .n q⟩) := listB_next hdk
        have hbj := HB.out j
        clear hdk
        generalize hL : listB exB (ds.take j) = L at *
        have HO : Hid (Own wr w.heap.size (.slice av (n1 + L.length) cv) (n1 + L.length) (l ++ P ++ L)) := ho
        clear ho
        go_upto_region 5 with fail
        have x0 := B3.new wr 43 (.slice ax ll.length cx) (.int .i64 p) (.int .i64 q)
        have y0 : Below wr.heap.size wr (wr.alloc (.cells #[.slice ax ll.length cx, .int .i64 p, .int .i64 q] 43 (0, 0))) := (Below.refl _ _).alloc (Nat.le_refl _) _
        generalize wr.alloc (.cells #[.slice ax ll.length cx, .int .i64 p, .int .i64 q] 43 (0, 0)) = w5 at *
        have HC := putExportM av (n1 + L.length) cv (l ++ P ++ L) ax cx ll p q w5 ((Own.row HO.out).below y0) (by omega) (hbx.below y0) hll
        have hb5 : Below w.heap.size w w5 := hbr.trans (y0.mono hbr.size)
        obtain ⟨k0, k1, k2, _, _, _⟩ := x0.facts
        clear q0 q1 q2 x0 y0 hbr HO
        go_wp2_with fail
        refine HC.mono ?_
        rintro e w6 ⟨a6, c6, rfl, m6⟩
        have hb6 : Below w.heap.size w w6 := hb5.trans (m6.below.mono hb5.size)
        have HO6 : Hid (∃ a c, Value.slice a6 (n1 + L.length + (exB ⟨.b ll, .n p, .n q⟩).length) c6 = .slice a (n1 + (listB exB (ds.take (j + 1))).length) c ∧ Own w6 w.heap.size (.slice a (n1 + (listB exB (ds.take (j + 1))).length) c) (n1 + (listB exB (ds.take (j + 1))).length) (l ++ P ++ listB exB (ds.take (j + 1)))) := by
          have e1 : n1 + (listB exB (ds.take (j + 1))).length = n1 + L.length + (exB ⟨.b ll, .n p, .n q⟩).length := by rw [HN.out, List.length_append]; omega
          have e2 : l ++ P ++ listB exB (ds.take (j + 1)) = l ++ P ++ L ++ exB ⟨.b ll, .n p, .n q⟩ := by rw [HN.out]; simp only [List.append_assoc]
          show ∃ a c, _
          rw [e1, e2]
          exact ⟨_, _, rfl, m6.own.mono hb5.size⟩
        clear m6 HC k0 k1 k2 hb5
        generalize n1 + L.length + (exB ⟨.b ll, .n p, .n q⟩).length = n6 at *
        go_wp2_with fail
        go_roundw
        case rel => exact ⟨j + 1, by omega, by go_num, HO6, hb6⟩
        case measure => simp [intOf]; omega
      · have : j = ds.length := by omega
        subst this
        have eT : ds.take ds.length = ds := List.take_length
        rw [eT] at ho ⊢
        go_wp2_with fail
        go_ret
        obtain ⟨a', c', e', hm⟩ := ho.made hbr
        simp only [Value.slice.injEq, true_and] at e'
        obtain ⟨rfl, rfl⟩ := e'
        rw [hn1]
        exact ⟨_, _, rfl, hm⟩

set_option maxHeartbeats 4000000 in
theorem putImportsM (a : Option Addr) (n c : Nat) (l : List Int) (a2 : Option Addr) (c2 : Nat) (ds : List D3) (w : World) (h : BRow w a n l) (hn : n ≤ 100000) (h2 : DRow w a2 ds.length ds) (h8 : ds.length ≤ 8) (hd : ∀ d ∈ ds, ∃ l l2 p, d = (⟨.b l, .b l2, .n p⟩ : D3) ∧ l.length ≤ 1048576 ∧ l2.length ≤ 1048576) :
    Calls Try.prog 17 #[.slice a n c, .slice a2 ds.length c2, .func (.func 18) #[] #[]] w fun e w' => ∃ a' c', e = .returned (.slice a' (n + (putL ds.length).length + (listB imB ds).length) c') ∧ Made w w' a' (n + (putL ds.length).length + (listB imB ds).length) c' (l ++ putL ds.length ++ listB imB ds) := by
  have t1 := putL_len (ds.length : Int)
  have H1 := implPutM a n c l (ds.length : Int) w h (by omega)
  have HB : Hid (∀ k, (listB imB (ds.take k)).length ≤ 100 * 8) := fun k => Nat.le_trans (listB_len imB_len _) (by rw [List.length_take]; omega)
  have H2 : Hid (DRow w a2 ds.length ds) := h2
  have HD : Hid (∀ d ∈ ds, ∃ l l2 p, d = (⟨.b l, .b l2, .n p⟩ : D3) ∧ l.length ≤ 1048576 ∧ l2.length ≤ 1048576) := hd
  clear h hd
  generalize hP : putL (ds.length : Int) = P at *
  go_enter Try.func17, Try.ntmps17
  go_wp2_with fail
  refine H1.mono ?_
  rintro e w1 ⟨a1, c1, rfl, m1⟩
  have o1 := m1.own
  have b1 := m1.below
  clear m1 H1
  generalize hn1 : n + P.length = n1 at *
  rcases Nat.eq_zero_or_pos ds.length with h0 | hpos
  · have e0 : ds = [] := List.eq_nil_of_length_eq_zero h0
    subst e0
    clear h2
    go_wp2_with fail
    refine wp_loop_rounds 1 ?_
    rw [rounds_succ]
    go_wp2_with fail
    go_ret
    obtain ⟨a', c', e', hm⟩ := o1.made b1
    simp only [Value.slice.injEq, true_and] at e'
    obtain ⟨rfl, rfl⟩ := e'
    simp only [listB, List.length_nil, Nat.add_zero, List.append_nil]
    rw [hn1]
    exact ⟨_, _, rfl, hm⟩
  · obtain ⟨b, off, rfl⟩ := h2.addr hpos
    clear h2
    go_wp2_with fail
    go_loopw [0, 8, 15] (fun s _ i wr => ∃ j : Nat, j ≤ ds.length ∧ i = .int .i64 j ∧ Hid (∃ a c, s = .slice a (n1 + (listB imB (ds.take j)).length) c ∧ Own wr w.heap.size (.slice a (n1 + (listB imB (ds.take j)).length) c) (n1 + (listB imB (ds.take j)).length) (l ++ P ++ listB imB (ds.take j))) ∧ Below w.heap.size w wr) (fun _ _ i _ => ds.length - (intOf i).toNat)
    case atStart => exact ⟨0, Nat.zero_le _, rfl, ⟨_, _, rfl, by simpa [listB] using o1⟩, b1⟩
    case round =>
      obtain ⟨j, hj, rfl, hs, hbr⟩ := hrel
      obtain ⟨av, cv, rfl, ho⟩ := hs.out
      clear hs o1 b1
      by_cases hlt : j < ds.length
      · obtain ⟨⟨rx, ry, rz⟩, d, hdk, hR, q0, q1, q2⟩ := DRow.el (DRow.below (show DRow w (some ⟨b, off, none⟩) ds.length ds from H2.out) hbr) hlt
        obtain ⟨ll, ll2, p, rfl, hll, hll2⟩ := HD.out d (List.mem_of_getElem? hdk)
        obtain ⟨⟨ax, cx, rfl, hbx, _⟩, ⟨ay, cy, rfl, hby, _⟩, rfl⟩ := hR
        have HN : Hid (listB imB (ds.take (j + 1)) = listB imB (ds.take j) ++ imB ⟨.b ll, .b ll2, .n p⟩) := listB_next hdk
        have hbj := HB.out j
        clear hdk
        generalize hL : listB imB (ds.take j) = L at *
        have HO : Hid (Own wr w.heap.size (.slice av (n1 + L.length) cv) (n1 + L.length) (l ++ P ++ L)) := ho
        clear ho
        go_upto_region 5 with fail
        have x0 := B3.new wr 47 (.slice ax ll.length cx) (.slice ay ll2.length cy) (.int .i64 p)
        have y0 : Below wr.heap.size wr (wr.alloc (.cells #[.slice ax ll.length cx, .slice ay ll2.length cy, .int .i64 p] 47 (0, 0))) := (Below.refl _ _).alloc (Nat.le_refl _) _
        generalize wr.alloc (.cells #[.slice ax ll.length cx, .slice ay ll2.length cy, .int .i64 p] 47 (0, 0)) = w5 at *
        have HC := putImportM av (n1 + L.length) cv (l ++ P ++ L) ax cx ll ay cy ll2 p w5 ((Own.row HO.out).below y0) (by omega) (hbx.below y0) hll (hby.below y0) hll2
        have hb5 : Below w.heap.size w w5 := hbr.trans (y0.mono hbr.size)
        obtain ⟨k0, k1, k2, _, _, _⟩ := x0.facts
        clear q0 q1 q2 x0 y0 hbr HO
        go_wp2_with fail
        refine HC.mono ?_
        rintro e w6 ⟨a6, c6, rfl, m6⟩
        have hb6 : Below w.heap.size w w6 := hb5.trans (m6.below.mono hb5.size)
        have HO6 : Hid (∃ a c, Value.slice a6 (n1 + L.length + (imB ⟨.b ll, .b ll2, .n p⟩).length) c6 = .slice a (n1 + (listB imB (ds.take (j + 1))).length) c ∧ Own w6 w.heap.size (.slice a (n1 + (listB imB (ds.take (j + 1))).length) c) (n1 + (listB imB (ds.take (j + 1))).length) (l ++ P ++ listB imB (ds.take (j + 1)))) := by
          have e1 : n1 + (listB imB (ds.take (j + 1))).length = n1 + L.length + (imB ⟨.b ll, .b ll2, .n p⟩).length := by rw [HN.out, List.length_append]; omega
          have e2 : l ++ P ++ listB imB (ds.take (j + 1)) = l ++ P ++ L ++ imB ⟨.b ll, .b ll2, .n p⟩ := by rw [HN.out]; simp only [List.append_assoc]
          show ∃ a c, _
          rw [e1, e2]
          exact ⟨_, _, rfl, m6.own.mono hb5.size⟩
        clear m6 HC k0 k1 k2 hb5
        generalize n1 + L.length + (imB ⟨.b ll, .b ll2, .n p⟩).length = n6 at *
        go_wp2_with fail
        go_roundw
        case rel => exact ⟨j + 1, by omega, by go_num, HO6, hb6⟩
        case measure => simp [intOf]; omega
      · have : j = ds.length := by omega
        subst this
        have eT : ds.take ds.length = ds := List.take_length
        rw [eT] at ho ⊢
        go_wp2_with fail
        go_ret
        obtain ⟨a', c', e', hm⟩ := ho.made hbr
        simp only [Value.slice.injEq, true_and] at e'
        obtain ⟨rfl, rfl⟩ := e'
        rw [hn1]
        exact ⟨_, _, rfl, hm⟩

end Go.Proofs.Ytnhebknckgffoaa

/- Objects as bytes: the specification. -/
import Derived.Test.YtnhebknckgffoaaObjPut
import Derived.Test.YtnhebknckgffoaaPackA
import Derived.Lib.SlBytesConst
namespace Go.Proofs.Ytnhebknckgffoaa
open Go.RowKit
set_option linter.unusedVariables false
set_option linter.unusedSimpArgs false
set_option maxRecDepth 100000

def objB1 (b : Ob) : List Int := [66, 72] ++ textL b.name ++ putL b.ex.length
def objB2 (b : Ob) : List Int := objB1 b ++ listB exB b.ex ++ putL b.im.length
def objB (b : Ob) : List Int := objB2 b ++ listB imB b.im ++ putL b.data ++ putL b.code.length ++ b.code

theorem objB1_len (b : Ob) : (objB1 b).length ≤ 60 := by
  have h1 := textL_le b.name
  have h2 := putL_len (b.ex.length : Int)
  unfold objB1
  simp only [List.length_append, List.length_cons, List.length_nil]; omega
theorem objB2_len (b : Ob) (h : b.ex.length ≤ 8) : (objB2 b).length ≤ 900 := by
  have h1 := objB1_len b
  have h2 := putL_len (b.im.length : Int)
  have h3 := listB_len exB_len b.ex
  unfold objB2
  simp only [List.length_append]; omega

theorem bh_row (w : World) : BRow (w.alloc (.cells #[.int .u8 66, .int .u8 72] 5 (2, 3))) (some ⟨w.heap.size, 0, none⟩) 2 [66, 72] := by
  refine ⟨rfl, by simp, fun _ => ⟨w.heap.size, 0, rfl, fun i hi => ?_⟩⟩
  rw [Nat.zero_add, World.cell?_alloc_mark]
  have : i = 0 ∨ i = 1 := by omega
  rcases this with rfl | rfl <;> rfl

/-- What the loops keep: the block that holds the object, and the rows that read as its lists. -/
structure KB (w0 wr : World) (g : Nat) (o : O5) : Prop where
  b5 : B5 wr g 26 o
  below : Below w0.heap.size w0 wr

set_option maxHeartbeats 8000000 in
theorem l5bytesM (o : O5) (b : Ob) (w : World) (h : ORead w o b) (hs : osz b ≤ 1048576) (h8 : b.ex.length ≤ 8) (g8 : b.im.length ≤ 8) :
    Calls Try.prog 30 #[.agg #[o.x, o.e, o.i, o.d, o.c]] w fun e w' => ∃ a' c', e = .returned (.slice a' (objB b).length c') ∧ Made w w' a' (objB b).length c' (objB b) := by
  have EX : Hid (∀ d ∈ b.ex, ∃ l p q, d = (⟨.b l, .n p, .n q⟩ : D3) ∧ l.length ≤ 1048576) := osz_ex hs h.exs
  have IM : Hid (∀ d ∈ b.im, ∃ l l2 p, d = (⟨.b l, .b l2, .n p⟩ : D3) ∧ l.length ≤ 1048576 ∧ l2.length ≤ 1048576) := osz_im hs h.ims
  have L1 := objB1_len b
  have L2 := objB2_len b h8
  obtain ⟨x, xe, xi, xd, xc⟩ := o
  obtain ⟨nm, ex, im, dt, cd, _, _⟩ := h
  simp only at nm ex im dt cd
  obtain ⟨a1, c1, rfl, r1, _, _, n1⟩ := nm
  obtain ⟨a2, c2, rfl, r2, _⟩ := ex
  obtain ⟨a3, c3, rfl, r3, _⟩ := im
  obtain ⟨a4, c4, rfl, r4, _, _, n4⟩ := cd
  subst dt
  unfold osz at hs
  have x0 := B5.new w 26 ⟨.slice a1 b.name.length c1, .slice a2 b.ex.length c2, .slice a3 b.im.length c3, .int .i64 b.data, .slice a4 b.code.length c4⟩
  have y0 : Below w.heap.size w (w.alloc (.cells #[.slice a1 b.name.length c1, .slice a2 b.ex.length c2, .slice a3 b.im.length c3, .int .i64 b.data, .slice a4 b.code.length c4] 26 (0, 0))) := (Below.refl _ _).alloc (Nat.le_refl _) _
  simp only at x0
  have kc := fun (w : World) (C : Array Value) (n c : Nat) => Lib.run_convert_bytes_const (P := Try.prog) w 22 5 C n c Try.underlying22 Try.underlying5
  go_enter Try.func30, Try.ntmps30
  go_upto_region 1 with fail
  generalize w.alloc (.cells #[.slice a1 b.name.length c1, .slice a2 b.ex.length c2, .slice a3 b.im.length c3, .int .i64 b.data, .slice a4 b.code.length c4] 26 (0, 0)) = w0 at *
  have x1 := x0.old (ob := .cells #[.int .u8 66, .int .u8 72] 5 (2, 3))
  have y1 := y0.alloc y0.size (.cells #[.int .u8 66, .int .u8 72] 5 (2, 3))
  have H1 := specTextM (some ⟨w0.heap.size, 0, none⟩) 2 2 [66, 72] a1 b.name.length c1 b.name _ (bh_row w0) (by simp) (r1.below y1) n1 (by omega) (by omega)
  obtain ⟨k0, k1, k2, k3, k4⟩ := x1.facts
  go_wp2_with fail
  refine H1.mono ?_
  rintro e w1 ⟨av, cv, rfl, m1⟩
  have b1 : Below w.heap.size w w1 := y1.trans (m1.below.mono y1.size)
  have x2 := x1.below m1.below x1.lt
  have o1 := m1.own.mono y1.size
  have q1 := m1.row
  have j1 := m1.nil
  clear H1 m1 k0 k1 k2 k3 k4 x0 x1 y0 y1 kc n1 r1
  generalize hT : textL b.name = T at *
  have H2 := specPutM av (2 + T.length) cv ([66, 72] ++ T) (b.ex.length : Int) w1 q1 j1 (by have := textL_le b.name; rw [hT] at this; omega)
  obtain ⟨k0, k1, k2, k3, k4⟩ := x2.facts
  go_wp2_with fail
  refine H2.mono ?_
  rintro e w2 ⟨a5, c5, rfl, m2⟩
  have b2 : Below w.heap.size w w2 := b1.trans (m2.below.mono b1.size)
  have x3 := x2.below m2.below x2.lt
  have e1 : 2 + T.length + (putL b.ex.length).length = (objB1 b).length := by unfold objB1; rw [hT]; simp only [List.length_append, List.length_cons, List.length_nil]
  have e2 : [66, 72] ++ T ++ putL b.ex.length = objB1 b := by unfold objB1; rw [hT]
  have o2 := m2.own.mono b1.size
  rw [e1, e2] at o2
  rw [e1] at ⊢
  have HB : Hid (∀ k, (listB exB (b.ex.take k)).length ≤ 100 * 8) := fun k => Nat.le_trans (listB_len exB_len _) (by rw [List.length_take]; omega)
  have R2 : Hid (DRow w a2 b.ex.length b.ex) := r2
  have R3 : Hid (DRow w a3 b.im.length b.im) := r3
  have R4 : Hid (BRow w a4 b.code.length b.code) := r4
  have X : Hid (B5 w2 w.heap.size 26 ⟨.slice a1 b.name.length c1, .slice a2 b.ex.length c2, .slice a3 b.im.length c3, .int .i64 b.data, .slice a4 b.code.length c4⟩) := x3
  have hw2 : w.heap.size < w2.heap.size := x3.lt
  clear H2 m2 k0 k1 k2 k3 k4 x2 x3 b1 o1 q1 j1 r2 r3 r4 e1 e2
  generalize hP1 : objB1 b = P1 at *
  go_wp2_with fail
  go_loopw [3, 4] (fun s i wr => ∃ j : Nat, j ≤ b.ex.length ∧ i = .int .i64 j ∧ Hid (∃ a c, s = .slice a (P1.length + (listB exB (b.ex.take j)).length) c ∧ Own wr w.heap.size (.slice a (P1.length + (listB exB (b.ex.take j)).length) c) (P1.length + (listB exB (b.ex.take j)).length) (P1 ++ listB exB (b.ex.take j))) ∧ Below w2.heap.size w2 wr) (fun _ i _ => b.ex.length - (intOf i).toNat)
  case atStart => exact ⟨0, Nat.zero_le _, rfl, ⟨_, _, rfl, by simpa [listB] using o2⟩, Below.refl _ _⟩
  case round =>
    obtain ⟨j, hj, rfl, hst, hbr⟩ := hrel
    obtain ⟨av, cv, rfl, ho⟩ := hst.out
    have xr := B5.below X.out hbr hw2
    obtain ⟨k0, k1, k2, k3, k4⟩ := xr.facts
    simp only at k0 k1 k2 k3 k4
    have hbw : Below w.heap.size w wr := b2.trans (hbr.mono b2.size)
    clear hst o2
    by_cases hlt : j < b.ex.length
    · obtain ⟨bb, off, rfl⟩ := DRow.addr R2.out (by omega)
      obtain ⟨⟨rx, ry, rz⟩, d, hdk, hR, q0, q1, q2⟩ := DRow.el (DRow.below (show DRow w (some ⟨bb, off, none⟩) b.ex.length b.ex from R2.out) hbw) hlt
      obtain ⟨ll, p, q, rfl, hll⟩ := EX.out d (List.mem_of_getElem? hdk)
      obtain ⟨⟨ax, cx, rfl, hbx, _, _, nx⟩, rfl, rfl⟩ := hR
      have HN : Hid (listB exB (b.ex.take (j + 1)) = listB exB (b.ex.take j) ++ exB ⟨.b ll, .n p, .n q⟩) := listB_next hdk
      have HF : Hid (exB ⟨.b ll, .n p, .n q⟩ = textL ll ++ putL p ++ putL q) := rfl
      have hbj := HB.out j
      have tt1 := textL_le ll
      have tt2 := putL_len p
      have tt3 := putL_len q
      have hlt' : (j : Int) < (b.ex.length : Int) := by omega
      clear hdk
      generalize hL : listB exB (b.ex.take j) = L at *
      have j0 : av = none → cv = 0 := by
        obtain ⟨a', c', e', hm⟩ := ho.made hbw
        simp only [Value.slice.injEq, true_and] at e'
        obtain ⟨rfl, rfl⟩ := e'
        exact hm.nil
      have HS : ∀ {wl : World}, Below wr.heap.size wr wl → (wl.cell? ⟨w.heap.size, 1, none⟩ = some (.slice (some ⟨bb, off, none⟩) b.ex.length c2) ∧ wl.cell? ⟨bb, off + j * 3, none⟩ = some (.slice ax ll.length cx) ∧ wl.cell? ⟨bb, off + j * 3 + 1, none⟩ = some (.int .i64 p) ∧ wl.cell? ⟨bb, off + j * 3 + 2, none⟩ = some (.int .i64 q)) := fun hb =>
        ⟨(hb.cell xr.lt).trans k1, (hb.cell (World.block_lt_of_cell? wr _ q0)).trans q0, (hb.cell (World.block_lt_of_cell? wr _ q1)).trans q1, (hb.cell (World.block_lt_of_cell? wr _ q2)).trans q2⟩
      have HS0 := HS (wl := wr.drew) (Below.refl _ _).drew
      have z0 : BRow wr.drew av (P1.length + L.length) (P1 ++ L) := ho.row
      have zx : BRow wr.drew ax ll.length ll := hbx
      go_wp2_with fail
      refine wp_region_held_drew (S := fun wl => (wl.cell? ⟨w.heap.size, 1, none⟩ = some (.slice (some ⟨bb, off, none⟩) b.ex.length c2) ∧ wl.cell? ⟨bb, off + j * 3, none⟩ = some (.slice ax ll.length cx) ∧ wl.cell? ⟨bb, off + j * 3 + 1, none⟩ = some (.int .i64 p) ∧ wl.cell? ⟨bb, off + j * 3 + 2, none⟩ = some (.int .i64 q))) (by kernel_rfl) HS0 (fun hHeld => ?_)
      refine wpAnyH_take (i := 0) (oi := ?o501) (v := ?v501) ?i501 (by kernel_rfl) (by kernel_rfl) (by kernel_rfl) ?q501 ?y501 (hHeld) ?r501
      case i501 => exact rfl
      case q501 => exact (fun _ _ _ h => h)
      case y501 =>
        refine Or.inl ⟨by rfl, ?_⟩
        intro w hSw
        (try dsimp only at hSw)
        go_simp
        first | done | rfl
      try simp only [Act.put, List.getElem_toArray, List.getElem_cons_zero, List.getElem_cons_succ, List.setIfInBounds_toArray, List.set_cons_zero, List.set_cons_succ]
      refine wpAnyH_take (i := 1) (oi := ?o502) (v := ?v502) ?i502 (by kernel_rfl) (by kernel_rfl) (by kernel_rfl) ?q502 ?y502 (hHeld) ?r502
      case i502 => exact rfl
      case q502 => exact (fun _ _ _ h => h)
      case y502 =>
        refine Or.inl ⟨by rfl, ?_⟩
        intro w hSw
        (try dsimp only at hSw)
        go_simp
        first | done | rfl
      try simp only [Act.put, List.getElem_toArray, List.getElem_cons_zero, List.getElem_cons_succ, List.setIfInBounds_toArray, List.set_cons_zero, List.set_cons_succ]
      refine wpAnyH_take (i := 3) (oi := ?o503) (v := ?v503) ?i503 (by kernel_rfl) (by kernel_rfl) (by kernel_rfl) ?q503 ?y503 (hHeld) ?r503
      case i503 => exact rfl
      case q503 => exact (fun _ _ _ h => h)
      case y503 =>
        refine Or.inl ⟨by rfl, ?_⟩
        intro w hSw
        (try dsimp only at hSw)
        go_simp
        first | done | rfl
      try simp only [Act.put, List.getElem_toArray, List.getElem_cons_zero, List.getElem_cons_succ, List.setIfInBounds_toArray, List.set_cons_zero, List.set_cons_succ]
      refine wpAnyH_take (i := 8) (oi := ?o504) (v := ?v504) ?i504 (by kernel_rfl) (by kernel_rfl) (by kernel_rfl) ?q504 ?y504 (hHeld) ?r504
      case i504 => exact rfl
      case q504 => exact (fun _ _ _ h => h)
      case y504 =>
        refine Or.inl ⟨by rfl, ?_⟩
        intro w hSw
        (try dsimp only at hSw)
        go_simp
        first | done | rfl
      try simp only [Act.put, List.getElem_toArray, List.getElem_cons_zero, List.getElem_cons_succ, List.setIfInBounds_toArray, List.set_cons_zero, List.set_cons_succ]
      refine wpAnyH_take (i := 10) (oi := ?o505) (v := ?v505) ?i505 (by kernel_rfl) (by kernel_rfl) (by kernel_rfl) ?q505 ?y505 (hHeld) ?r505
      case i505 => exact rfl
      case q505 => exact (fun _ _ _ h => h)
      case y505 =>
        refine Or.inl ⟨by rfl, ?_⟩
        intro w hSw
        (try dsimp only at hSw)
        go_simp
        first | done | rfl
      try simp only [Act.put, List.getElem_toArray, List.getElem_cons_zero, List.getElem_cons_succ, List.setIfInBounds_toArray, List.set_cons_zero, List.set_cons_succ]
      refine wpAnyH_take (i := 15) (oi := ?o506) (v := ?v506) ?i506 (by kernel_rfl) (by kernel_rfl) (by kernel_rfl) ?q506 ?y506 (hHeld) ?r506
      case i506 => exact rfl
      case q506 => exact (fun _ _ _ h => h)
      case y506 =>
        refine Or.inl ⟨by rfl, ?_⟩
        intro w hSw
        (try dsimp only at hSw)
        go_simp
        first | done | rfl
      try simp only [Act.put, List.getElem_toArray, List.getElem_cons_zero, List.getElem_cons_succ, List.setIfInBounds_toArray, List.set_cons_zero, List.set_cons_succ]
      refine wpAnyH_take (i := 17) (oi := ?o507) (v := ?v507) ?i507 (by kernel_rfl) (by kernel_rfl) (by kernel_rfl) ?q507 ?y507 (hHeld) ?r507
      case i507 => exact rfl
      case q507 => exact (fun _ _ _ h => h)
      case y507 =>
        refine Or.inl ⟨by rfl, ?_⟩
        intro w hSw
        (try dsimp only at hSw)
        go_simp
        first | done | rfl
      try simp only [Act.put, List.getElem_toArray, List.getElem_cons_zero, List.getElem_cons_succ, List.setIfInBounds_toArray, List.set_cons_zero, List.set_cons_succ]
      refine wpAnyH_take (i := 2) (oi := ?o508) (v := ?v508) ?i508 (by kernel_rfl) (by kernel_rfl) (by kernel_rfl) ?q508 ?y508 (hHeld) ?r508
      case i508 => exact rfl
      case q508 => exact (fun _ _ _ h => h)
      case y508 =>
        refine Or.inl ⟨by rfl, ?_⟩
        intro w hSw
        (try dsimp only at hSw)
        go_simp
        first | done | rfl
      try simp only [Act.put, List.getElem_toArray, List.getElem_cons_zero, List.getElem_cons_succ, List.setIfInBounds_toArray, List.set_cons_zero, List.set_cons_succ]
      refine wpAnyH_take (i := 9) (oi := ?o509) (v := ?v509) ?i509 (by kernel_rfl) (by kernel_rfl) (by kernel_rfl) ?q509 ?y509 (hHeld) ?r509
      case i509 => exact rfl
      case q509 => exact (fun _ _ _ h => h)
      case y509 =>
        refine Or.inl ⟨by rfl, ?_⟩
        intro w hSw
        (try dsimp only at hSw)
        go_simp
        first | done | rfl
      try simp only [Act.put, List.getElem_toArray, List.getElem_cons_zero, List.getElem_cons_succ, List.setIfInBounds_toArray, List.set_cons_zero, List.set_cons_succ]
      refine wpAnyH_take (i := 16) (oi := ?o510) (v := ?v510) ?i510 (by kernel_rfl) (by kernel_rfl) (by kernel_rfl) ?q510 ?y510 (hHeld) ?r510
      case i510 => exact rfl
      case q510 => exact (fun _ _ _ h => h)
      case y510 =>
        refine Or.inl ⟨by rfl, ?_⟩
        intro w hSw
        (try dsimp only at hSw)
        go_simp
        first | done | rfl
      try simp only [Act.put, List.getElem_toArray, List.getElem_cons_zero, List.getElem_cons_succ, List.setIfInBounds_toArray, List.set_cons_zero, List.set_cons_succ]
      refine wpAnyH_take (i := 4) (oi := ?o511) (v := ?v511) ?i511 (by kernel_rfl) (by kernel_rfl) (by kernel_rfl) ?q511 ?y511 (hHeld) ?r511
      case i511 => exact rfl
      case q511 => exact (fun _ _ _ h => h)
      case y511 =>
        refine Or.inl ⟨by rfl, ?_⟩
        intro w hSw
        (try dsimp only at hSw)
        go_simp
        first | done | rfl
      try simp only [Act.put, List.getElem_toArray, List.getElem_cons_zero, List.getElem_cons_succ, List.setIfInBounds_toArray, List.set_cons_zero, List.set_cons_succ]
      refine wpAnyH_take (i := 11) (oi := ?o512) (v := ?v512) ?i512 (by kernel_rfl) (by kernel_rfl) (by kernel_rfl) ?q512 ?y512 (hHeld) ?r512
      case i512 => exact rfl
      case q512 => exact (fun _ _ _ h => h)
      case y512 =>
        refine Or.inl ⟨by rfl, ?_⟩
        intro w hSw
        (try dsimp only at hSw)
        go_simp
        first | done | rfl
      try simp only [Act.put, List.getElem_toArray, List.getElem_cons_zero, List.getElem_cons_succ, List.setIfInBounds_toArray, List.set_cons_zero, List.set_cons_succ]
      refine wpAnyH_take (i := 18) (oi := ?o513) (v := ?v513) ?i513 (by kernel_rfl) (by kernel_rfl) (by kernel_rfl) ?q513 ?y513 (hHeld) ?r513
      case i513 => exact rfl
      case q513 => exact (fun _ _ _ h => h)
      case y513 =>
        refine Or.inl ⟨by rfl, ?_⟩
        intro w hSw
        (try dsimp only at hSw)
        go_simp
        first | done | rfl
      try simp only [Act.put, List.getElem_toArray, List.getElem_cons_zero, List.getElem_cons_succ, List.setIfInBounds_toArray, List.set_cons_zero, List.set_cons_succ]
      refine wpAnyH_take (i := 5) (oi := ?o514) (v := ?v514) ?i514 (by kernel_rfl) (by kernel_rfl) (by kernel_rfl) ?q514 ?y514 (hHeld) ?r514
      case i514 => exact rfl
      case q514 => exact (fun _ _ _ h => h)
      case y514 =>
        refine Or.inl ⟨by rfl, ?_⟩
        intro w hSw
        (try dsimp only at hSw)
        go_simp
        first | done | rfl
      try simp only [Act.put, List.getElem_toArray, List.getElem_cons_zero, List.getElem_cons_succ, List.setIfInBounds_toArray, List.set_cons_zero, List.set_cons_succ]
      refine wpAnyH_take (i := 12) (oi := ?o515) (v := ?v515) ?i515 (by kernel_rfl) (by kernel_rfl) (by kernel_rfl) ?q515 ?y515 (hHeld) ?r515
      case i515 => exact rfl
      case q515 => exact (fun _ _ _ h => h)
      case y515 =>
        refine Or.inl ⟨by rfl, ?_⟩
        intro w hSw
        (try dsimp only at hSw)
        go_simp
        first | done | rfl
      try simp only [Act.put, List.getElem_toArray, List.getElem_cons_zero, List.getElem_cons_succ, List.setIfInBounds_toArray, List.set_cons_zero, List.set_cons_succ]
      refine wpAnyH_take (i := 19) (oi := ?o516) (v := ?v516) ?i516 (by kernel_rfl) (by kernel_rfl) (by kernel_rfl) ?q516 ?y516 (hHeld) ?r516
      case i516 => exact rfl
      case q516 => exact (fun _ _ _ h => h)
      case y516 =>
        refine Or.inl ⟨by rfl, ?_⟩
        intro w hSw
        (try dsimp only at hSw)
        go_simp
        first | done | rfl
      try simp only [Act.put, List.getElem_toArray, List.getElem_cons_zero, List.getElem_cons_succ, List.setIfInBounds_toArray, List.set_cons_zero, List.set_cons_succ]
      refine wpAnyH_take (i := 6) (oi := ?o517) (v := ?v517) ?i517 (by kernel_rfl) (by kernel_rfl) (by kernel_rfl) ?q517 ?y517 (hHeld) ?r517
      case i517 => exact rfl
      case q517 => exact (fun _ _ _ h => h)
      case y517 =>
        refine Or.inl ⟨by rfl, ?_⟩
        intro w hSw
        (try dsimp only at hSw)
        go_simp
        first | done | rfl
      try simp only [Act.put, List.getElem_toArray, List.getElem_cons_zero, List.getElem_cons_succ, List.setIfInBounds_toArray, List.set_cons_zero, List.set_cons_succ]
      refine wpAnyH_take (i := 13) (oi := ?o518) (v := ?v518) ?i518 (by kernel_rfl) (by kernel_rfl) (by kernel_rfl) ?q518 ?y518 (hHeld) ?r518
      case i518 => exact rfl
      case q518 => exact (fun _ _ _ h => h)
      case y518 =>
        refine Or.inl ⟨by rfl, ?_⟩
        intro w hSw
        (try dsimp only at hSw)
        go_simp
        first | done | rfl
      try simp only [Act.put, List.getElem_toArray, List.getElem_cons_zero, List.getElem_cons_succ, List.setIfInBounds_toArray, List.set_cons_zero, List.set_cons_succ]
      refine wpAnyH_take (i := 20) (oi := ?o519) (v := ?v519) ?i519 (by kernel_rfl) (by kernel_rfl) (by kernel_rfl) ?q519 ?y519 (hHeld) ?r519
      case i519 => exact rfl
      case q519 => exact (fun _ _ _ h => h)
      case y519 =>
        refine Or.inl ⟨by rfl, ?_⟩
        intro w hSw
        (try dsimp only at hSw)
        go_simp
        first | done | rfl
      try simp only [Act.put, List.getElem_toArray, List.getElem_cons_zero, List.getElem_cons_succ, List.setIfInBounds_toArray, List.set_cons_zero, List.set_cons_succ]
      refine wpAnyH_ready (rs := [7]) (by kernel_rfl) (by simp) ?_
      refine AllReadyH.cons (i := 7) (o := ?o520) ?i520 (fun K hK => ?_) AllReadyH.nil
      case i520 => exact rfl
      go_simp
      (with_reducible refine (specTextM av (P1.length + L.length) cv (P1 ++ L) ax ll.length cx ll wr.drew z0 j0 zx nx (by omega) (by omega)).mono ?_)
      rintro e wa ⟨aa, ca, rfl, ma⟩
      have ba : Below wr.heap.size wr wa := (Below.refl wr.heap.size wr).drew.trans ma.below
      have HSa := HS ba
      have za := ma.row
      have ja := ma.nil
      skip
      go_wp2_with fail
      refine hK.out _ _ (HSa) (fun hHeld => ?_)
      clear hK K
      try simp only [Act.put, List.getElem_toArray, List.getElem_cons_zero, List.getElem_cons_succ, List.setIfInBounds_toArray, List.set_cons_zero, List.set_cons_succ]
      refine wpAnyH_ready (rs := [14]) (by kernel_rfl) (by simp) ?_
      refine AllReadyH.cons (i := 14) (o := ?o521) ?i521 (fun K hK => ?_) AllReadyH.nil
      case i521 => exact rfl
      go_simp
      (with_reducible refine (specPutM aa (P1.length + L.length + (textL ll).length) ca (P1 ++ L ++ textL ll) p wa za ja (by omega)).mono ?_)
      rintro e wb ⟨ab, cb, rfl, mb⟩
      have bbl : Below wr.heap.size wr wb := ba.trans (mb.below.mono ba.size)
      have HSb := HS bbl
      have zb := mb.row
      have jb := mb.nil
      go_wp2_with fail
      refine hK.out _ _ (HSb) (fun hHeld => ?_)
      clear hK K
      try simp only [Act.put, List.getElem_toArray, List.getElem_cons_zero, List.getElem_cons_succ, List.setIfInBounds_toArray, List.set_cons_zero, List.set_cons_succ]
      refine wpAnyH_ready (rs := [21]) (by kernel_rfl) (by simp) ?_
      refine AllReadyH.cons (i := 21) (o := ?o522) ?i522 (fun K hK => ?_) AllReadyH.nil
      case i522 => exact rfl
      go_simp
      (with_reducible refine (specPutM ab (P1.length + L.length + (textL ll).length + (putL p).length) cb (P1 ++ L ++ textL ll ++ putL p) q wb zb jb (by omega)).mono ?_)
      rintro e wc ⟨ac, cc, rfl, mc⟩
      have bcl : Below wr.heap.size wr wc := bbl.trans (mc.below.mono bbl.size)
      have HSc := HS bcl
      go_wp2_with fail
      refine hK.out _ _ (HSc) (fun hHeld => ?_)
      clear hK K
      try simp only [Act.put, List.getElem_toArray, List.getElem_cons_zero, List.getElem_cons_succ, List.setIfInBounds_toArray, List.set_cons_zero, List.set_cons_succ]
      refine wpAnyH_take (i := 22) (oi := ?o523) (v := ?v523) ?i523 (by kernel_rfl) (by kernel_rfl) (by kernel_rfl) ?q523 ?y523 (hHeld) ?r523
      case i523 => exact rfl
      case q523 => exact (fun _ _ _ h => h)
      case y523 =>
        refine Or.inl ⟨by rfl, ?_⟩
        intro w hSw
        (try dsimp only at hSw)
        go_simp
        first | done | rfl
      try simp only [Act.put, List.getElem_toArray, List.getElem_cons_zero, List.getElem_cons_succ, List.setIfInBounds_toArray, List.set_cons_zero, List.set_cons_succ]
      refine wpAnyH_done (by kernel_rfl) ?_ _
      have hbc : Below w2.heap.size w2 wc := hbr.trans (bcl.mono hbr.size)
      have HO6 : Hid (∃ a c, Value.slice ac (P1.length + L.length + (textL ll).length + (putL p).length + (putL q).length) cc = .slice a (P1.length + (listB exB (b.ex.take (j + 1))).length) c ∧ Own wc w.heap.size (.slice a (P1.length + (listB exB (b.ex.take (j + 1))).length) c) (P1.length + (listB exB (b.ex.take (j + 1))).length) (P1 ++ listB exB (b.ex.take (j + 1)))) := by
        have e1 : P1.length + (listB exB (b.ex.take (j + 1))).length = P1.length + L.length + (textL ll).length + (putL p).length + (putL q).length := by rw [HN.out, HF.out]; simp only [List.length_append]; omega
        have e2 : P1 ++ listB exB (b.ex.take (j + 1)) = P1 ++ L ++ textL ll ++ putL p ++ putL q := by rw [HN.out, HF.out]; simp only [List.append_assoc]
        show ∃ a c, _
        rw [e1, e2]
        exact ⟨_, _, rfl, mc.own.mono (Nat.le_trans hbw.size bbl.size)⟩
      clear ma mb mc z0 za zb HS HS0 HSa HSb HSc q0 q1 q2 k0 k1 k2 k3 k4 xr ho
      generalize P1.length + L.length + (textL ll).length + (putL p).length + (putL q).length = n6 at *
      go_wp2_with fail
      go_roundw
      case rel => exact ⟨j + 1, by omega, by go_num, HO6, hbc⟩
      case measure => simp [intOf]; omega
    · have hjl : j = b.ex.length := by omega
      subst hjl
      have eT : b.ex.take b.ex.length = b.ex := List.take_length
      rw [eT] at ho ⊢
      have j0 : av = none → cv = 0 := by
        obtain ⟨a', c', e', hm⟩ := ho.made hbw
        simp only [Value.slice.injEq, true_and] at e'
        obtain ⟨rfl, rfl⟩ := e'
        exact hm.nil
      have hbe := HB.out b.ex.length
      rw [eT] at hbe
      have H3 := specPutM av (P1.length + (listB exB b.ex).length) cv (P1 ++ listB exB b.ex) (b.im.length : Int) wr ho.row j0 (by omega)
      go_wp2_with fail
      refine H3.mono ?_
      rintro e w3 ⟨a6, c6, rfl, m3⟩
      have b3 : Below w.heap.size w w3 := hbw.trans (m3.below.mono hbw.size)
      have x3 := xr.below m3.below xr.lt
      have e1 : P1.length + (listB exB b.ex).length + (putL b.im.length).length = (objB2 b).length := by unfold objB2; rw [hP1]; simp only [List.length_append]
      have e2 : P1 ++ listB exB b.ex ++ putL b.im.length = objB2 b := by unfold objB2; rw [hP1]
      have o4 := m3.own.mono hbw.size
      rw [e1, e2] at o4
      rw [e1] at ⊢
      have HB2 : Hid (∀ k, (listB imB (b.im.take k)).length ≤ 100 * 8) := fun k => Nat.le_trans (listB_len imB_len _) (by rw [List.length_take]; omega)
      have X3 : Hid (B5 w3 w.heap.size 26 ⟨.slice a1 b.name.length c1, .slice a2 b.ex.length c2, .slice a3 b.im.length c3, .int .i64 b.data, .slice a4 b.code.length c4⟩) := x3
      have hw3 : w.heap.size < w3.heap.size := x3.lt
      clear H3 m3 k0 k1 k2 k3 k4 x3 xr b2 hbr hbw ho j0 e1 e2 X hw2 HB R2 EX eT
      generalize hP2 : objB2 b = P2 at *
      go_wp2_with fail
      go_loopw [3, 5] (fun s i wr => ∃ j : Nat, j ≤ b.im.length ∧ i = .int .i64 j ∧ Hid (∃ a c, s = .slice a (P2.length + (listB imB (b.im.take j)).length) c ∧ Own wr w.heap.size (.slice a (P2.length + (listB imB (b.im.take j)).length) c) (P2.length + (listB imB (b.im.take j)).length) (P2 ++ listB imB (b.im.take j))) ∧ Below w3.heap.size w3 wr) (fun _ i _ => b.im.length - (intOf i).toNat)
      case atStart => exact ⟨0, Nat.zero_le _, rfl, ⟨_, _, rfl, by simpa [listB] using o4⟩, Below.refl _ _⟩
      case round =>
        obtain ⟨j, hj, rfl, hst, hbr⟩ := hrel
        obtain ⟨av, cv, rfl, ho⟩ := hst.out
        have xr := B5.below X3.out hbr hw3
        obtain ⟨k0, k1, k2, k3, k4⟩ := xr.facts
        simp only at k0 k1 k2 k3 k4
        have hbw : Below w.heap.size w wr := b3.trans (hbr.mono b3.size)
        clear hst o4
        by_cases hlt : j < b.im.length
        · obtain ⟨bb, off, rfl⟩ := DRow.addr R3.out (by omega)
          obtain ⟨⟨rx, ry, rz⟩, d, hdk, hR, q0, q1, q2⟩ := DRow.el (DRow.below (show DRow w (some ⟨bb, off, none⟩) b.im.length b.im from R3.out) hbw) hlt
          obtain ⟨ll, ly, p, rfl, hll, hly⟩ := IM.out d (List.mem_of_getElem? hdk)
          obtain ⟨⟨ax, cx, rfl, hbx, _, _, nx⟩, ⟨ay, cy, rfl, hby, _, _, ny⟩, rfl⟩ := hR
          have HN : Hid (listB imB (b.im.take (j + 1)) = listB imB (b.im.take j) ++ imB ⟨.b ll, .b ly, .n p⟩) := listB_next hdk
          have HF : Hid (imB ⟨.b ll, .b ly, .n p⟩ = textL ll ++ textL ly ++ putL p) := rfl
          have hbj := HB2.out j
          have tt1 := textL_le ll
          have tt2 := textL_le ly
          have tt3 := putL_len p
          have hlt' : (j : Int) < (b.im.length : Int) := by omega
          clear hdk
          generalize hL : listB imB (b.im.take j) = L at *
          have j0 : av = none → cv = 0 := by
            obtain ⟨a', c', e', hm⟩ := ho.made hbw
            simp only [Value.slice.injEq, true_and] at e'
            obtain ⟨rfl, rfl⟩ := e'
            exact hm.nil
          have HS : ∀ {wl : World}, Below wr.heap.size wr wl → (wl.cell? ⟨w.heap.size, 2, none⟩ = some (.slice (some ⟨bb, off, none⟩) b.im.length c3) ∧ wl.cell? ⟨bb, off + j * 3, none⟩ = some (.slice ax ll.length cx) ∧ wl.cell? ⟨bb, off + j * 3 + 1, none⟩ = some (.slice ay ly.length cy) ∧ wl.cell? ⟨bb, off + j * 3 + 2, none⟩ = some (.int .i64 p)) := fun hb =>
            ⟨(hb.cell xr.lt).trans k2, (hb.cell (World.block_lt_of_cell? wr _ q0)).trans q0, (hb.cell (World.block_lt_of_cell? wr _ q1)).trans q1, (hb.cell (World.block_lt_of_cell? wr _ q2)).trans q2⟩
          have HS0 := HS (wl := wr.drew) (Below.refl _ _).drew
          have z0 : BRow wr.drew av (P2.length + L.length) (P2 ++ L) := ho.row
          have zx : BRow wr.drew ax ll.length ll := hbx
          have zy : BRow wr.drew ay ly.length ly := hby
          go_wp2_with fail
          refine wp_region_held_drew (S := fun wl => (wl.cell? ⟨w.heap.size, 2, none⟩ = some (.slice (some ⟨bb, off, none⟩) b.im.length c3) ∧ wl.cell? ⟨bb, off + j * 3, none⟩ = some (.slice ax ll.length cx) ∧ wl.cell? ⟨bb, off + j * 3 + 1, none⟩ = some (.slice ay ly.length cy) ∧ wl.cell? ⟨bb, off + j * 3 + 2, none⟩ = some (.int .i64 p))) (by kernel_rfl) HS0 (fun hHeld => ?_)
          refine wpAnyH_take (i := 0) (oi := ?o524) (v := ?v524) ?i524 (by kernel_rfl) (by kernel_rfl) (by kernel_rfl) ?q524 ?y524 (hHeld) ?r524
          case i524 => exact rfl
          case q524 => exact (fun _ _ _ h => h)
          case y524 =>
            refine Or.inl ⟨by rfl, ?_⟩
            intro w hSw
            (try dsimp only at hSw)
            go_simp
            first | done | rfl
          try simp only [Act.put, List.getElem_toArray, List.getElem_cons_zero, List.getElem_cons_succ, List.setIfInBounds_toArray, List.set_cons_zero, List.set_cons_succ]
          refine wpAnyH_take (i := 1) (oi := ?o525) (v := ?v525) ?i525 (by kernel_rfl) (by kernel_rfl) (by kernel_rfl) ?q525 ?y525 (hHeld) ?r525
          case i525 => exact rfl
          case q525 => exact (fun _ _ _ h => h)
          case y525 =>
            refine Or.inl ⟨by rfl, ?_⟩
            intro w hSw
            (try dsimp only at hSw)
            go_simp
            first | done | rfl
          try simp only [Act.put, List.getElem_toArray, List.getElem_cons_zero, List.getElem_cons_succ, List.setIfInBounds_toArray, List.set_cons_zero, List.set_cons_succ]
          refine wpAnyH_take (i := 3) (oi := ?o526) (v := ?v526) ?i526 (by kernel_rfl) (by kernel_rfl) (by kernel_rfl) ?q526 ?y526 (hHeld) ?r526
          case i526 => exact rfl
          case q526 => exact (fun _ _ _ h => h)
          case y526 =>
            refine Or.inl ⟨by rfl, ?_⟩
            intro w hSw
            (try dsimp only at hSw)
            go_simp
            first | done | rfl
          try simp only [Act.put, List.getElem_toArray, List.getElem_cons_zero, List.getElem_cons_succ, List.setIfInBounds_toArray, List.set_cons_zero, List.set_cons_succ]
          refine wpAnyH_take (i := 8) (oi := ?o527) (v := ?v527) ?i527 (by kernel_rfl) (by kernel_rfl) (by kernel_rfl) ?q527 ?y527 (hHeld) ?r527
          case i527 => exact rfl
          case q527 => exact (fun _ _ _ h => h)
          case y527 =>
            refine Or.inl ⟨by rfl, ?_⟩
            intro w hSw
            (try dsimp only at hSw)
            go_simp
            first | done | rfl
          try simp only [Act.put, List.getElem_toArray, List.getElem_cons_zero, List.getElem_cons_succ, List.setIfInBounds_toArray, List.set_cons_zero, List.set_cons_succ]
          refine wpAnyH_take (i := 10) (oi := ?o528) (v := ?v528) ?i528 (by kernel_rfl) (by kernel_rfl) (by kernel_rfl) ?q528 ?y528 (hHeld) ?r528
          case i528 => exact rfl
          case q528 => exact (fun _ _ _ h => h)
          case y528 =>
            refine Or.inl ⟨by rfl, ?_⟩
            intro w hSw
            (try dsimp only at hSw)
            go_simp
            first | done | rfl
          try simp only [Act.put, List.getElem_toArray, List.getElem_cons_zero, List.getElem_cons_succ, List.setIfInBounds_toArray, List.set_cons_zero, List.set_cons_succ]
          refine wpAnyH_take (i := 15) (oi := ?o529) (v := ?v529) ?i529 (by kernel_rfl) (by kernel_rfl) (by kernel_rfl) ?q529 ?y529 (hHeld) ?r529
          case i529 => exact rfl
          case q529 => exact (fun _ _ _ h => h)
          case y529 =>
            refine Or.inl ⟨by rfl, ?_⟩
            intro w hSw
            (try dsimp only at hSw)
            go_simp
            first | done | rfl
          try simp only [Act.put, List.getElem_toArray, List.getElem_cons_zero, List.getElem_cons_succ, List.setIfInBounds_toArray, List.set_cons_zero, List.set_cons_succ]
          refine wpAnyH_take (i := 17) (oi := ?o530) (v := ?v530) ?i530 (by kernel_rfl) (by kernel_rfl) (by kernel_rfl) ?q530 ?y530 (hHeld) ?r530
          case i530 => exact rfl
          case q530 => exact (fun _ _ _ h => h)
          case y530 =>
            refine Or.inl ⟨by rfl, ?_⟩
            intro w hSw
            (try dsimp only at hSw)
            go_simp
            first | done | rfl
          try simp only [Act.put, List.getElem_toArray, List.getElem_cons_zero, List.getElem_cons_succ, List.setIfInBounds_toArray, List.set_cons_zero, List.set_cons_succ]
          refine wpAnyH_take (i := 2) (oi := ?o531) (v := ?v531) ?i531 (by kernel_rfl) (by kernel_rfl) (by kernel_rfl) ?q531 ?y531 (hHeld) ?r531
          case i531 => exact rfl
          case q531 => exact (fun _ _ _ h => h)
          case y531 =>
            refine Or.inl ⟨by rfl, ?_⟩
            intro w hSw
            (try dsimp only at hSw)
            go_simp
            first | done | rfl
          try simp only [Act.put, List.getElem_toArray, List.getElem_cons_zero, List.getElem_cons_succ, List.setIfInBounds_toArray, List.set_cons_zero, List.set_cons_succ]
          refine wpAnyH_take (i := 9) (oi := ?o532) (v := ?v532) ?i532 (by kernel_rfl) (by kernel_rfl) (by kernel_rfl) ?q532 ?y532 (hHeld) ?r532
          case i532 => exact rfl
          case q532 => exact (fun _ _ _ h => h)
          case y532 =>
            refine Or.inl ⟨by rfl, ?_⟩
            intro w hSw
            (try dsimp only at hSw)
            go_simp
            first | done | rfl
          try simp only [Act.put, List.getElem_toArray, List.getElem_cons_zero, List.getElem_cons_succ, List.setIfInBounds_toArray, List.set_cons_zero, List.set_cons_succ]
          refine wpAnyH_take (i := 16) (oi := ?o533) (v := ?v533) ?i533 (by kernel_rfl) (by kernel_rfl) (by kernel_rfl) ?q533 ?y533 (hHeld) ?r533
          case i533 => exact rfl
          case q533 => exact (fun _ _ _ h => h)
          case y533 =>
            refine Or.inl ⟨by rfl, ?_⟩
            intro w hSw
            (try dsimp only at hSw)
            go_simp
            first | done | rfl
          try simp only [Act.put, List.getElem_toArray, List.getElem_cons_zero, List.getElem_cons_succ, List.setIfInBounds_toArray, List.set_cons_zero, List.set_cons_succ]
          refine wpAnyH_take (i := 4) (oi := ?o534) (v := ?v534) ?i534 (by kernel_rfl) (by kernel_rfl) (by kernel_rfl) ?q534 ?y534 (hHeld) ?r534
          case i534 => exact rfl
          case q534 => exact (fun _ _ _ h => h)
          case y534 =>
            refine Or.inl ⟨by rfl, ?_⟩
            intro w hSw
            (try dsimp only at hSw)
            go_simp
            first | done | rfl
          try simp only [Act.put, List.getElem_toArray, List.getElem_cons_zero, List.getElem_cons_succ, List.setIfInBounds_toArray, List.set_cons_zero, List.set_cons_succ]
          refine wpAnyH_take (i := 11) (oi := ?o535) (v := ?v535) ?i535 (by kernel_rfl) (by kernel_rfl) (by kernel_rfl) ?q535 ?y535 (hHeld) ?r535
          case i535 => exact rfl
          case q535 => exact (fun _ _ _ h => h)
          case y535 =>
            refine Or.inl ⟨by rfl, ?_⟩
            intro w hSw
            (try dsimp only at hSw)
            go_simp
            first | done | rfl
          try simp only [Act.put, List.getElem_toArray, List.getElem_cons_zero, List.getElem_cons_succ, List.setIfInBounds_toArray, List.set_cons_zero, List.set_cons_succ]
          refine wpAnyH_take (i := 18) (oi := ?o536) (v := ?v536) ?i536 (by kernel_rfl) (by kernel_rfl) (by kernel_rfl) ?q536 ?y536 (hHeld) ?r536
          case i536 => exact rfl
          case q536 => exact (fun _ _ _ h => h)
          case y536 =>
            refine Or.inl ⟨by rfl, ?_⟩
            intro w hSw
            (try dsimp only at hSw)
            go_simp
            first | done | rfl
          try simp only [Act.put, List.getElem_toArray, List.getElem_cons_zero, List.getElem_cons_succ, List.setIfInBounds_toArray, List.set_cons_zero, List.set_cons_succ]
          refine wpAnyH_take (i := 5) (oi := ?o537) (v := ?v537) ?i537 (by kernel_rfl) (by kernel_rfl) (by kernel_rfl) ?q537 ?y537 (hHeld) ?r537
          case i537 => exact rfl
          case q537 => exact (fun _ _ _ h => h)
          case y537 =>
            refine Or.inl ⟨by rfl, ?_⟩
            intro w hSw
            (try dsimp only at hSw)
            go_simp
            first | done | rfl
          try simp only [Act.put, List.getElem_toArray, List.getElem_cons_zero, List.getElem_cons_succ, List.setIfInBounds_toArray, List.set_cons_zero, List.set_cons_succ]
          refine wpAnyH_take (i := 12) (oi := ?o538) (v := ?v538) ?i538 (by kernel_rfl) (by kernel_rfl) (by kernel_rfl) ?q538 ?y538 (hHeld) ?r538
          case i538 => exact rfl
          case q538 => exact (fun _ _ _ h => h)
          case y538 =>
            refine Or.inl ⟨by rfl, ?_⟩
            intro w hSw
            (try dsimp only at hSw)
            go_simp
            first | done | rfl
          try simp only [Act.put, List.getElem_toArray, List.getElem_cons_zero, List.getElem_cons_succ, List.setIfInBounds_toArray, List.set_cons_zero, List.set_cons_succ]
          refine wpAnyH_take (i := 19) (oi := ?o539) (v := ?v539) ?i539 (by kernel_rfl) (by kernel_rfl) (by kernel_rfl) ?q539 ?y539 (hHeld) ?r539
          case i539 => exact rfl
          case q539 => exact (fun _ _ _ h => h)
          case y539 =>
            refine Or.inl ⟨by rfl, ?_⟩
            intro w hSw
            (try dsimp only at hSw)
            go_simp
            first | done | rfl
          try simp only [Act.put, List.getElem_toArray, List.getElem_cons_zero, List.getElem_cons_succ, List.setIfInBounds_toArray, List.set_cons_zero, List.set_cons_succ]
          refine wpAnyH_take (i := 6) (oi := ?o540) (v := ?v540) ?i540 (by kernel_rfl) (by kernel_rfl) (by kernel_rfl) ?q540 ?y540 (hHeld) ?r540
          case i540 => exact rfl
          case q540 => exact (fun _ _ _ h => h)
          case y540 =>
            refine Or.inl ⟨by rfl, ?_⟩
            intro w hSw
            (try dsimp only at hSw)
            go_simp
            first | done | rfl
          try simp only [Act.put, List.getElem_toArray, List.getElem_cons_zero, List.getElem_cons_succ, List.setIfInBounds_toArray, List.set_cons_zero, List.set_cons_succ]
          refine wpAnyH_take (i := 13) (oi := ?o541) (v := ?v541) ?i541 (by kernel_rfl) (by kernel_rfl) (by kernel_rfl) ?q541 ?y541 (hHeld) ?r541
          case i541 => exact rfl
          case q541 => exact (fun _ _ _ h => h)
          case y541 =>
            refine Or.inl ⟨by rfl, ?_⟩
            intro w hSw
            (try dsimp only at hSw)
            go_simp
            first | done | rfl
          try simp only [Act.put, List.getElem_toArray, List.getElem_cons_zero, List.getElem_cons_succ, List.setIfInBounds_toArray, List.set_cons_zero, List.set_cons_succ]
          refine wpAnyH_take (i := 20) (oi := ?o542) (v := ?v542) ?i542 (by kernel_rfl) (by kernel_rfl) (by kernel_rfl) ?q542 ?y542 (hHeld) ?r542
          case i542 => exact rfl
          case q542 => exact (fun _ _ _ h => h)
          case y542 =>
            refine Or.inl ⟨by rfl, ?_⟩
            intro w hSw
            (try dsimp only at hSw)
            go_simp
            first | done | rfl
          try simp only [Act.put, List.getElem_toArray, List.getElem_cons_zero, List.getElem_cons_succ, List.setIfInBounds_toArray, List.set_cons_zero, List.set_cons_succ]
          refine wpAnyH_ready (rs := [7]) (by kernel_rfl) (by simp) ?_
          refine AllReadyH.cons (i := 7) (o := ?o543) ?i543 (fun K hK => ?_) AllReadyH.nil
          case i543 => exact rfl
          go_simp
          (with_reducible refine (specTextM av (P2.length + L.length) cv (P2 ++ L) ax ll.length cx ll wr.drew z0 j0 zx nx (by omega) (by omega)).mono ?_)
          rintro e wa ⟨aa, ca, rfl, ma⟩
          have ba : Below wr.heap.size wr wa := (Below.refl wr.heap.size wr).drew.trans ma.below
          have HSa := HS ba
          have za := ma.row
          have ja := ma.nil
          have zy' := zy.below ma.below
          go_wp2_with fail
          refine hK.out _ _ (HSa) (fun hHeld => ?_)
          clear hK K
          try simp only [Act.put, List.getElem_toArray, List.getElem_cons_zero, List.getElem_cons_succ, List.setIfInBounds_toArray, List.set_cons_zero, List.set_cons_succ]
          refine wpAnyH_ready (rs := [14]) (by kernel_rfl) (by simp) ?_
          refine AllReadyH.cons (i := 14) (o := ?o544) ?i544 (fun K hK => ?_) AllReadyH.nil
          case i544 => exact rfl
          go_simp
          (with_reducible refine (specTextM aa (P2.length + L.length + (textL ll).length) ca (P2 ++ L ++ textL ll) ay ly.length cy ly wa za ja zy' ny (by omega) (by omega)).mono ?_)
          rintro e wb ⟨ab, cb, rfl, mb⟩
          have bbl : Below wr.heap.size wr wb := ba.trans (mb.below.mono ba.size)
          have HSb := HS bbl
          have zb := mb.row
          have jb := mb.nil
          go_wp2_with fail
          refine hK.out _ _ (HSb) (fun hHeld => ?_)
          clear hK K
          try simp only [Act.put, List.getElem_toArray, List.getElem_cons_zero, List.getElem_cons_succ, List.setIfInBounds_toArray, List.set_cons_zero, List.set_cons_succ]
          refine wpAnyH_ready (rs := [21]) (by kernel_rfl) (by simp) ?_
          refine AllReadyH.cons (i := 21) (o := ?o545) ?i545 (fun K hK => ?_) AllReadyH.nil
          case i545 => exact rfl
          go_simp
          (with_reducible refine (specPutM ab (P2.length + L.length + (textL ll).length + (textL ly).length) cb (P2 ++ L ++ textL ll ++ textL ly) p wb zb jb (by omega)).mono ?_)
          rintro e wc ⟨ac, cc, rfl, mc⟩
          have bcl : Below wr.heap.size wr wc := bbl.trans (mc.below.mono bbl.size)
          have HSc := HS bcl
          go_wp2_with fail
          refine hK.out _ _ (HSc) (fun hHeld => ?_)
          clear hK K
          try simp only [Act.put, List.getElem_toArray, List.getElem_cons_zero, List.getElem_cons_succ, List.setIfInBounds_toArray, List.set_cons_zero, List.set_cons_succ]
          refine wpAnyH_take (i := 22) (oi := ?o546) (v := ?v546) ?i546 (by kernel_rfl) (by kernel_rfl) (by kernel_rfl) ?q546 ?y546 (hHeld) ?r546
          case i546 => exact rfl
          case q546 => exact (fun _ _ _ h => h)
          case y546 =>
            refine Or.inl ⟨by rfl, ?_⟩
            intro w hSw
            (try dsimp only at hSw)
            go_simp
            first | done | rfl
          try simp only [Act.put, List.getElem_toArray, List.getElem_cons_zero, List.getElem_cons_succ, List.setIfInBounds_toArray, List.set_cons_zero, List.set_cons_succ]
          refine wpAnyH_done (by kernel_rfl) ?_ _
          have hbc : Below w3.heap.size w3 wc := hbr.trans (bcl.mono hbr.size)
          have HO6 : Hid (∃ a c, Value.slice ac (P2.length + L.length + (textL ll).length + (textL ly).length + (putL p).length) cc = .slice a (P2.length + (listB imB (b.im.take (j + 1))).length) c ∧ Own wc w.heap.size (.slice a (P2.length + (listB imB (b.im.take (j + 1))).length) c) (P2.length + (listB imB (b.im.take (j + 1))).length) (P2 ++ listB imB (b.im.take (j + 1)))) := by
            have e1 : P2.length + (listB imB (b.im.take (j + 1))).length = P2.length + L.length + (textL ll).length + (textL ly).length + (putL p).length := by rw [HN.out, HF.out]; simp only [List.length_append]; omega
            have e2 : P2 ++ listB imB (b.im.take (j + 1)) = P2 ++ L ++ textL ll ++ textL ly ++ putL p := by rw [HN.out, HF.out]; simp only [List.append_assoc]
            show ∃ a c, _
            rw [e1, e2]
            exact ⟨_, _, rfl, mc.own.mono (Nat.le_trans hbw.size bbl.size)⟩
          clear ma mb mc z0 za zb HS HS0 HSa HSb HSc q0 q1 q2 k0 k1 k2 k3 k4 xr ho
          generalize P2.length + L.length + (textL ll).length + (textL ly).length + (putL p).length = n6 at *
          go_wp2_with fail
          go_roundw
          case rel => exact ⟨j + 1, by omega, by go_num, HO6, hbc⟩
          case measure => simp [intOf]; omega
        · have hjl : j = b.im.length := by omega
          subst hjl
          have eT : b.im.take b.im.length = b.im := List.take_length
          rw [eT] at ho ⊢
          have j0 : av = none → cv = 0 := by
            obtain ⟨a', c', e', hm⟩ := ho.made hbw
            simp only [Value.slice.injEq, true_and] at e'
            obtain ⟨rfl, rfl⟩ := e'
            exact hm.nil
          have hbe := HB2.out b.im.length
          rw [eT] at hbe
          have t1 := putL_len b.data
          have t2 := putL_len (b.code.length : Int)
          generalize hL : listB imB b.im = L at *
          have HS : ∀ {wl : World}, Below wr.heap.size wr wl → (wl.cell? ⟨w.heap.size, 3, none⟩ = some (.int .i64 b.data) ∧ wl.cell? ⟨w.heap.size, 4, none⟩ = some (.slice a4 b.code.length c4)) := fun hb =>
            ⟨(hb.cell xr.lt).trans k3, (hb.cell xr.lt).trans k4⟩
          have HS0 := HS (wl := wr.drew) (Below.refl _ _).drew
          have z0 : BRow wr.drew av (P2.length + L.length) (P2 ++ L) := ho.row
          go_wp2_with fail
          refine wp_region_held_drew (S := fun wl => (wl.cell? ⟨w.heap.size, 3, none⟩ = some (.int .i64 b.data) ∧ wl.cell? ⟨w.heap.size, 4, none⟩ = some (.slice a4 b.code.length c4))) (by kernel_rfl) HS0 (fun hHeld => ?_)
          refine wpAnyH_take (i := 0) (oi := ?o547) (v := ?v547) ?i547 (by kernel_rfl) (by kernel_rfl) (by kernel_rfl) ?q547 ?y547 (hHeld) ?r547
          case i547 => exact rfl
          case q547 => exact (fun _ _ _ h => h)
          case y547 =>
            refine Or.inl ⟨by rfl, ?_⟩
            intro w hSw
            (try dsimp only at hSw)
            go_simp
            first | done | rfl
          try simp only [Act.put, List.getElem_toArray, List.getElem_cons_zero, List.getElem_cons_succ, List.setIfInBounds_toArray, List.set_cons_zero, List.set_cons_succ]
          refine wpAnyH_take (i := 1) (oi := ?o548) (v := ?v548) ?i548 (by kernel_rfl) (by kernel_rfl) (by kernel_rfl) ?q548 ?y548 (hHeld) ?r548
          case i548 => exact rfl
          case q548 => exact (fun _ _ _ h => h)
          case y548 =>
            refine Or.inl ⟨by rfl, ?_⟩
            intro w hSw
            (try dsimp only at hSw)
            go_simp
            first | done | rfl
          try simp only [Act.put, List.getElem_toArray, List.getElem_cons_zero, List.getElem_cons_succ, List.setIfInBounds_toArray, List.set_cons_zero, List.set_cons_succ]
          refine wpAnyH_take (i := 4) (oi := ?o549) (v := ?v549) ?i549 (by kernel_rfl) (by kernel_rfl) (by kernel_rfl) ?q549 ?y549 (hHeld) ?r549
          case i549 => exact rfl
          case q549 => exact (fun _ _ _ h => h)
          case y549 =>
            refine Or.inl ⟨by rfl, ?_⟩
            intro w hSw
            (try dsimp only at hSw)
            go_simp
            first | done | rfl
          try simp only [Act.put, List.getElem_toArray, List.getElem_cons_zero, List.getElem_cons_succ, List.setIfInBounds_toArray, List.set_cons_zero, List.set_cons_succ]
          refine wpAnyH_take (i := 2) (oi := ?o550) (v := ?v550) ?i550 (by kernel_rfl) (by kernel_rfl) (by kernel_rfl) ?q550 ?y550 (hHeld) ?r550
          case i550 => exact rfl
          case q550 => exact (fun _ _ _ h => h)
          case y550 =>
            refine Or.inl ⟨by rfl, ?_⟩
            intro w hSw
            (try dsimp only at hSw)
            go_simp
            first | done | rfl
          try simp only [Act.put, List.getElem_toArray, List.getElem_cons_zero, List.getElem_cons_succ, List.setIfInBounds_toArray, List.set_cons_zero, List.set_cons_succ]
          refine wpAnyH_take (i := 5) (oi := ?o551) (v := ?v551) ?i551 (by kernel_rfl) (by kernel_rfl) (by kernel_rfl) ?q551 ?y551 (hHeld) ?r551
          case i551 => exact rfl
          case q551 => exact (fun _ _ _ h => h)
          case y551 =>
            refine Or.inl ⟨by rfl, ?_⟩
            intro w hSw
            (try dsimp only at hSw)
            go_simp
            first | done | rfl
          try simp only [Act.put, List.getElem_toArray, List.getElem_cons_zero, List.getElem_cons_succ, List.setIfInBounds_toArray, List.set_cons_zero, List.set_cons_succ]
          refine wpAnyH_take (i := 6) (oi := ?o552) (v := ?v552) ?i552 (by kernel_rfl) (by kernel_rfl) (by kernel_rfl) ?q552 ?y552 (hHeld) ?r552
          case i552 => exact rfl
          case q552 => exact (fun _ _ _ h => h)
          case y552 =>
            refine Or.inl ⟨by rfl, ?_⟩
            intro w hSw
            (try dsimp only at hSw)
            go_simp
            first | done | rfl
          try simp only [Act.put, List.getElem_toArray, List.getElem_cons_zero, List.getElem_cons_succ, List.setIfInBounds_toArray, List.set_cons_zero, List.set_cons_succ]
          refine wpAnyH_ready (rs := [3]) (by kernel_rfl) (by simp) ?_
          refine AllReadyH.cons (i := 3) (o := ?o553) ?i553 (fun K hK => ?_) AllReadyH.nil
          case i553 => exact rfl
          go_simp
          (with_reducible refine (specPutM av (P2.length + L.length) cv (P2 ++ L) b.data wr.drew z0 j0 (by omega)).mono ?_)
          rintro e wa ⟨aa, ca, rfl, ma⟩
          have ba : Below wr.heap.size wr wa := (Below.refl wr.heap.size wr).drew.trans ma.below
          have HSa := HS ba
          have za := ma.row
          have ja := ma.nil
          go_wp2_with fail
          refine hK.out _ _ (HSa) (fun hHeld => ?_)
          clear hK K
          try simp only [Act.put, List.getElem_toArray, List.getElem_cons_zero, List.getElem_cons_succ, List.setIfInBounds_toArray, List.set_cons_zero, List.set_cons_succ]
          refine wpAnyH_ready (rs := [7]) (by kernel_rfl) (by simp) ?_
          refine AllReadyH.cons (i := 7) (o := ?o554) ?i554 (fun K hK => ?_) AllReadyH.nil
          case i554 => exact rfl
          go_simp
          (with_reducible refine (specPutM aa (P2.length + L.length + (putL b.data).length) ca (P2 ++ L ++ putL b.data) (b.code.length : Int) wa za ja (by omega)).mono ?_)
          rintro e wb ⟨ab, cb, rfl, mb⟩
          have bbl : Below wr.heap.size wr wb := ba.trans (mb.below.mono ba.size)
          have HSb := HS bbl
          go_wp2_with fail
          refine hK.out _ _ (HSb) (fun hHeld => ?_)
          clear hK K
          try simp only [Act.put, List.getElem_toArray, List.getElem_cons_zero, List.getElem_cons_succ, List.setIfInBounds_toArray, List.set_cons_zero, List.set_cons_succ]
          refine wpAnyH_take (i := 8) (oi := ?o555) (v := ?v555) ?i555 (by kernel_rfl) (by kernel_rfl) (by kernel_rfl) ?q555 ?y555 (hHeld) ?r555
          case i555 => exact rfl
          case q555 => exact (fun _ _ _ h => h)
          case y555 =>
            refine Or.inl ⟨by rfl, ?_⟩
            intro w hSw
            (try dsimp only at hSw)
            go_simp
            first | done | rfl
          try simp only [Act.put, List.getElem_toArray, List.getElem_cons_zero, List.getElem_cons_succ, List.setIfInBounds_toArray, List.set_cons_zero, List.set_cons_succ]
          refine wpAnyH_done (by kernel_rfl) ?_ _
          have hbb : Below w.heap.size w wb := hbw.trans (bbl.mono hbw.size)
          have ob := mb.own.mono (Nat.le_trans hbw.size ba.size)
          have r4 : BRow wb a4 b.code.length b.code := BRow.below R4.out hbb
          have kk := HSb.2
          have eB : objB b = P2 ++ L ++ putL b.data ++ putL b.code.length ++ b.code := by unfold objB; rw [hP2, hL]
          have HE : Hid (objB b = P2 ++ L ++ putL b.data ++ putL b.code.length ++ b.code) := eB
          clear ma mb z0 za HS HS0 HSa HSb k0 k1 k2 k3 k4 xr ho eB
          generalize hD1 : putL b.data = D1 at *
          generalize hD2 : putL (b.code.length : Int) = D2 at *
          have hn7 : P2.length + L.length + D1.length + D2.length ≤ 100000 := by omega
          generalize hn : P2.length + L.length + D1.length + D2.length = n7 at *
          go_wp2_with (at_builtin; refine wpList_appendB rfl _ _ rfl w.heap.size _ n7 _ rfl ob a4 b.code.length c4 b.code rfl r4 n4 (by omega) hbb.size ?_)
          intro v7 w7 ho7 hg7
          have hb7 := ob.grown hg7 hbb hbb.size
          clear hg7 ob r4
          go_wp2_with fail
          go_ret
          have ho8 : Own w7 w.heap.size v7 (objB b).length (objB b) := by
            have e1 : (objB b).length = n7 + b.code.length := by rw [HE.out, ← hn]; simp only [List.length_append]
            rw [e1, HE.out]
            simpa only [List.append_assoc] using ho7
          obtain ⟨a', c', rfl, hm⟩ := ho8.made hb7
          exact ⟨_, _, rfl, hm⟩
end Go.Proofs.Ytnhebknckgffoaa

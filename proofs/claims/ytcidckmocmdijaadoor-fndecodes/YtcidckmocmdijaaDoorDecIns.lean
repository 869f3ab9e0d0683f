/- Twelve bytes as an instruction: what is built and its model. -/
import Derived.Test.YtcidckmocmdijaaDoorDecNum
import Derived.Test.YtcidckmocmdijaaDoorPut6
import Derived.Deep.RegionHeld3
import Derived.Deep.RegionWith
namespace Go.Proofs.YtcidckmocmdijaaDoor
open Go.RowKit
set_option linter.unusedVariables false
set_option linter.unusedSimpArgs false
set_option maxRecDepth 100000

/-- Twelve bytes in a row. -/
def Twelve (w : World) (b o : Nat) (x0 x1 x2 x3 x4 x5 x6 x7 x8 x9 x10 x11 : Int) : Prop := w.cell? ⟨b, o, none⟩ = some (.int .u8 x0) ∧ w.cell? ⟨b, o + 1, none⟩ = some (.int .u8 x1) ∧ w.cell? ⟨b, o + 2, none⟩ = some (.int .u8 x2) ∧ w.cell? ⟨b, o + 3, none⟩ = some (.int .u8 x3) ∧ w.cell? ⟨b, o + 4, none⟩ = some (.int .u8 x4) ∧ w.cell? ⟨b, o + 5, none⟩ = some (.int .u8 x5) ∧ w.cell? ⟨b, o + 6, none⟩ = some (.int .u8 x6) ∧ w.cell? ⟨b, o + 7, none⟩ = some (.int .u8 x7) ∧ w.cell? ⟨b, o + 8, none⟩ = some (.int .u8 x8) ∧ w.cell? ⟨b, o + 9, none⟩ = some (.int .u8 x9) ∧ w.cell? ⟨b, o + 10, none⟩ = some (.int .u8 x10) ∧ w.cell? ⟨b, o + 11, none⟩ = some (.int .u8 x11)
def Bytes12 (x0 x1 x2 x3 x4 x5 x6 x7 x8 x9 x10 x11 : Int) : Prop := (0 ≤ x0 ∧ x0 ≤ 255) ∧ (0 ≤ x1 ∧ x1 ≤ 255) ∧ (0 ≤ x2 ∧ x2 ≤ 255) ∧ (0 ≤ x3 ∧ x3 ≤ 255) ∧ (0 ≤ x4 ∧ x4 ≤ 255) ∧ (0 ≤ x5 ∧ x5 ≤ 255) ∧ (0 ≤ x6 ∧ x6 ≤ 255) ∧ (0 ≤ x7 ∧ x7 ≤ 255) ∧ (0 ≤ x8 ∧ x8 ≤ 255) ∧ (0 ≤ x9 ∧ x9 ≤ 255) ∧ (0 ≤ x10 ∧ x10 ≤ 255) ∧ (0 ≤ x11 ∧ x11 ≤ 255)

theorem Twelve.below {w w' : World} {b o : Nat} {x0 x1 x2 x3 x4 x5 x6 x7 x8 x9 x10 x11 : Int} (h : Twelve w b o x0 x1 x2 x3 x4 x5 x6 x7 x8 x9 x10 x11) (hb : Below w.heap.size w w') : Twelve w' b o x0 x1 x2 x3 x4 x5 x6 x7 x8 x9 x10 x11 := by
  obtain ⟨f0, f1, f2, f3, f4, f5, f6, f7, f8, f9, f10, f11⟩ := h
  exact ⟨(hb.cell (World.block_lt_of_cell? w _ f0)).trans f0, (hb.cell (World.block_lt_of_cell? w _ f1)).trans f1, (hb.cell (World.block_lt_of_cell? w _ f2)).trans f2, (hb.cell (World.block_lt_of_cell? w _ f3)).trans f3, (hb.cell (World.block_lt_of_cell? w _ f4)).trans f4, (hb.cell (World.block_lt_of_cell? w _ f5)).trans f5, (hb.cell (World.block_lt_of_cell? w _ f6)).trans f6, (hb.cell (World.block_lt_of_cell? w _ f7)).trans f7, (hb.cell (World.block_lt_of_cell? w _ f8)).trans f8, (hb.cell (World.block_lt_of_cell? w _ f9)).trans f9, (hb.cell (World.block_lt_of_cell? w _ f10)).trans f10, (hb.cell (World.block_lt_of_cell? w _ f11)).trans f11⟩

theorem Twelve.belowAt {w w' : World} {b o g : Nat} {x0 x1 x2 x3 x4 x5 x6 x7 x8 x9 x10 x11 : Int} (h : Twelve w b o x0 x1 x2 x3 x4 x5 x6 x7 x8 x9 x10 x11) (hb : Below g w w') (hlt : b < g) : Twelve w' b o x0 x1 x2 x3 x4 x5 x6 x7 x8 x9 x10 x11 := by
  obtain ⟨f0, f1, f2, f3, f4, f5, f6, f7, f8, f9, f10, f11⟩ := h
  exact ⟨(hb.cell (p := ⟨b, o, none⟩) hlt).trans f0, (hb.cell (p := ⟨b, o + 1, none⟩) hlt).trans f1, (hb.cell (p := ⟨b, o + 2, none⟩) hlt).trans f2, (hb.cell (p := ⟨b, o + 3, none⟩) hlt).trans f3, (hb.cell (p := ⟨b, o + 4, none⟩) hlt).trans f4, (hb.cell (p := ⟨b, o + 5, none⟩) hlt).trans f5, (hb.cell (p := ⟨b, o + 6, none⟩) hlt).trans f6, (hb.cell (p := ⟨b, o + 7, none⟩) hlt).trans f7, (hb.cell (p := ⟨b, o + 8, none⟩) hlt).trans f8, (hb.cell (p := ⟨b, o + 9, none⟩) hlt).trans f9, (hb.cell (p := ⟨b, o + 10, none⟩) hlt).trans f10, (hb.cell (p := ⟨b, o + 11, none⟩) hlt).trans f11⟩

theorem Twelve.lt {w : World} {b o : Nat} {x0 x1 x2 x3 x4 x5 x6 x7 x8 x9 x10 x11 : Int} (h : Twelve w b o x0 x1 x2 x3 x4 x5 x6 x7 x8 x9 x10 x11) : b < w.heap.size := World.block_lt_of_cell? w _ h.1

theorem insBytesM (b off n c k : Nat) (w : World) (h : 12 * k + 12 ≤ n) (hc : n ≤ c) (hm : c ≤ maxLen) :
    Calls Tryd.prog 11 #[.slice (some ⟨b, off, none⟩) n c, .int .i64 k] w fun e w' => e = .returned (.slice (some ⟨b, off + 12 * k, none⟩) 12 12) ∧ w' = w := by
  unfold maxLen at hm
  go_enter Tryd.func11, Tryd.ntmps11
  go_wp2_with fail
  go_ret
  refine ⟨?_, rfl⟩
  congr 1
  simp [Addr.add]
  omega

set_option maxHeartbeats 4000000 in
theorem insOfM (b o c : Nat) (x0 x1 x2 x3 x4 x5 x6 x7 x8 x9 x10 x11 : Int) (w : World) (h : Twelve w b o x0 x1 x2 x3 x4 x5 x6 x7 x8 x9 x10 x11) (hx : Bytes12 x0 x1 x2 x3 x4 x5 x6 x7 x8 x9 x10 x11) :
    Calls Tryd.prog 17 #[.slice (some ⟨b, o, none⟩) 12 12] w fun e w' => e = .returned (.agg #[.int .i64 x0, .int .i64 x1, .int .i64 x2, .int .i64 x3, .int .i64 (num4 x4 x5 x6 x7), .int .i64 (num4 x8 x9 x10 x11)]) ∧ Below w.heap.size w w' := by
  have hb : Below w.heap.size w (w.alloc (.cells #[.int .i64 0, .int .i64 0, .int .i64 0, .int .i64 0, .int .i64 0, .int .i64 0] 26)) := (Below.refl _ _).alloc (Nat.le_refl _) _
  have hz := heap_new w #[.int .i64 0, .int .i64 0, .int .i64 0, .int .i64 0, .int .i64 0, .int .i64 0] 26
  have ht := h.below hb
  have HR1 : ∀ w, Twelve w b o x0 x1 x2 x3 x4 x5 x6 x7 x8 x9 x10 x11 → _ := fun w ⟨_, _, _, _, f0, f1, f2, f3, _⟩ => read32M b (o + 4) 4 x4 x5 x6 x7 w f0 f1 f2 f3 hx.2.2.2.2.1 hx.2.2.2.2.2.1 hx.2.2.2.2.2.2.1 hx.2.2.2.2.2.2.2.1
  have HR2 : ∀ w, Twelve w b o x0 x1 x2 x3 x4 x5 x6 x7 x8 x9 x10 x11 → _ := fun w ⟨_, _, _, _, _, _, _, _, f0, f1, f2, f3⟩ => read32M b (o + 8) 4 x8 x9 x10 x11 w f0 f1 f2 f3 hx.2.2.2.2.2.2.2.2.1 hx.2.2.2.2.2.2.2.2.2.1 hx.2.2.2.2.2.2.2.2.2.2.1 hx.2.2.2.2.2.2.2.2.2.2.2
  obtain ⟨⟨_, _⟩, ⟨_, _⟩, ⟨_, _⟩, ⟨_, _⟩, _⟩ := hx
  generalize num4 x4 x5 x6 x7 = n at *
  generalize num4 x8 x9 x10 x11 = m at *
  go_enter Tryd.func17, Tryd.ntmps17
  go_upto_region 1 with fail
  generalize w.alloc (.cells #[.int .i64 0, .int .i64 0, .int .i64 0, .int .i64 0, .int .i64 0, .int .i64 0] 26) = w1 at *
  obtain ⟨z0, z1, z2, z3, z4, z5, y0, y1, y2, y3, y4, y5⟩ := row6 hz
  have HZ : Hid _ := hz
  have HB : Hid _ := hb
  have HT : Hid (Twelve w1.drew b o x0 x1 x2 x3 x4 x5 x6 x7 x8 x9 x10 x11) := ht
  have HT1 : Hid (Twelve w1 b o x0 x1 x2 x3 x4 x5 x6 x7 x8 x9 x10 x11) := ht
  obtain ⟨f0, f1, f2, f3, f4, f5, f6, f7, f8, f9, f10, f11⟩ := ht
  clear hz hb
  have HL : Hid (b < w.heap.size) := h.lt
  clear h
  generalize hg : w.heap.size = g at *
  have HG : Hid (w.heap.size = g) := hg
  clear hg
  have hbW := heap_drew (put6_block (.int .i64 (IntKind.i64.wrap x0)) (.int .i64 (IntKind.i64.wrap x1)) (.int .i64 (IntKind.i64.wrap x2)) (.int .i64 (IntKind.i64.wrap x3)) (.int .i64 n) (.int .i64 m) HZ.out)
  have hdW := (put6_below HB.out (Nat.le_refl g) (.int .i64 (IntKind.i64.wrap x0)) (.int .i64 (IntKind.i64.wrap x1)) (.int .i64 (IntKind.i64.wrap x2)) (.int .i64 (IntKind.i64.wrap x3)) (.int .i64 n) (.int .i64 m)).drew
  have hlt : b < g := by have := HL.out; have := HG.out; omega
  have htW := HT1.out.belowAt (put6_below (Below.refl g w1) (Nat.le_refl g) (.int .i64 (IntKind.i64.wrap x0)) (.int .i64 (IntKind.i64.wrap x1)) (.int .i64 (IntKind.i64.wrap x2)) (.int .i64 (IntKind.i64.wrap x3)) (.int .i64 n) (.int .i64 m)).drew hlt
  have HBW : Hid _ := hbW
  have HDW : Hid _ := hdW
  have HTW : Hid _ := htW
  clear hbW hdW htW hlt
  refine wp_region_held_drew (S := fun wx => wx.cell? ⟨b, o, none⟩ = some (.int .u8 x0) ∧ wx.cell? ⟨b, o + 1, none⟩ = some (.int .u8 x1) ∧ wx.cell? ⟨b, o + 2, none⟩ = some (.int .u8 x2) ∧ wx.cell? ⟨b, o + 3, none⟩ = some (.int .u8 x3) ∧ wx.cell? ⟨b, o + 4, none⟩ = some (.int .u8 x4) ∧ wx.cell? ⟨b, o + 5, none⟩ = some (.int .u8 x5) ∧ wx.cell? ⟨b, o + 6, none⟩ = some (.int .u8 x6) ∧ wx.cell? ⟨b, o + 7, none⟩ = some (.int .u8 x7) ∧ wx.cell? ⟨b, o + 8, none⟩ = some (.int .u8 x8) ∧ wx.cell? ⟨b, o + 9, none⟩ = some (.int .u8 x9) ∧ wx.cell? ⟨b, o + 10, none⟩ = some (.int .u8 x10) ∧ wx.cell? ⟨b, o + 11, none⟩ = some (.int .u8 x11)) (by kernel_rfl) HT.out (fun hHeld => ?_)
  refine wpAnyH_take (i := 0) (oi := ?o501) (v := ?v501) ?i501 (by kernel_rfl) (by kernel_rfl) (by kernel_rfl) ?q501 ?y501 (hHeld) ?r501
  case i501 => exact rfl
  case q501 => exact (fun _ _ _ h => h)
  case y501 =>
    refine Or.inl ⟨by rfl, ?_⟩
    intro w hSw
    (try dsimp only at hSw)
    go_simp
    first | done | rfl
  try simp only [Act.put, List.getElem_toArray, List.getElem_cons_zero, List.getElem_cons_succ, List.setIfInBounds_toArray, List.set_cons_zero, List.set_cons_succ]
  refine wpAnyH_take (i := 1) (oi := ?o502) (v := ?v502) ?i502 (by kernel_rfl) (by kernel_rfl) (by kernel_rfl) ?q502 ?y502 (hHeld) ?r502
  case i502 => exact rfl
  case q502 => exact (fun _ _ _ h => h)
  case y502 =>
    refine Or.inl ⟨by rfl, ?_⟩
    intro w hSw
    (try dsimp only at hSw)
    go_simp
    first | done | rfl
  try simp only [Act.put, List.getElem_toArray, List.getElem_cons_zero, List.getElem_cons_succ, List.setIfInBounds_toArray, List.set_cons_zero, List.set_cons_succ]
  refine wpAnyH_take (i := 2) (oi := ?o503) (v := ?v503) ?i503 (by kernel_rfl) (by kernel_rfl) (by kernel_rfl) ?q503 ?y503 (hHeld) ?r503
  case i503 => exact rfl
  case q503 => exact (fun _ _ _ h => h)
  case y503 =>
    refine Or.inl ⟨by rfl, ?_⟩
    intro w hSw
    (try dsimp only at hSw)
    go_simp
    first | done | rfl
  try simp only [Act.put, List.getElem_toArray, List.getElem_cons_zero, List.getElem_cons_succ, List.setIfInBounds_toArray, List.set_cons_zero, List.set_cons_succ]
  refine wpAnyH_take (i := 3) (oi := ?o504) (v := ?v504) ?i504 (by kernel_rfl) (by kernel_rfl) (by kernel_rfl) ?q504 ?y504 (hHeld) ?r504
  case i504 => exact rfl
  case q504 => exact (fun _ _ _ h => h)
  case y504 =>
    refine Or.inl ⟨by rfl, ?_⟩
    intro w hSw
    (try dsimp only at hSw)
    go_simp
    first | done | rfl
  try simp only [Act.put, List.getElem_toArray, List.getElem_cons_zero, List.getElem_cons_succ, List.setIfInBounds_toArray, List.set_cons_zero, List.set_cons_succ]
  refine wpAnyH_take (i := 4) (oi := ?o505) (v := ?v505) ?i505 (by kernel_rfl) (by kernel_rfl) (by kernel_rfl) ?q505 ?y505 (hHeld) ?r505
  case i505 => exact rfl
  case q505 => exact (fun _ _ _ h => h)
  case y505 =>
    refine Or.inl ⟨by rfl, ?_⟩
    intro w hSw
    (try dsimp only at hSw)
    go_simp
    first | done | rfl
  try simp only [Act.put, List.getElem_toArray, List.getElem_cons_zero, List.getElem_cons_succ, List.setIfInBounds_toArray, List.set_cons_zero, List.set_cons_succ]
  refine wpAnyH_take (i := 5) (oi := ?o506) (v := ?v506) ?i506 (by kernel_rfl) (by kernel_rfl) (by kernel_rfl) ?q506 ?y506 (hHeld) ?r506
  case i506 => exact rfl
  case q506 => exact (fun _ _ _ h => h)
  case y506 =>
    refine Or.inl ⟨by rfl, ?_⟩
    intro w hSw
    (try dsimp only at hSw)
    go_simp
    first | done | rfl
  try simp only [Act.put, List.getElem_toArray, List.getElem_cons_zero, List.getElem_cons_succ, List.setIfInBounds_toArray, List.set_cons_zero, List.set_cons_succ]
  refine wpAnyH_take (i := 6) (oi := ?o507) (v := ?v507) ?i507 (by kernel_rfl) (by kernel_rfl) (by kernel_rfl) ?q507 ?y507 (hHeld) ?r507
  case i507 => exact rfl
  case q507 => exact (fun _ _ _ h => h)
  case y507 =>
    refine Or.inl ⟨by rfl, ?_⟩
    intro w hSw
    (try dsimp only at hSw)
    go_simp
    first | done | rfl
  try simp only [Act.put, List.getElem_toArray, List.getElem_cons_zero, List.getElem_cons_succ, List.setIfInBounds_toArray, List.set_cons_zero, List.set_cons_succ]
  refine wpAnyH_take (i := 7) (oi := ?o508) (v := ?v508) ?i508 (by kernel_rfl) (by kernel_rfl) (by kernel_rfl) ?q508 ?y508 (hHeld) ?r508
  case i508 => exact rfl
  case q508 => exact (fun _ _ _ h => h)
  case y508 =>
    refine Or.inl ⟨by rfl, ?_⟩
    intro w hSw
    (try dsimp only at hSw)
    go_simp
    first | done | rfl
  try simp only [Act.put, List.getElem_toArray, List.getElem_cons_zero, List.getElem_cons_succ, List.setIfInBounds_toArray, List.set_cons_zero, List.set_cons_succ]
  refine wpAnyH_take (i := 8) (oi := ?o509) (v := ?v509) ?i509 (by kernel_rfl) (by kernel_rfl) (by kernel_rfl) ?q509 ?y509 (hHeld) ?r509
  case i509 => exact rfl
  case q509 => exact (fun _ _ _ h => h)
  case y509 =>
    refine Or.inl ⟨by rfl, ?_⟩
    intro w hSw
    (try dsimp only at hSw)
    go_simp
    first | done | rfl
  try simp only [Act.put, List.getElem_toArray, List.getElem_cons_zero, List.getElem_cons_succ, List.setIfInBounds_toArray, List.set_cons_zero, List.set_cons_succ]
  refine wpAnyH_take (i := 9) (oi := ?o510) (v := ?v510) ?i510 (by kernel_rfl) (by kernel_rfl) (by kernel_rfl) ?q510 ?y510 (hHeld) ?r510
  case i510 => exact rfl
  case q510 => exact (fun _ _ _ h => h)
  case y510 =>
    refine Or.inl ⟨by rfl, ?_⟩
    intro w hSw
    (try dsimp only at hSw)
    go_simp
    first | done | rfl
  try simp only [Act.put, List.getElem_toArray, List.getElem_cons_zero, List.getElem_cons_succ, List.setIfInBounds_toArray, List.set_cons_zero, List.set_cons_succ]
  refine wpAnyH_take (i := 10) (oi := ?o511) (v := ?v511) ?i511 (by kernel_rfl) (by kernel_rfl) (by kernel_rfl) ?q511 ?y511 (hHeld) ?r511
  case i511 => exact rfl
  case q511 => exact (fun _ _ _ h => h)
  case y511 =>
    refine Or.inl ⟨by rfl, ?_⟩
    intro w hSw
    (try dsimp only at hSw)
    go_simp
    first | done | rfl
  try simp only [Act.put, List.getElem_toArray, List.getElem_cons_zero, List.getElem_cons_succ, List.setIfInBounds_toArray, List.set_cons_zero, List.set_cons_succ]
  refine wpAnyH_take (i := 11) (oi := ?o512) (v := ?v512) ?i512 (by kernel_rfl) (by kernel_rfl) (by kernel_rfl) ?q512 ?y512 (hHeld) ?r512
  case i512 => exact rfl
  case q512 => exact (fun _ _ _ h => h)
  case y512 =>
    refine Or.inl ⟨by rfl, ?_⟩
    intro w hSw
    (try dsimp only at hSw)
    go_simp
    first | done | rfl
  try simp only [Act.put, List.getElem_toArray, List.getElem_cons_zero, List.getElem_cons_succ, List.setIfInBounds_toArray, List.set_cons_zero, List.set_cons_succ]
  refine wpAnyH_take (i := 12) (oi := ?o513) (v := ?v513) ?i513 (by kernel_rfl) (by kernel_rfl) (by kernel_rfl) ?q513 ?y513 (hHeld) ?r513
  case i513 => exact rfl
  case q513 => exact (fun _ _ _ h => h)
  case y513 =>
    refine Or.inl ⟨by rfl, ?_⟩
    intro w hSw
    (try dsimp only at hSw)
    go_simp
    first | done | rfl
  try simp only [Act.put, List.getElem_toArray, List.getElem_cons_zero, List.getElem_cons_succ, List.setIfInBounds_toArray, List.set_cons_zero, List.set_cons_succ]
  refine wpAnyH_take (i := 13) (oi := ?o514) (v := ?v514) ?i514 (by kernel_rfl) (by kernel_rfl) (by kernel_rfl) ?q514 ?y514 (hHeld) ?r514
  case i514 => exact rfl
  case q514 => exact (fun _ _ _ h => h)
  case y514 =>
    refine Or.inl ⟨by rfl, ?_⟩
    intro w hSw
    (try dsimp only at hSw)
    go_simp
    first | done | rfl
  try simp only [Act.put, List.getElem_toArray, List.getElem_cons_zero, List.getElem_cons_succ, List.setIfInBounds_toArray, List.set_cons_zero, List.set_cons_succ]
  refine wpAnyH_take (i := 14) (oi := ?o515) (v := ?v515) ?i515 (by kernel_rfl) (by kernel_rfl) (by kernel_rfl) ?q515 ?y515 (hHeld) ?r515
  case i515 => exact rfl
  case q515 => exact (fun _ _ _ h => h)
  case y515 =>
    refine Or.inl ⟨by rfl, ?_⟩
    intro w hSw
    (try dsimp only at hSw)
    go_simp
    first | done | rfl
  try simp only [Act.put, List.getElem_toArray, List.getElem_cons_zero, List.getElem_cons_succ, List.setIfInBounds_toArray, List.set_cons_zero, List.set_cons_succ]
  refine wpAnyH_take (i := 15) (oi := ?o516) (v := ?v516) ?i516 (by kernel_rfl) (by kernel_rfl) (by kernel_rfl) ?q516 ?y516 (hHeld) ?r516
  case i516 => exact rfl
  case q516 => exact (fun _ _ _ h => h)
  case y516 =>
    refine Or.inl ⟨by rfl, ?_⟩
    intro w hSw
    (try dsimp only at hSw)
    go_simp
    first | done | rfl
  try simp only [Act.put, List.getElem_toArray, List.getElem_cons_zero, List.getElem_cons_succ, List.setIfInBounds_toArray, List.set_cons_zero, List.set_cons_succ]
  refine wpAnyH_take (i := 16) (oi := ?o517) (v := ?v517) ?i517 (by kernel_rfl) (by kernel_rfl) (by kernel_rfl) ?q517 ?y517 (hHeld) ?r517
  case i517 => exact rfl
  case q517 => exact (fun _ _ _ h => h)
  case y517 =>
    refine Or.inl ⟨by rfl, ?_⟩
    intro w hSw
    (try dsimp only at hSw)
    go_simp
    first | done | rfl
  try simp only [Act.put, List.getElem_toArray, List.getElem_cons_zero, List.getElem_cons_succ, List.setIfInBounds_toArray, List.set_cons_zero, List.set_cons_succ]
  refine wpAnyH_take (i := 17) (oi := ?o518) (v := ?v518) ?i518 (by kernel_rfl) (by kernel_rfl) (by kernel_rfl) ?q518 ?y518 (hHeld) ?r518
  case i518 => exact rfl
  case q518 => exact (fun _ _ _ h => h)
  case y518 =>
    refine Or.inl ⟨by rfl, ?_⟩
    intro w hSw
    (try dsimp only at hSw)
    go_simp
    first | done | rfl
  try simp only [Act.put, List.getElem_toArray, List.getElem_cons_zero, List.getElem_cons_succ, List.setIfInBounds_toArray, List.set_cons_zero, List.set_cons_succ]
  refine wpAnyH_take (i := 19) (oi := ?o519) (v := ?v519) ?i519 (by kernel_rfl) (by kernel_rfl) (by kernel_rfl) ?q519 ?y519 (hHeld) ?r519
  case i519 => exact rfl
  case q519 => exact (fun _ _ _ h => h)
  case y519 =>
    refine Or.inl ⟨by rfl, ?_⟩
    intro w hSw
    (try dsimp only at hSw)
    go_simp
    first | done | rfl
  try simp only [Act.put, List.getElem_toArray, List.getElem_cons_zero, List.getElem_cons_succ, List.setIfInBounds_toArray, List.set_cons_zero, List.set_cons_succ]
  refine wpAnyH_take (i := 20) (oi := ?o520) (v := ?v520) ?i520 (by kernel_rfl) (by kernel_rfl) (by kernel_rfl) ?q520 ?y520 (hHeld) ?r520
  case i520 => exact rfl
  case q520 => exact (fun _ _ _ h => h)
  case y520 =>
    refine Or.inl ⟨by rfl, ?_⟩
    intro w hSw
    (try dsimp only at hSw)
    go_simp
    first | done | rfl
  try simp only [Act.put, List.getElem_toArray, List.getElem_cons_zero, List.getElem_cons_succ, List.setIfInBounds_toArray, List.set_cons_zero, List.set_cons_succ]
  refine wpAnyH_ready (rs := [18]) (by kernel_rfl) (by simp) ?_
  refine AllReadyH.cons (i := 18) (o := ?o521) ?i521 (fun K hK => ?_) AllReadyH.nil
  case i521 => exact rfl
  go_simp
  with_reducible refine (HR1 _ HT.out).mono ?_
  rintro e wl ⟨rfl, rfl⟩
  go_wp2_with fail
  refine hK.out _ _ (HT.out) (fun hHeld => ?_)
  clear hK K
  try simp only [Act.put, List.getElem_toArray, List.getElem_cons_zero, List.getElem_cons_succ, List.setIfInBounds_toArray, List.set_cons_zero, List.set_cons_succ]
  refine wpAnyH_ready (rs := [21]) (by kernel_rfl) (by simp) ?_
  refine AllReadyH.cons (i := 21) (o := ?o522) ?i522 (fun K hK => ?_) AllReadyH.nil
  case i522 => exact rfl
  go_simp
  with_reducible refine (HR2 _ HT.out).mono ?_
  rintro e wl ⟨rfl, rfl⟩
  go_wp2_with fail
  refine hK.out _ _ (HT.out) (fun hHeld => ?_)
  clear hK K
  try simp only [Act.put, List.getElem_toArray, List.getElem_cons_zero, List.getElem_cons_succ, List.setIfInBounds_toArray, List.set_cons_zero, List.set_cons_succ]
  refine wpAnyH_take (i := 22) (oi := ?o523) (v := ?v523) ?i523 (by kernel_rfl) (by kernel_rfl) (by kernel_rfl) ?q523 ?y523 (hHeld) ?r523
  case i523 => exact rfl
  case q523 => exact (fun _ _ _ h => h)
  case y523 =>
    refine Or.inl ⟨by rfl, ?_⟩
    intro w hSw
    (try dsimp only at hSw)
    go_simp
    first | done | rfl
  try simp only [Act.put, List.getElem_toArray, List.getElem_cons_zero, List.getElem_cons_succ, List.setIfInBounds_toArray, List.set_cons_zero, List.set_cons_succ]
  refine wpAnyH_ready (rs := [23]) (by kernel_rfl) (by simp) ?_
  refine AllReadyH.cons (i := 23) (o := ?o524) ?i524 (fun K hK => ?_) AllReadyH.nil
  case i524 => exact rfl
  go_simp
  refine hK.out _ _ (HTW.out) (fun hHeld => ?_)
  clear hK K
  try simp only [Act.put, List.getElem_toArray, List.getElem_cons_zero, List.getElem_cons_succ, List.setIfInBounds_toArray, List.set_cons_zero, List.set_cons_succ]
  refine wpAnyH_done (by kernel_rfl) ?_ _
  go_wp2_with fail
  have hbW := HBW.out
  have hdW := HDW.out
  show bodyPost _ _ _ _ _ ((put6 w1 g (.int .i64 (IntKind.i64.wrap x0)) (.int .i64 (IntKind.i64.wrap x1)) (.int .i64 (IntKind.i64.wrap x2)) (.int .i64 (IntKind.i64.wrap x3)) (.int .i64 n) (.int .i64 m)).drew)
  generalize (put6 w1 g (.int .i64 (IntKind.i64.wrap x0)) (.int .i64 (IntKind.i64.wrap x1)) (.int .i64 (IntKind.i64.wrap x2)) (.int .i64 (IntKind.i64.wrap x3)) (.int .i64 n) (.int .i64 m)).drew = W at hbW hdW ⊢
  obtain ⟨d0, d1, d2, d3, d4, d5, _⟩ := row6 hbW
  have e0 : IntKind.i64.wrap x0 = x0 := by rw [IntKind.wrap_i64]; omega
  have e1 : IntKind.i64.wrap x1 = x1 := by rw [IntKind.wrap_i64]; omega
  have e2 : IntKind.i64.wrap x2 = x2 := by rw [IntKind.wrap_i64]; omega
  have e3 : IntKind.i64.wrap x3 = x3 := by rw [IntKind.wrap_i64]; omega
  rw [e0] at d0
  rw [e1] at d1
  rw [e2] at d2
  rw [e3] at d3
  refine bodyPost_ret (v := .agg #[.int .i64 x0, .int .i64 x1, .int .i64 x2, .int .i64 x3, .int .i64 n, .int .i64 m]) (by simp [results, Tryd.results17, go_sem, d0, d1, d2, d3, d4, d5]) rfl ⟨rfl, by rw [HG.out]; exact hdW⟩
end Go.Proofs.YtcidckmocmdijaaDoor

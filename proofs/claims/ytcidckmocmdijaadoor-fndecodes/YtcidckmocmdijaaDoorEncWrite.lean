/- Bytes written into a row of bytes of one's own: four of a number, twelve of an instruction. -/
import Derived.Test.YtcidckmocmdijaaDoorEncSpec
namespace Go.Proofs.YtcidckmocmdijaaDoor
open Go.RowKit
set_option linter.unusedVariables false
set_option linter.unusedSimpArgs false
set_option maxRecDepth 100000

/-- Block g is a row of bytes, m. -/
def BB (w : World) (g : Nat) (m : List Int) : Prop := w.heap[g]? = some (.cells (m.map (Value.int .u8)).toArray 5 (0, 0))

theorem BB.cell {w : World} {g i : Nat} {m : List Int} (h : BB w g m) (hi : i < m.length) : w.cell? ⟨g, i, none⟩ = some (.int .u8 (m[i]?.getD 0)) := by
  rw [cell_of_row w g i _ _ (0, 0) h]
  simp [hi]
theorem BB.frozen {w : World} {g : Nat} {m : List Int} (h : BB w g m) (j : Nat) : w.frozen? ⟨g, j, none⟩ = false := frozen_of_row w g j _ _ h
theorem BB.lt {w : World} {g : Nat} {m : List Int} (h : BB w g m) : g < w.heap.size := (Array.getElem?_eq_some_iff.1 h).1
theorem BB.set {w : World} {g i : Nat} {m : List Int} (h : BB w g m) (x : Int) : BB (w.setCell ⟨g, i, none⟩ (.int .u8 x)) g (m.set i x) := by
  unfold BB
  rw [heap_setCell_same w g i _ _ _ h]
  simp
theorem BB.below {w w' : World} {g B : Nat} {m : List Int} (h : BB w g m) (hb : Below B w w') (hg : g < B) : BB w' g m := (hb.block g hg).trans h

def byteAt (n : Int) (j : Nat) : Int := n % 4294967296 / 256 ^ j % 256
def putN (m : List Int) (o : Nat) (n : Int) : Nat → List Int
  | 0 => m
  | j + 1 => (putN m o n j).set (o + j) (byteAt n j)

theorem putN_len (m : List Int) (o : Nat) (n : Int) (j : Nat) : (putN m o n j).length = m.length := by
  induction j with
  | zero => rfl
  | succ j ih => rw [putN, List.length_set, ih]

theorem shift_next (u : Int) (j : Nat) : u / 256 ^ j / 256 = u / 256 ^ (j + 1) := by
  rw [Int.ediv_ediv_of_nonneg (by exact Int.pow_nonneg (by omega)), Int.pow_succ]

theorem shift_in (n : Int) (j : Nat) : 0 ≤ n % 4294967296 / 256 ^ j ∧ n % 4294967296 / 256 ^ j ≤ 4294967295 := by
  have h0 : 0 ≤ n % 4294967296 := by omega
  have h1 : n % 4294967296 ≤ 4294967295 := by omega
  generalize n % 4294967296 = u at *
  have hp : (0 : Int) < 256 ^ j := Int.pow_pos (by omega)
  refine ⟨Int.ediv_nonneg h0 (by omega), Int.le_trans (Int.ediv_le_self _ h0) h1⟩

theorem putN_four (m : List Int) (o : Nat) (n : Int) : putN m o n 4 = (((m.set o (n % 256)).set (o + 1) (n % 4294967296 / 256 % 256)).set (o + 2) (n % 4294967296 / 65536 % 256)).set (o + 3) (n % 4294967296 / 16777216) := by
  have e0 : byteAt n 0 = n % 256 := by simp only [byteAt, Int.pow_zero, Int.ediv_one]; omega
  have e1 : byteAt n 1 = n % 4294967296 / 256 % 256 := by simp [byteAt]
  have e2 : byteAt n 2 = n % 4294967296 / 65536 % 256 := by simp [byteAt]
  have e3 : byteAt n 3 = n % 4294967296 / 16777216 := by
    have : byteAt n 3 = n % 4294967296 / 16777216 % 256 := by simp [byteAt]
    rw [this]; omega
  simp only [putN, e0, e1, e2, e3, Nat.add_zero]

set_option maxHeartbeats 4000000 in
theorem write32M (g o : Nat) (m : List Int) (n : Int) (w : World) (h : BB w g m) (ho : o + 4 ≤ m.length) :
    Calls Tryd.prog 24 #[.slice (some ⟨g, o, none⟩) 4 4, .int .i64 n] w fun e w' => e = .returned (.tuple #[]) ∧ BB w' g (putN m o n 4) ∧ But w w' g := by
  have H0 : Hid (BB w g (putN m o n 0)) := h
  clear h
  go_enter Tryd.func24, Tryd.ntmps24
  go_wp2_with fail
  go_loopw [4, 10] (fun bits i wr => ∃ j : Nat, j ≤ 4 ∧ i = .int .i64 j ∧ bits = .int .u32 (n % 4294967296 / 256 ^ j) ∧ Hid (BB wr g (putN m o n j)) ∧ Hid (But w wr g)) (fun _ i _ => 4 - (intOf i).toNat)
  case atStart => exact ⟨0, Nat.zero_le _, rfl, by simp, H0, But.refl _ _⟩
  case round =>
    obtain ⟨j, hj, rfl, rfl, hw, hb⟩ := hrel
    by_cases hlt : j < 4
    · have hc := hw.out.cell (i := o + j) (by rw [putN_len]; omega)
      have hf := hw.out.frozen (o + j)
      obtain ⟨s0, s1⟩ := shift_in n j
      have hN : Hid (n % 4294967296 / 256 ^ j / 256 = n % 4294967296 / 256 ^ (j + 1)) := shift_next _ _
      have hB : Hid (putN m o n (j + 1) = (putN m o n j).set (o + j) (n % 4294967296 / 256 ^ j % 256)) := rfl
      generalize n % 4294967296 / 256 ^ j = B at *
      generalize (putN m o n j)[o + j]?.getD 0 = old at *
      go_wp2_with fail
      go_roundw
      case rel =>
        refine ⟨j + 1, by omega, by go_num, ?_, ?_, ?_⟩
        · rw [← hN.out]
        · show BB _ _ _
          rw [hB.out]
          exact hw.out.set _
        · exact hb.out.set _ _
      case measure => simp [intOf]; omega
    · have : j = 4 := by omega
      subst this
      go_wp2_with fail
      exact bodyPost_end (results_none rfl _ _ _) rfl ⟨rfl, hw.out, hb.out⟩

def put4 (m : List Int) (o : Nat) (a b c d : Int) : List Int := (((m.set o a).set (o + 1) b).set (o + 2) c).set (o + 3) d
def put12 (m : List Int) (o : Nat) (xo xa xb xc xn xm : Int) : List Int := putN (putN (put4 m o (xo % 256) (xa % 256) (xb % 256) (xc % 256)) (o + 4) xn 4) (o + 8) xm 4

theorem But.drew {w w1 : World} {g : Nat} (h : But w w1 g) : But w w1.drew g := ⟨h.below.drew, h.rest⟩
theorem BB.drew {w : World} {g : Nat} {m : List Int} (h : BB w g m) : BB w.drew g m := h
theorem But.start {w : World} {g : Nat} (o : Obj) (hg : g < w.heap.size) : But w (w.alloc o) g := ⟨(Below.refl _ _).alloc (Nat.le_of_lt hg) _, fun k hk _ => old_block hk⟩

set_option maxHeartbeats 8000000 in
theorem writeM (xo xa xb xc xn xm : Int) (g o : Nat) (m : List Int) (w : World) (h : BB w g m) (ho : o + 12 ≤ m.length) :
    Calls Tryd.prog 10 #[.agg #[.int .i64 xo, .int .i64 xa, .int .i64 xb, .int .i64 xc, .int .i64 xn, .int .i64 xm], .slice (some ⟨g, o, none⟩) 12 12] w fun e w' => e = .returned (.tuple #[]) ∧ BB w' g (put12 m o xo xa xb xc xn xm) ∧ But w w' g := by
  have hlt := h.lt
  have hu := But.start (w := w) (.cells #[.int .i64 xo, .int .i64 xa, .int .i64 xb, .int .i64 xc, .int .i64 xn, .int .i64 xm] 26) hlt
  have hx := heap_new w #[.int .i64 xo, .int .i64 xa, .int .i64 xb, .int .i64 xc, .int .i64 xn, .int .i64 xm] 26
  have hb1 : BB (w.alloc (.cells #[.int .i64 xo, .int .i64 xa, .int .i64 xb, .int .i64 xc, .int .i64 xn, .int .i64 xm] 26)) g m := (old_block hlt).trans h
  have hgx : g ≠ w.heap.size := Nat.ne_of_lt hlt
  have hsz : w.heap.size < (w.alloc (.cells #[.int .i64 xo, .int .i64 xa, .int .i64 xb, .int .i64 xc, .int .i64 xn, .int .i64 xm] 26)).heap.size := by simp
  clear h hlt
  go_enter Tryd.func10, Tryd.ntmps10
  go_upto_region 1 with fail
  generalize w.alloc (.cells #[.int .i64 xo, .int .i64 xa, .int .i64 xb, .int .i64 xc, .int .i64 xn, .int .i64 xm] 26) = w1 at *
  have HU0 : Hid (But w w1 g) := hu
  generalize w.heap.size = gx at *
  have HK : Hid (∀ {wx : World}, But w1 wx g → wx.cell? ⟨gx, 0, none⟩ = some (.int .i64 xo) ∧ wx.cell? ⟨gx, 1, none⟩ = some (.int .i64 xa) ∧ wx.cell? ⟨gx, 2, none⟩ = some (.int .i64 xb) ∧ wx.cell? ⟨gx, 3, none⟩ = some (.int .i64 xc) ∧ wx.cell? ⟨gx, 4, none⟩ = some (.int .i64 xn) ∧ wx.cell? ⟨gx, 5, none⟩ = some (.int .i64 xm)) := by
    intro wx hbx
    obtain ⟨f0, f1, f2, f3, f4, f5, _⟩ := row6 ((hbx.rest gx hsz (Ne.symm hgx)).trans hx)
    exact ⟨f0, f1, f2, f3, f4, f5⟩
  have HwS : Hid (BB w1.drew g m) := hb1
  have UwS : Hid (But w1 w1.drew g) := (But.refl _ _).drew
  clear hu hx hb1 hsz hgx
  refine wp_region_held_drew (S := fun wx => wx.cell? ⟨gx, 0, none⟩ = some (.int .i64 xo) ∧ wx.cell? ⟨gx, 1, none⟩ = some (.int .i64 xa) ∧ wx.cell? ⟨gx, 2, none⟩ = some (.int .i64 xb) ∧ wx.cell? ⟨gx, 3, none⟩ = some (.int .i64 xc) ∧ wx.cell? ⟨gx, 4, none⟩ = some (.int .i64 xn) ∧ wx.cell? ⟨gx, 5, none⟩ = some (.int .i64 xm)) (by kernel_rfl) (HK.out UwS.out) (fun hHeld => ?_)
  generalize w1.drew = wS at HwS UwS hHeld ⊢
  refine wpAnyH_take (i := 0) (oi := ?o501) (v := ?v501) ?i501 (by kernel_rfl) (by kernel_rfl) (by kernel_rfl) ?q501 ?y501 (hHeld) ?r501
  case i501 => exact rfl
  case q501 => exact (fun _ _ _ h => h)
  case y501 =>
    refine Or.inl ⟨by rfl, ?_⟩
    intro w hSw
    (try dsimp only at hSw)
    go_simp
    first | done | rfl
  try simp only [Act.put, List.getElem_toArray, List.getElem_cons_zero, List.getElem_cons_succ, List.setIfInBounds_toArray, List.set_cons_zero, List.set_cons_succ]
  refine wpAnyH_take (i := 1) (oi := ?o502) (v := ?v502) ?i502 (by kernel_rfl) (by kernel_rfl) (by kernel_rfl) ?q502 ?y502 (hHeld) ?r502
  case i502 => exact rfl
  case q502 => exact (fun _ _ _ h => h)
  case y502 =>
    refine Or.inl ⟨by rfl, ?_⟩
    intro w hSw
    (try dsimp only at hSw)
    go_simp
    first | done | rfl
  try simp only [Act.put, List.getElem_toArray, List.getElem_cons_zero, List.getElem_cons_succ, List.setIfInBounds_toArray, List.set_cons_zero, List.set_cons_succ]
  refine wpAnyH_take (i := 2) (oi := ?o503) (v := ?v503) ?i503 (by kernel_rfl) (by kernel_rfl) (by kernel_rfl) ?q503 ?y503 (hHeld) ?r503
  case i503 => exact rfl
  case q503 => exact (fun _ _ _ h => h)
  case y503 =>
    refine Or.inl ⟨by rfl, ?_⟩
    intro w hSw
    (try dsimp only at hSw)
    go_simp
    first | done | rfl
  try simp only [Act.put, List.getElem_toArray, List.getElem_cons_zero, List.getElem_cons_succ, List.setIfInBounds_toArray, List.set_cons_zero, List.set_cons_succ]
  refine wpAnyH_take (i := 3) (oi := ?o504) (v := ?v504) ?i504 (by kernel_rfl) (by kernel_rfl) (by kernel_rfl) ?q504 ?y504 (hHeld) ?r504
  case i504 => exact rfl
  case q504 => exact (fun _ _ _ h => h)
  case y504 =>
    refine Or.inl ⟨by rfl, ?_⟩
    intro w hSw
    (try dsimp only at hSw)
    go_simp
    first | done | rfl
  try simp only [Act.put, List.getElem_toArray, List.getElem_cons_zero, List.getElem_cons_succ, List.setIfInBounds_toArray, List.set_cons_zero, List.set_cons_succ]
  refine wpAnyH_take (i := 4) (oi := ?o505) (v := ?v505) ?i505 (by kernel_rfl) (by kernel_rfl) (by kernel_rfl) ?q505 ?y505 (hHeld) ?r505
  case i505 => exact rfl
  case q505 => exact (fun _ _ _ h => h)
  case y505 =>
    refine Or.inl ⟨by rfl, ?_⟩
    intro w hSw
    (try dsimp only at hSw)
    go_simp
    first | done | rfl
  try simp only [Act.put, List.getElem_toArray, List.getElem_cons_zero, List.getElem_cons_succ, List.setIfInBounds_toArray, List.set_cons_zero, List.set_cons_succ]
  refine wpAnyH_take (i := 5) (oi := ?o506) (v := ?v506) ?i506 (by kernel_rfl) (by kernel_rfl) (by kernel_rfl) ?q506 ?y506 (hHeld) ?r506
  case i506 => exact rfl
  case q506 => exact (fun _ _ _ h => h)
  case y506 =>
    refine Or.inl ⟨by rfl, ?_⟩
    intro w hSw
    (try dsimp only at hSw)
    go_simp
    first | done | rfl
  try simp only [Act.put, List.getElem_toArray, List.getElem_cons_zero, List.getElem_cons_succ, List.setIfInBounds_toArray, List.set_cons_zero, List.set_cons_succ]
  refine wpAnyH_take (i := 6) (oi := ?o507) (v := ?v507) ?i507 (by kernel_rfl) (by kernel_rfl) (by kernel_rfl) ?q507 ?y507 (hHeld) ?r507
  case i507 => exact rfl
  case q507 => exact (fun _ _ _ h => h)
  case y507 =>
    refine Or.inl ⟨by rfl, ?_⟩
    intro w hSw
    (try dsimp only at hSw)
    go_simp
    first | done | rfl
  try simp only [Act.put, List.getElem_toArray, List.getElem_cons_zero, List.getElem_cons_succ, List.setIfInBounds_toArray, List.set_cons_zero, List.set_cons_succ]
  refine wpAnyH_take (i := 7) (oi := ?o508) (v := ?v508) ?i508 (by kernel_rfl) (by kernel_rfl) (by kernel_rfl) ?q508 ?y508 (hHeld) ?r508
  case i508 => exact rfl
  case q508 => exact (fun _ _ _ h => h)
  case y508 =>
    refine Or.inl ⟨by rfl, ?_⟩
    intro w hSw
    (try dsimp only at hSw)
    go_simp
    first | done | rfl
  try simp only [Act.put, List.getElem_toArray, List.getElem_cons_zero, List.getElem_cons_succ, List.setIfInBounds_toArray, List.set_cons_zero, List.set_cons_succ]
  refine wpAnyH_take (i := 8) (oi := ?o509) (v := ?v509) ?i509 (by kernel_rfl) (by kernel_rfl) (by kernel_rfl) ?q509 ?y509 (hHeld) ?r509
  case i509 => exact rfl
  case q509 => exact (fun _ _ _ h => h)
  case y509 =>
    refine Or.inl ⟨by rfl, ?_⟩
    intro w hSw
    (try dsimp only at hSw)
    go_simp
    first | done | rfl
  try simp only [Act.put, List.getElem_toArray, List.getElem_cons_zero, List.getElem_cons_succ, List.setIfInBounds_toArray, List.set_cons_zero, List.set_cons_succ]
  refine wpAnyH_take (i := 9) (oi := ?o510) (v := ?v510) ?i510 (by kernel_rfl) (by kernel_rfl) (by kernel_rfl) ?q510 ?y510 (hHeld) ?r510
  case i510 => exact rfl
  case q510 => exact (fun _ _ _ h => h)
  case y510 =>
    refine Or.inl ⟨by rfl, ?_⟩
    intro w hSw
    (try dsimp only at hSw)
    go_simp
    first | done | rfl
  try simp only [Act.put, List.getElem_toArray, List.getElem_cons_zero, List.getElem_cons_succ, List.setIfInBounds_toArray, List.set_cons_zero, List.set_cons_succ]
  refine wpAnyH_take (i := 10) (oi := ?o511) (v := ?v511) ?i511 (by kernel_rfl) (by kernel_rfl) (by kernel_rfl) ?q511 ?y511 (hHeld) ?r511
  case i511 => exact rfl
  case q511 => exact (fun _ _ _ h => h)
  case y511 =>
    refine Or.inl ⟨by rfl, ?_⟩
    intro w hSw
    (try dsimp only at hSw)
    go_simp
    first | done | rfl
  try simp only [Act.put, List.getElem_toArray, List.getElem_cons_zero, List.getElem_cons_succ, List.setIfInBounds_toArray, List.set_cons_zero, List.set_cons_succ]
  refine wpAnyH_take (i := 11) (oi := ?o512) (v := ?v512) ?i512 (by kernel_rfl) (by kernel_rfl) (by kernel_rfl) ?q512 ?y512 (hHeld) ?r512
  case i512 => exact rfl
  case q512 => exact (fun _ _ _ h => h)
  case y512 =>
    refine Or.inl ⟨by rfl, ?_⟩
    intro w hSw
    (try dsimp only at hSw)
    go_simp
    first | done | rfl
  try simp only [Act.put, List.getElem_toArray, List.getElem_cons_zero, List.getElem_cons_succ, List.setIfInBounds_toArray, List.set_cons_zero, List.set_cons_succ]
  refine wpAnyH_take (i := 12) (oi := ?o513) (v := ?v513) ?i513 (by kernel_rfl) (by kernel_rfl) (by kernel_rfl) ?q513 ?y513 (hHeld) ?r513
  case i513 => exact rfl
  case q513 => exact (fun _ _ _ h => h)
  case y513 =>
    refine Or.inl ⟨by rfl, ?_⟩
    intro w hSw
    (try dsimp only at hSw)
    go_simp
    first | done | rfl
  try simp only [Act.put, List.getElem_toArray, List.getElem_cons_zero, List.getElem_cons_succ, List.setIfInBounds_toArray, List.set_cons_zero, List.set_cons_succ]
  refine wpAnyH_take (i := 13) (oi := ?o514) (v := ?v514) ?i514 (by kernel_rfl) (by kernel_rfl) (by kernel_rfl) ?q514 ?y514 (hHeld) ?r514
  case i514 => exact rfl
  case q514 => exact (fun _ _ _ h => h)
  case y514 =>
    refine Or.inl ⟨by rfl, ?_⟩
    intro w hSw
    (try dsimp only at hSw)
    go_simp
    first | done | rfl
  try simp only [Act.put, List.getElem_toArray, List.getElem_cons_zero, List.getElem_cons_succ, List.setIfInBounds_toArray, List.set_cons_zero, List.set_cons_succ]
  refine wpAnyH_take (i := 14) (oi := ?o515) (v := ?v515) ?i515 (by kernel_rfl) (by kernel_rfl) (by kernel_rfl) ?q515 ?y515 (hHeld) ?r515
  case i515 => exact rfl
  case q515 => exact (fun _ _ _ h => h)
  case y515 =>
    refine Or.inl ⟨by rfl, ?_⟩
    intro w hSw
    (try dsimp only at hSw)
    go_simp
    first | done | rfl
  try simp only [Act.put, List.getElem_toArray, List.getElem_cons_zero, List.getElem_cons_succ, List.setIfInBounds_toArray, List.set_cons_zero, List.set_cons_succ]
  refine wpAnyH_take (i := 15) (oi := ?o516) (v := ?v516) ?i516 (by kernel_rfl) (by kernel_rfl) (by kernel_rfl) ?q516 ?y516 (hHeld) ?r516
  case i516 => exact rfl
  case q516 => exact (fun _ _ _ h => h)
  case y516 =>
    refine Or.inl ⟨by rfl, ?_⟩
    intro w hSw
    (try dsimp only at hSw)
    go_simp
    first | done | rfl
  try simp only [Act.put, List.getElem_toArray, List.getElem_cons_zero, List.getElem_cons_succ, List.setIfInBounds_toArray, List.set_cons_zero, List.set_cons_succ]
  refine wpAnyH_take (i := 16) (oi := ?o517) (v := ?v517) ?i517 (by kernel_rfl) (by kernel_rfl) (by kernel_rfl) ?q517 ?y517 (hHeld) ?r517
  case i517 => exact rfl
  case q517 => exact (fun _ _ _ h => h)
  case y517 =>
    refine Or.inl ⟨by rfl, ?_⟩
    intro w hSw
    (try dsimp only at hSw)
    go_simp
    first | done | rfl
  try simp only [Act.put, List.getElem_toArray, List.getElem_cons_zero, List.getElem_cons_succ, List.setIfInBounds_toArray, List.set_cons_zero, List.set_cons_succ]
  have hc0 := HwS.out.cell (i := o) (by (try simp only [List.length_set]); omega)
  have hf0 := HwS.out.frozen o
  refine wpAnyH_ready (rs := [17]) (by kernel_rfl) (by simp) ?_
  refine AllReadyH.cons (i := 17) (o := ?o518) ?i518 (fun K hK => ?_) AllReadyH.nil
  case i518 => exact rfl
  go_simp
  have hb := HwS.out.set (i := o) (IntKind.u8.wrap xo)
  have hu := UwS.out.set o (.int .u8 (IntKind.u8.wrap xo))
  generalize wS.setCell ⟨g, o, none⟩ (.int .u8 (IntKind.u8.wrap xo)) = w2 at *
  have Hw2 : Hid (BB w2 g _) := hb
  have Uw2 : Hid (But w1 w2 g) := hu
  clear hb hu HwS UwS hc0 hf0
  refine hK.out _ _ (HK.out Uw2.out) (fun hHeld => ?_)
  clear hK K
  try simp only [Act.put, List.getElem_toArray, List.getElem_cons_zero, List.getElem_cons_succ, List.setIfInBounds_toArray, List.set_cons_zero, List.set_cons_succ]
  refine wpAnyH_take (i := 18) (oi := ?o519) (v := ?v519) ?i519 (by kernel_rfl) (by kernel_rfl) (by kernel_rfl) ?q519 ?y519 (hHeld) ?r519
  case i519 => exact rfl
  case q519 => exact (fun _ _ _ h => h)
  case y519 =>
    refine Or.inl ⟨by rfl, ?_⟩
    intro w hSw
    (try dsimp only at hSw)
    go_simp
    first | done | rfl
  try simp only [Act.put, List.getElem_toArray, List.getElem_cons_zero, List.getElem_cons_succ, List.setIfInBounds_toArray, List.set_cons_zero, List.set_cons_succ]
  have hc1 := Hw2.out.cell (i := o + 1) (by (try simp only [List.length_set]); omega)
  have hf1 := Hw2.out.frozen (o + 1)
  refine wpAnyH_ready (rs := [19]) (by kernel_rfl) (by simp) ?_
  refine AllReadyH.cons (i := 19) (o := ?o520) ?i520 (fun K hK => ?_) AllReadyH.nil
  case i520 => exact rfl
  go_simp
  have hb := Hw2.out.set (i := o + 1) (IntKind.u8.wrap xa)
  have hu := Uw2.out.set (o + 1) (.int .u8 (IntKind.u8.wrap xa))
  generalize w2.setCell ⟨g, o + 1, none⟩ (.int .u8 (IntKind.u8.wrap xa)) = w3 at *
  have Hw3 : Hid (BB w3 g _) := hb
  have Uw3 : Hid (But w1 w3 g) := hu
  clear hb hu Hw2 Uw2 hc1 hf1
  refine hK.out _ _ (HK.out Uw3.out) (fun hHeld => ?_)
  clear hK K
  try simp only [Act.put, List.getElem_toArray, List.getElem_cons_zero, List.getElem_cons_succ, List.setIfInBounds_toArray, List.set_cons_zero, List.set_cons_succ]
  refine wpAnyH_take (i := 20) (oi := ?o521) (v := ?v521) ?i521 (by kernel_rfl) (by kernel_rfl) (by kernel_rfl) ?q521 ?y521 (hHeld) ?r521
  case i521 => exact rfl
  case q521 => exact (fun _ _ _ h => h)
  case y521 =>
    refine Or.inl ⟨by rfl, ?_⟩
    intro w hSw
    (try dsimp only at hSw)
    go_simp
    first | done | rfl
  try simp only [Act.put, List.getElem_toArray, List.getElem_cons_zero, List.getElem_cons_succ, List.setIfInBounds_toArray, List.set_cons_zero, List.set_cons_succ]
  have hc2 := Hw3.out.cell (i := o + 2) (by (try simp only [List.length_set]); omega)
  have hf2 := Hw3.out.frozen (o + 2)
  refine wpAnyH_ready (rs := [21]) (by kernel_rfl) (by simp) ?_
  refine AllReadyH.cons (i := 21) (o := ?o522) ?i522 (fun K hK => ?_) AllReadyH.nil
  case i522 => exact rfl
  go_simp
  have hb := Hw3.out.set (i := o + 2) (IntKind.u8.wrap xb)
  have hu := Uw3.out.set (o + 2) (.int .u8 (IntKind.u8.wrap xb))
  generalize w3.setCell ⟨g, o + 2, none⟩ (.int .u8 (IntKind.u8.wrap xb)) = w4 at *
  have Hw4 : Hid (BB w4 g _) := hb
  have Uw4 : Hid (But w1 w4 g) := hu
  clear hb hu Hw3 Uw3 hc2 hf2
  refine hK.out _ _ (HK.out Uw4.out) (fun hHeld => ?_)
  clear hK K
  try simp only [Act.put, List.getElem_toArray, List.getElem_cons_zero, List.getElem_cons_succ, List.setIfInBounds_toArray, List.set_cons_zero, List.set_cons_succ]
  refine wpAnyH_take (i := 22) (oi := ?o523) (v := ?v523) ?i523 (by kernel_rfl) (by kernel_rfl) (by kernel_rfl) ?q523 ?y523 (hHeld) ?r523
  case i523 => exact rfl
  case q523 => exact (fun _ _ _ h => h)
  case y523 =>
    refine Or.inl ⟨by rfl, ?_⟩
    intro w hSw
    (try dsimp only at hSw)
    go_simp
    first | done | rfl
  try simp only [Act.put, List.getElem_toArray, List.getElem_cons_zero, List.getElem_cons_succ, List.setIfInBounds_toArray, List.set_cons_zero, List.set_cons_succ]
  have hc3 := Hw4.out.cell (i := o + 3) (by (try simp only [List.length_set]); omega)
  have hf3 := Hw4.out.frozen (o + 3)
  refine wpAnyH_ready (rs := [23]) (by kernel_rfl) (by simp) ?_
  refine AllReadyH.cons (i := 23) (o := ?o524) ?i524 (fun K hK => ?_) AllReadyH.nil
  case i524 => exact rfl
  go_simp
  have hb := Hw4.out.set (i := o + 3) (IntKind.u8.wrap xc)
  have hu := Uw4.out.set (o + 3) (.int .u8 (IntKind.u8.wrap xc))
  generalize w4.setCell ⟨g, o + 3, none⟩ (.int .u8 (IntKind.u8.wrap xc)) = w5 at *
  have Hw5 : Hid (BB w5 g (put4 m o (IntKind.u8.wrap xo) (IntKind.u8.wrap xa) (IntKind.u8.wrap xb) (IntKind.u8.wrap xc))) := hb
  have Uw5 : Hid (But w1 w5 g) := hu
  clear hb hu Hw4 Uw4 hc3 hf3
  refine hK.out _ _ (HK.out Uw5.out) (fun hHeld => ?_)
  clear hK K
  try simp only [Act.put, List.getElem_toArray, List.getElem_cons_zero, List.getElem_cons_succ, List.setIfInBounds_toArray, List.set_cons_zero, List.set_cons_succ]
  refine wpAnyH_done (by kernel_rfl) ?_ _
  go_upto_region 2 with fail
  have Hd : Hid (BB w5.drew g (put4 m o (IntKind.u8.wrap xo) (IntKind.u8.wrap xa) (IntKind.u8.wrap xb) (IntKind.u8.wrap xc))) := Hw5.out
  have Ud : Hid (But w1 w5.drew g) := Uw5.out.drew
  refine wp_region_held_drew (S := fun wx => wx.cell? ⟨gx, 0, none⟩ = some (.int .i64 xo) ∧ wx.cell? ⟨gx, 1, none⟩ = some (.int .i64 xa) ∧ wx.cell? ⟨gx, 2, none⟩ = some (.int .i64 xb) ∧ wx.cell? ⟨gx, 3, none⟩ = some (.int .i64 xc) ∧ wx.cell? ⟨gx, 4, none⟩ = some (.int .i64 xn) ∧ wx.cell? ⟨gx, 5, none⟩ = some (.int .i64 xm)) (by kernel_rfl) (HK.out Ud.out) (fun hHeld => ?_)
  generalize w5.drew = wd at Hd Ud hHeld ⊢
  clear Hw5 Uw5
  refine wpAnyH_take (i := 0) (oi := ?o525) (v := ?v525) ?i525 (by kernel_rfl) (by kernel_rfl) (by kernel_rfl) ?q525 ?y525 (hHeld) ?r525
  case i525 => exact rfl
  case q525 => exact (fun _ _ _ h => h)
  case y525 =>
    refine Or.inl ⟨by rfl, ?_⟩
    intro w hSw
    (try dsimp only at hSw)
    go_simp
    first | done | rfl
  try simp only [Act.put, List.getElem_toArray, List.getElem_cons_zero, List.getElem_cons_succ, List.setIfInBounds_toArray, List.set_cons_zero, List.set_cons_succ]
  refine wpAnyH_take (i := 1) (oi := ?o526) (v := ?v526) ?i526 (by kernel_rfl) (by kernel_rfl) (by kernel_rfl) ?q526 ?y526 (hHeld) ?r526
  case i526 => exact rfl
  case q526 => exact (fun _ _ _ h => h)
  case y526 =>
    refine Or.inl ⟨by rfl, ?_⟩
    intro w hSw
    (try dsimp only at hSw)
    go_simp
    first | done | rfl
  try simp only [Act.put, List.getElem_toArray, List.getElem_cons_zero, List.getElem_cons_succ, List.setIfInBounds_toArray, List.set_cons_zero, List.set_cons_succ]
  refine wpAnyH_take (i := 2) (oi := ?o527) (v := ?v527) ?i527 (by kernel_rfl) (by kernel_rfl) (by kernel_rfl) ?q527 ?y527 (hHeld) ?r527
  case i527 => exact rfl
  case q527 => exact (fun _ _ _ h => h)
  case y527 =>
    refine Or.inl ⟨by rfl, ?_⟩
    intro w hSw
    (try dsimp only at hSw)
    go_simp
    first | done | rfl
  try simp only [Act.put, List.getElem_toArray, List.getElem_cons_zero, List.getElem_cons_succ, List.setIfInBounds_toArray, List.set_cons_zero, List.set_cons_succ]
  refine wpAnyH_take (i := 3) (oi := ?o528) (v := ?v528) ?i528 (by kernel_rfl) (by kernel_rfl) (by kernel_rfl) ?q528 ?y528 (hHeld) ?r528
  case i528 => exact rfl
  case q528 => exact (fun _ _ _ h => h)
  case y528 =>
    refine Or.inl ⟨by rfl, ?_⟩
    intro w hSw
    (try dsimp only at hSw)
    go_simp
    first | done | rfl
  try simp only [Act.put, List.getElem_toArray, List.getElem_cons_zero, List.getElem_cons_succ, List.setIfInBounds_toArray, List.set_cons_zero, List.set_cons_succ]
  refine wpAnyH_ready (rs := [4]) (by kernel_rfl) (by simp) ?_
  refine AllReadyH.cons (i := 4) (o := ?o529) ?i529 (fun K hK => ?_) AllReadyH.nil
  case i529 => exact rfl
  go_simp
  (with_reducible refine (write32M g (o + 4) _ xn wd Hd.out (by (try simp only [putN_len, put4, List.length_set]); omega)).mono ?_)
  rintro e w6 ⟨rfl, hb, hu⟩
  have Hw6 : Hid (BB w6 g (putN (put4 m o (IntKind.u8.wrap xo) (IntKind.u8.wrap xa) (IntKind.u8.wrap xb) (IntKind.u8.wrap xc)) (o + 4) xn 4)) := hb
  have Uw6 : Hid (But w1 w6 g) := Ud.out.trans hu
  clear hb hu Hd Ud
  go_wp2_with fail
  refine hK.out _ _ (HK.out Uw6.out) (fun hHeld => ?_)
  clear hK K
  try simp only [Act.put, List.getElem_toArray, List.getElem_cons_zero, List.getElem_cons_succ, List.setIfInBounds_toArray, List.set_cons_zero, List.set_cons_succ]
  refine wpAnyH_done (by kernel_rfl) ?_ _
  go_upto_region 3 with fail
  have Hd : Hid (BB w6.drew g (putN (put4 m o (IntKind.u8.wrap xo) (IntKind.u8.wrap xa) (IntKind.u8.wrap xb) (IntKind.u8.wrap xc)) (o + 4) xn 4)) := Hw6.out
  have Ud : Hid (But w1 w6.drew g) := Uw6.out.drew
  refine wp_region_held_drew (S := fun wx => wx.cell? ⟨gx, 0, none⟩ = some (.int .i64 xo) ∧ wx.cell? ⟨gx, 1, none⟩ = some (.int .i64 xa) ∧ wx.cell? ⟨gx, 2, none⟩ = some (.int .i64 xb) ∧ wx.cell? ⟨gx, 3, none⟩ = some (.int .i64 xc) ∧ wx.cell? ⟨gx, 4, none⟩ = some (.int .i64 xn) ∧ wx.cell? ⟨gx, 5, none⟩ = some (.int .i64 xm)) (by kernel_rfl) (HK.out Ud.out) (fun hHeld => ?_)
  generalize w6.drew = wd at Hd Ud hHeld ⊢
  clear Hw6 Uw6
  refine wpAnyH_take (i := 0) (oi := ?o530) (v := ?v530) ?i530 (by kernel_rfl) (by kernel_rfl) (by kernel_rfl) ?q530 ?y530 (hHeld) ?r530
  case i530 => exact rfl
  case q530 => exact (fun _ _ _ h => h)
  case y530 =>
    refine Or.inl ⟨by rfl, ?_⟩
    intro w hSw
    (try dsimp only at hSw)
    go_simp
    first | done | rfl
  try simp only [Act.put, List.getElem_toArray, List.getElem_cons_zero, List.getElem_cons_succ, List.setIfInBounds_toArray, List.set_cons_zero, List.set_cons_succ]
  refine wpAnyH_take (i := 1) (oi := ?o531) (v := ?v531) ?i531 (by kernel_rfl) (by kernel_rfl) (by kernel_rfl) ?q531 ?y531 (hHeld) ?r531
  case i531 => exact rfl
  case q531 => exact (fun _ _ _ h => h)
  case y531 =>
    refine Or.inl ⟨by rfl, ?_⟩
    intro w hSw
    (try dsimp only at hSw)
    go_simp
    first | done | rfl
  try simp only [Act.put, List.getElem_toArray, List.getElem_cons_zero, List.getElem_cons_succ, List.setIfInBounds_toArray, List.set_cons_zero, List.set_cons_succ]
  refine wpAnyH_take (i := 2) (oi := ?o532) (v := ?v532) ?i532 (by kernel_rfl) (by kernel_rfl) (by kernel_rfl) ?q532 ?y532 (hHeld) ?r532
  case i532 => exact rfl
  case q532 => exact (fun _ _ _ h => h)
  case y532 =>
    refine Or.inl ⟨by rfl, ?_⟩
    intro w hSw
    (try dsimp only at hSw)
    go_simp
    first | done | rfl
  try simp only [Act.put, List.getElem_toArray, List.getElem_cons_zero, List.getElem_cons_succ, List.setIfInBounds_toArray, List.set_cons_zero, List.set_cons_succ]
  refine wpAnyH_take (i := 3) (oi := ?o533) (v := ?v533) ?i533 (by kernel_rfl) (by kernel_rfl) (by kernel_rfl) ?q533 ?y533 (hHeld) ?r533
  case i533 => exact rfl
  case q533 => exact (fun _ _ _ h => h)
  case y533 =>
    refine Or.inl ⟨by rfl, ?_⟩
    intro w hSw
    (try dsimp only at hSw)
    go_simp
    first | done | rfl
  try simp only [Act.put, List.getElem_toArray, List.getElem_cons_zero, List.getElem_cons_succ, List.setIfInBounds_toArray, List.set_cons_zero, List.set_cons_succ]
  refine wpAnyH_ready (rs := [4]) (by kernel_rfl) (by simp) ?_
  refine AllReadyH.cons (i := 4) (o := ?o534) ?i534 (fun K hK => ?_) AllReadyH.nil
  case i534 => exact rfl
  go_simp
  (with_reducible refine (write32M g (o + 8) _ xm wd Hd.out (by (try simp only [putN_len, put4, List.length_set]); omega)).mono ?_)
  rintro e w7 ⟨rfl, hb, hu⟩
  have Hw7 : Hid (BB w7 g (putN (putN (put4 m o (IntKind.u8.wrap xo) (IntKind.u8.wrap xa) (IntKind.u8.wrap xb) (IntKind.u8.wrap xc)) (o + 4) xn 4) (o + 8) xm 4)) := hb
  have Uw7 : Hid (But w1 w7 g) := Ud.out.trans hu
  clear hb hu Hd Ud
  go_wp2_with fail
  refine hK.out _ _ (HK.out Uw7.out) (fun hHeld => ?_)
  clear hK K
  try simp only [Act.put, List.getElem_toArray, List.getElem_cons_zero, List.getElem_cons_succ, List.setIfInBounds_toArray, List.set_cons_zero, List.set_cons_succ]
  refine wpAnyH_done (by kernel_rfl) ?_ _
  go_wp2_with fail
  refine bodyPost_end (results_none rfl _ _ _) rfl ⟨rfl, ?_, HU0.out.trans Uw7.out⟩
  have := Hw7.out
  simp only [IntKind.wrap_u8] at this
  exact this
end Go.Proofs.YtcidckmocmdijaaDoor

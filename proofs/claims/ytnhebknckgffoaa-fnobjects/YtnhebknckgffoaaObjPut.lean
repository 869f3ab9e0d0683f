/- Objects as bytes: exports and imports, by the program. -/
import Derived.Test.YtnhebknckgffoaaObjPure
import Derived.Test.YtnhebknckgffoaaPackF
import Derived.Deep.RegionHeld3
import Derived.Deep.Cut
import Derived.Deep.CutRange
namespace Go.Proofs.Ytnhebknckgffoaa
open Go.RowKit
set_option linter.unusedVariables false
set_option linter.unusedSimpArgs false
set_option maxRecDepth 100000

def exB (d : D3) : List Int := match d with
  | ⟨.b l, .n p, .n q⟩ => textL l ++ putL p ++ putL q
  | _ => []
def imB (d : D3) : List Int := match d with
  | ⟨.b l, .b l2, .n p⟩ => textL l ++ textL l2 ++ putL p
  | _ => []
def listB (f : D3 → List Int) : List D3 → List Int
  | [] => []
  | d :: l => f d ++ listB f l

theorem listB_append (f : D3 → List Int) (l m : List D3) : listB f (l ++ m) = listB f l ++ listB f m := by
  induction l with
  | nil => rfl
  | cons x l ih => simp [listB, ih]

theorem listB_next {f : D3 → List Int} {ds : List D3} {k : Nat} {d : D3} (h : ds[k]? = some d) : listB f (ds.take (k + 1)) = listB f (ds.take k) ++ f d := by
  obtain ⟨hk, rfl⟩ := List.getElem?_eq_some_iff.1 h
  rw [List.take_succ_eq_append_getElem hk, listB_append]
  simp [listB]

theorem exB_len (d : D3) : (exB d).length ≤ 100 := by
  unfold exB
  split
  · rename_i l p q
    have h1 := textL_le l
    have h2 := putL_len p
    have h3 := putL_len q
    simp only [List.length_append]; omega
  · simp
theorem imB_len (d : D3) : (imB d).length ≤ 100 := by
  unfold imB
  split
  · rename_i l l2 p
    have h1 := textL_le l
    have h2 := textL_le l2
    have h3 := putL_len p
    simp only [List.length_append]; omega
  · simp
theorem listB_len {f : D3 → List Int} (hf : ∀ d, (f d).length ≤ 100) (ds : List D3) : (listB f ds).length ≤ 100 * ds.length := by
  induction ds with
  | nil => simp [listB]
  | cons x l ih => have := hf x; simp [listB]; omega

set_option maxHeartbeats 4000000 in
theorem putExportM (a : Option Addr) (n c : Nat) (l : List Int) (ax : Option Addr) (cx : Nat) (lx : List Int) (p q : Int) (w : World) (h : BRow w a n l) (hn : n ≤ 1000000) (hx : BRow w ax lx.length lx) (hnx : lx.length ≤ 1048576) :
    Calls Try.prog 16 #[.slice a n c, .agg #[.slice ax lx.length cx, .int .i64 p, .int .i64 q]] w fun e w' => ∃ a' c', e = .returned (.slice a' (n + (exB ⟨.b lx, .n p, .n q⟩).length) c') ∧ Made w w' a' (n + (exB ⟨.b lx, .n p, .n q⟩).length) c' (l ++ exB ⟨.b lx, .n p, .n q⟩) := by
  have t1 := textL_le lx
  have t2 := putL_len p
  have t3 := putL_len q
  have HL : Hid (exB ⟨.b lx, .n p, .n q⟩ = textL lx ++ putL p ++ putL q) := rfl
  have x0 := B3.new w 43 (.slice ax lx.length cx) (.int .i64 p) (.int .i64 q)
  have y0 : Below w.heap.size w (w.alloc (.cells #[.slice ax lx.length cx, .int .i64 p, .int .i64 q] 43 (0, 0))) := (Below.refl _ _).alloc (Nat.le_refl _) _
  go_enter Try.func16, Try.ntmps16
  go_upto_region 1 with fail
  generalize w.alloc (.cells #[.slice ax lx.length cx, .int .i64 p, .int .i64 q] 43 (0, 0)) = w0 at *
  have HS : ∀ {wl : World}, Below w0.heap.size w0 wl → (wl.cell? ⟨w.heap.size, 0, none⟩ = some (.slice ax lx.length cx) ∧ wl.cell? ⟨w.heap.size, 1, none⟩ = some (.int .i64 p) ∧ wl.cell? ⟨w.heap.size, 2, none⟩ = some (.int .i64 q)) := fun hb => by
    obtain ⟨c0, c1, c2, _, _, _⟩ := (x0.below hb x0.lt).facts
    exact ⟨c0, c1, c2⟩
  have HS0 := HS (wl := w0.drew) (Below.refl _ _).drew
  have r0 : BRow w0.drew a n l := h.below y0.drew
  have rx0 : BRow w0.drew ax lx.length lx := hx.below y0.drew
  clear h hx
  refine wp_region_held_drew (S := fun wl => (wl.cell? ⟨w.heap.size, 0, none⟩ = some (.slice ax lx.length cx) ∧ wl.cell? ⟨w.heap.size, 1, none⟩ = some (.int .i64 p) ∧ wl.cell? ⟨w.heap.size, 2, none⟩ = some (.int .i64 q))) (by kernel_rfl) HS0 (fun hHeld => ?_)
  refine wpAnyH_take (i := 0) (oi := ?o501) (v := ?v501) ?i501 (by kernel_rfl) (by kernel_rfl) (by kernel_rfl) ?q501 ?y501 (hHeld) ?r501
  case i501 => exact rfl
  case q501 => exact (fun _ _ _ h => h)
  case y501 =>
    refine Or.inl ⟨by rfl, ?_⟩
    intro w hSw
    (try dsimp only at hSw)
    go_simp
    first | done | rfl
  try simp only [Act.put, List.getElem_toArray, List.getElem_cons_zero, List.getElem_cons_succ, List.setIfInBounds_toArray, List.set_cons_zero, List.set_cons_succ]
  refine wpAnyH_take (i := 1) (oi := ?o502) (v := ?v502) ?i502 (by kernel_rfl) (by kernel_rfl) (by kernel_rfl) ?q502 ?y502 (hHeld) ?r502
  case i502 => exact rfl
  case q502 => exact (fun _ _ _ h => h)
  case y502 =>
    refine Or.inl ⟨by rfl, ?_⟩
    intro w hSw
    (try dsimp only at hSw)
    go_simp
    first | done | rfl
  try simp only [Act.put, List.getElem_toArray, List.getElem_cons_zero, List.getElem_cons_succ, List.setIfInBounds_toArray, List.set_cons_zero, List.set_cons_succ]
  refine wpAnyH_take (i := 2) (oi := ?o503) (v := ?v503) ?i503 (by kernel_rfl) (by kernel_rfl) (by kernel_rfl) ?q503 ?y503 (hHeld) ?r503
  case i503 => exact rfl
  case q503 => exact (fun _ _ _ h => h)
  case y503 =>
    refine Or.inl ⟨by rfl, ?_⟩
    intro w hSw
    (try dsimp only at hSw)
    go_simp
    first | done | rfl
  try simp only [Act.put, List.getElem_toArray, List.getElem_cons_zero, List.getElem_cons_succ, List.setIfInBounds_toArray, List.set_cons_zero, List.set_cons_succ]
  refine wpAnyH_take (i := 4) (oi := ?o504) (v := ?v504) ?i504 (by kernel_rfl) (by kernel_rfl) (by kernel_rfl) ?q504 ?y504 (hHeld) ?r504
  case i504 => exact rfl
  case q504 => exact (fun _ _ _ h => h)
  case y504 =>
    refine Or.inl ⟨by rfl, ?_⟩
    intro w hSw
    (try dsimp only at hSw)
    go_simp
    first | done | rfl
  try simp only [Act.put, List.getElem_toArray, List.getElem_cons_zero, List.getElem_cons_succ, List.setIfInBounds_toArray, List.set_cons_zero, List.set_cons_succ]
  refine wpAnyH_take (i := 5) (oi := ?o505) (v := ?v505) ?i505 (by kernel_rfl) (by kernel_rfl) (by kernel_rfl) ?q505 ?y505 (hHeld) ?r505
  case i505 => exact rfl
  case q505 => exact (fun _ _ _ h => h)
  case y505 =>
    refine Or.inl ⟨by rfl, ?_⟩
    intro w hSw
    (try dsimp only at hSw)
    go_simp
    first | done | rfl
  try simp only [Act.put, List.getElem_toArray, List.getElem_cons_zero, List.getElem_cons_succ, List.setIfInBounds_toArray, List.set_cons_zero, List.set_cons_succ]
  refine wpAnyH_take (i := 7) (oi := ?o506) (v := ?v506) ?i506 (by kernel_rfl) (by kernel_rfl) (by kernel_rfl) ?q506 ?y506 (hHeld) ?r506
  case i506 => exact rfl
  case q506 => exact (fun _ _ _ h => h)
  case y506 =>
    refine Or.inl ⟨by rfl, ?_⟩
    intro w hSw
    (try dsimp only at hSw)
    go_simp
    first | done | rfl
  try simp only [Act.put, List.getElem_toArray, List.getElem_cons_zero, List.getElem_cons_succ, List.setIfInBounds_toArray, List.set_cons_zero, List.set_cons_succ]
  refine wpAnyH_take (i := 8) (oi := ?o507) (v := ?v507) ?i507 (by kernel_rfl) (by kernel_rfl) (by kernel_rfl) ?q507 ?y507 (hHeld) ?r507
  case i507 => exact rfl
  case q507 => exact (fun _ _ _ h => h)
  case y507 =>
    refine Or.inl ⟨by rfl, ?_⟩
    intro w hSw
    (try dsimp only at hSw)
    go_simp
    first | done | rfl
  try simp only [Act.put, List.getElem_toArray, List.getElem_cons_zero, List.getElem_cons_succ, List.setIfInBounds_toArray, List.set_cons_zero, List.set_cons_succ]
  refine wpAnyH_ready (rs := [3]) (by kernel_rfl) (by simp) ?_
  refine AllReadyH.cons (i := 3) (o := ?o508) ?i508 (fun K hK => ?_) AllReadyH.nil
  case i508 => exact rfl
  go_simp
  (with_reducible refine (implTextM a n c l ax lx.length cx lx w0.drew r0 rx0 (by omega) (by omega)).mono ?_)
  rintro e w1 ⟨a1, c1, rfl, m1⟩
  have b1 : Below w0.heap.size w0 w1 := (Below.refl w0.heap.size w0).drew.trans m1.below
  have HS1 := HS b1
  have r1 := m1.row
  go_wp2_with fail
  refine hK.out _ _ (HS1) (fun hHeld => ?_)
  clear hK K
  try simp only [Act.put, List.getElem_toArray, List.getElem_cons_zero, List.getElem_cons_succ, List.setIfInBounds_toArray, List.set_cons_zero, List.set_cons_succ]
  refine wpAnyH_ready (rs := [6]) (by kernel_rfl) (by simp) ?_
  refine AllReadyH.cons (i := 6) (o := ?o509) ?i509 (fun K hK => ?_) AllReadyH.nil
  case i509 => exact rfl
  go_simp
  (with_reducible refine (implPutM a1 (n + (textL lx).length) c1 (l ++ textL lx) p w1 r1 (by omega)).mono ?_)
  rintro e w2 ⟨a2, c2, rfl, m2⟩
  have b2 : Below w0.heap.size w0 w2 := b1.trans (m2.below.mono b1.size)
  have HS2 := HS b2
  have r2 := m2.row
  go_wp2_with fail
  refine hK.out _ _ (HS2) (fun hHeld => ?_)
  clear hK K
  try simp only [Act.put, List.getElem_toArray, List.getElem_cons_zero, List.getElem_cons_succ, List.setIfInBounds_toArray, List.set_cons_zero, List.set_cons_succ]
  refine wpAnyH_ready (rs := [9]) (by kernel_rfl) (by simp) ?_
  refine AllReadyH.cons (i := 9) (o := ?o510) ?i510 (fun K hK => ?_) AllReadyH.nil
  case i510 => exact rfl
  go_simp
  (with_reducible refine (implPutM a2 (n + (textL lx).length + (putL p).length) c2 (l ++ textL lx ++ putL p) q w2 r2 (by omega)).mono ?_)
  rintro e w3 ⟨a3, c3, rfl, m3⟩
  have b3 : Below w0.heap.size w0 w3 := b2.trans (m3.below.mono b2.size)
  have HS3 := HS b3
  go_wp2_with fail
  refine hK.out _ _ (HS3) (fun hHeld => ?_)
  clear hK K
  try simp only [Act.put, List.getElem_toArray, List.getElem_cons_zero, List.getElem_cons_succ, List.setIfInBounds_toArray, List.set_cons_zero, List.set_cons_succ]
  refine wpAnyH_take (i := 10) (oi := ?o511) (v := ?v511) ?i511 (by kernel_rfl) (by kernel_rfl) (by kernel_rfl) ?q511 ?y511 (hHeld) ?r511
  case i511 => exact rfl
  case q511 => exact (fun _ _ _ h => h)
  case y511 =>
    refine Or.inl ⟨by rfl, ?_⟩
    intro w hSw
    (try dsimp only at hSw)
    go_simp
    first | done | rfl
  try simp only [Act.put, List.getElem_toArray, List.getElem_cons_zero, List.getElem_cons_succ, List.setIfInBounds_toArray, List.set_cons_zero, List.set_cons_succ]
  refine wpAnyH_done (by kernel_rfl) ?_ _
  have b0 : Below w.heap.size w w3 := y0.trans (b3.mono y0.size)
  have o3 : Own w3 w.heap.size (.slice a3 (n + (textL lx).length + (putL p).length + (putL q).length) c3) (n + (textL lx).length + (putL p).length + (putL q).length) (l ++ textL lx ++ putL p ++ putL q) := m3.own.mono (Nat.le_trans y0.size b2.size)
  clear m1 m2 m3 r0 rx0 r1 r2 HS0 HS1 HS2 HS3 HS
  go_wp2_with fail
  go_ret
  obtain ⟨a', c', e', hm⟩ := o3.made b0
  simp only [Value.slice.injEq, true_and] at e'
  obtain ⟨rfl, rfl⟩ := e'
  have eL : n + (exB ⟨.b lx, .n p, .n q⟩).length = n + (textL lx).length + (putL p).length + (putL q).length := by rw [HL.out]; simp only [List.length_append]; omega
  have eM : l ++ exB ⟨.b lx, .n p, .n q⟩ = l ++ textL lx ++ putL p ++ putL q := by rw [HL.out]; simp only [List.append_assoc]
  rw [eL, eM]
  exact ⟨_, _, rfl, hm⟩
set_option maxHeartbeats 4000000 in
theorem putImportM (a : Option Addr) (n c : Nat) (l : List Int) (ax : Option Addr) (cx : Nat) (lx : List Int) (ay : Option Addr) (cy : Nat) (ly : List Int) (p : Int) (w : World) (h : BRow w a n l) (hn : n ≤ 1000000) (hx : BRow w ax lx.length lx) (hnx : lx.length ≤ 1048576) (hy : BRow w ay ly.length ly) (hny : ly.length ≤ 1048576) :
    Calls Try.prog 18 #[.slice a n c, .agg #[.slice ax lx.length cx, .slice ay ly.length cy, .int .i64 p]] w fun e w' => ∃ a' c', e = .returned (.slice a' (n + (imB ⟨.b lx, .b ly, .n p⟩).length) c') ∧ Made w w' a' (n + (imB ⟨.b lx, .b ly, .n p⟩).length) c' (l ++ imB ⟨.b lx, .b ly, .n p⟩) := by
  have t1 := textL_le lx
  have t2 := textL_le ly
  have t3 := putL_len p
  have HL : Hid (imB ⟨.b lx, .b ly, .n p⟩ = textL lx ++ textL ly ++ putL p) := rfl
  have x0 := B3.new w 47 (.slice ax lx.length cx) (.slice ay ly.length cy) (.int .i64 p)
  have y0 : Below w.heap.size w (w.alloc (.cells #[.slice ax lx.length cx, .slice ay ly.length cy, .int .i64 p] 47 (0, 0))) := (Below.refl _ _).alloc (Nat.le_refl _) _
  go_enter Try.func18, Try.ntmps18
  go_upto_region 1 with fail
  generalize w.alloc (.cells #[.slice ax lx.length cx, .slice ay ly.length cy, .int .i64 p] 47 (0, 0)) = w0 at *
  have HS : ∀ {wl : World}, Below w0.heap.size w0 wl → (wl.cell? ⟨w.heap.size, 0, none⟩ = some (.slice ax lx.length cx) ∧ wl.cell? ⟨w.heap.size, 1, none⟩ = some (.slice ay ly.length cy) ∧ wl.cell? ⟨w.heap.size, 2, none⟩ = some (.int .i64 p)) := fun hb => by
    obtain ⟨c0, c1, c2, _, _, _⟩ := (x0.below hb x0.lt).facts
    exact ⟨c0, c1, c2⟩
  have HS0 := HS (wl := w0.drew) (Below.refl _ _).drew
  have r0 : BRow w0.drew a n l := h.below y0.drew
  have rx0 : BRow w0.drew ax lx.length lx := hx.below y0.drew
  have ry0 : BRow w0.drew ay ly.length ly := hy.below y0.drew
  clear h hx hy
  refine wp_region_held_drew (S := fun wl => (wl.cell? ⟨w.heap.size, 0, none⟩ = some (.slice ax lx.length cx) ∧ wl.cell? ⟨w.heap.size, 1, none⟩ = some (.slice ay ly.length cy) ∧ wl.cell? ⟨w.heap.size, 2, none⟩ = some (.int .i64 p))) (by kernel_rfl) HS0 (fun hHeld => ?_)
  refine wpAnyH_take (i := 0) (oi := ?o512) (v := ?v512) ?i512 (by kernel_rfl) (by kernel_rfl) (by kernel_rfl) ?q512 ?y512 (hHeld) ?r512
  case i512 => exact rfl
  case q512 => exact (fun _ _ _ h => h)
  case y512 =>
    refine Or.inl ⟨by rfl, ?_⟩
    intro w hSw
    (try dsimp only at hSw)
    go_simp
    first | done | rfl
  try simp only [Act.put, List.getElem_toArray, List.getElem_cons_zero, List.getElem_cons_succ, List.setIfInBounds_toArray, List.set_cons_zero, List.set_cons_succ]
  refine wpAnyH_take (i := 1) (oi := ?o513) (v := ?v513) ?i513 (by kernel_rfl) (by kernel_rfl) (by kernel_rfl) ?q513 ?y513 (hHeld) ?r513
  case i513 => exact rfl
  case q513 => exact (fun _ _ _ h => h)
  case y513 =>
    refine Or.inl ⟨by rfl, ?_⟩
    intro w hSw
    (try dsimp only at hSw)
    go_simp
    first | done | rfl
  try simp only [Act.put, List.getElem_toArray, List.getElem_cons_zero, List.getElem_cons_succ, List.setIfInBounds_toArray, List.set_cons_zero, List.set_cons_succ]
  refine wpAnyH_take (i := 2) (oi := ?o514) (v := ?v514) ?i514 (by kernel_rfl) (by kernel_rfl) (by kernel_rfl) ?q514 ?y514 (hHeld) ?r514
  case i514 => exact rfl
  case q514 => exact (fun _ _ _ h => h)
  case y514 =>
    refine Or.inl ⟨by rfl, ?_⟩
    intro w hSw
    (try dsimp only at hSw)
    go_simp
    first | done | rfl
  try simp only [Act.put, List.getElem_toArray, List.getElem_cons_zero, List.getElem_cons_succ, List.setIfInBounds_toArray, List.set_cons_zero, List.set_cons_succ]
  refine wpAnyH_take (i := 4) (oi := ?o515) (v := ?v515) ?i515 (by kernel_rfl) (by kernel_rfl) (by kernel_rfl) ?q515 ?y515 (hHeld) ?r515
  case i515 => exact rfl
  case q515 => exact (fun _ _ _ h => h)
  case y515 =>
    refine Or.inl ⟨by rfl, ?_⟩
    intro w hSw
    (try dsimp only at hSw)
    go_simp
    first | done | rfl
  try simp only [Act.put, List.getElem_toArray, List.getElem_cons_zero, List.getElem_cons_succ, List.setIfInBounds_toArray, List.set_cons_zero, List.set_cons_succ]
  refine wpAnyH_take (i := 5) (oi := ?o516) (v := ?v516) ?i516 (by kernel_rfl) (by kernel_rfl) (by kernel_rfl) ?q516 ?y516 (hHeld) ?r516
  case i516 => exact rfl
  case q516 => exact (fun _ _ _ h => h)
  case y516 =>
    refine Or.inl ⟨by rfl, ?_⟩
    intro w hSw
    (try dsimp only at hSw)
    go_simp
    first | done | rfl
  try simp only [Act.put, List.getElem_toArray, List.getElem_cons_zero, List.getElem_cons_succ, List.setIfInBounds_toArray, List.set_cons_zero, List.set_cons_succ]
  refine wpAnyH_take (i := 7) (oi := ?o517) (v := ?v517) ?i517 (by kernel_rfl) (by kernel_rfl) (by kernel_rfl) ?q517 ?y517 (hHeld) ?r517
  case i517 => exact rfl
  case q517 => exact (fun _ _ _ h => h)
  case y517 =>
    refine Or.inl ⟨by rfl, ?_⟩
    intro w hSw
    (try dsimp only at hSw)
    go_simp
    first | done | rfl
  try simp only [Act.put, List.getElem_toArray, List.getElem_cons_zero, List.getElem_cons_succ, List.setIfInBounds_toArray, List.set_cons_zero, List.set_cons_succ]
  refine wpAnyH_take (i := 8) (oi := ?o518) (v := ?v518) ?i518 (by kernel_rfl) (by kernel_rfl) (by kernel_rfl) ?q518 ?y518 (hHeld) ?r518
  case i518 => exact rfl
  case q518 => exact (fun _ _ _ h => h)
  case y518 =>
    refine Or.inl ⟨by rfl, ?_⟩
    intro w hSw
    (try dsimp only at hSw)
    go_simp
    first | done | rfl
  try simp only [Act.put, List.getElem_toArray, List.getElem_cons_zero, List.getElem_cons_succ, List.setIfInBounds_toArray, List.set_cons_zero, List.set_cons_succ]
  refine wpAnyH_ready (rs := [3]) (by kernel_rfl) (by simp) ?_
  refine AllReadyH.cons (i := 3) (o := ?o519) ?i519 (fun K hK => ?_) AllReadyH.nil
  case i519 => exact rfl
  go_simp
  (with_reducible refine (implTextM a n c l ax lx.length cx lx w0.drew r0 rx0 (by omega) (by omega)).mono ?_)
  rintro e w1 ⟨a1, c1, rfl, m1⟩
  have b1 : Below w0.heap.size w0 w1 := (Below.refl w0.heap.size w0).drew.trans m1.below
  have HS1 := HS b1
  have r1 := m1.row
  have ry1 := ry0.below m1.below
  go_wp2_with fail
  refine hK.out _ _ (HS1) (fun hHeld => ?_)
  clear hK K
  try simp only [Act.put, List.getElem_toArray, List.getElem_cons_zero, List.getElem_cons_succ, List.setIfInBounds_toArray, List.set_cons_zero, List.set_cons_succ]
  refine wpAnyH_ready (rs := [6]) (by kernel_rfl) (by simp) ?_
  refine AllReadyH.cons (i := 6) (o := ?o520) ?i520 (fun K hK => ?_) AllReadyH.nil
  case i520 => exact rfl
  go_simp
  (with_reducible refine (implTextM a1 (n + (textL lx).length) c1 (l ++ textL lx) ay ly.length cy ly w1 r1 ry1 (by omega) (by omega)).mono ?_)
  rintro e w2 ⟨a2, c2, rfl, m2⟩
  have b2 : Below w0.heap.size w0 w2 := b1.trans (m2.below.mono b1.size)
  have HS2 := HS b2
  have r2 := m2.row
  go_wp2_with fail
  refine hK.out _ _ (HS2) (fun hHeld => ?_)
  clear hK K
  try simp only [Act.put, List.getElem_toArray, List.getElem_cons_zero, List.getElem_cons_succ, List.setIfInBounds_toArray, List.set_cons_zero, List.set_cons_succ]
  refine wpAnyH_ready (rs := [9]) (by kernel_rfl) (by simp) ?_
  refine AllReadyH.cons (i := 9) (o := ?o521) ?i521 (fun K hK => ?_) AllReadyH.nil
  case i521 => exact rfl
  go_simp
  (with_reducible refine (implPutM a2 (n + (textL lx).length + (textL ly).length) c2 (l ++ textL lx ++ textL ly) p w2 r2 (by omega)).mono ?_)
  rintro e w3 ⟨a3, c3, rfl, m3⟩
  have b3 : Below w0.heap.size w0 w3 := b2.trans (m3.below.mono b2.size)
  have HS3 := HS b3
  go_wp2_with fail
  refine hK.out _ _ (HS3) (fun hHeld => ?_)
  clear hK K
  try simp only [Act.put, List.getElem_toArray, List.getElem_cons_zero, List.getElem_cons_succ, List.setIfInBounds_toArray, List.set_cons_zero, List.set_cons_succ]
  refine wpAnyH_take (i := 10) (oi := ?o522) (v := ?v522) ?i522 (by kernel_rfl) (by kernel_rfl) (by kernel_rfl) ?q522 ?y522 (hHeld) ?r522
  case i522 => exact rfl
  case q522 => exact (fun _ _ _ h => h)
  case y522 =>
    refine Or.inl ⟨by rfl, ?_⟩
    intro w hSw
    (try dsimp only at hSw)
    go_simp
    first | done | rfl
  try simp only [Act.put, List.getElem_toArray, List.getElem_cons_zero, List.getElem_cons_succ, List.setIfInBounds_toArray, List.set_cons_zero, List.set_cons_succ]
  refine wpAnyH_done (by kernel_rfl) ?_ _
  have b0 : Below w.heap.size w w3 := y0.trans (b3.mono y0.size)
  have o3 : Own w3 w.heap.size (.slice a3 (n + (textL lx).length + (textL ly).length + (putL p).length) c3) (n + (textL lx).length + (textL ly).length + (putL p).length) (l ++ textL lx ++ textL ly ++ putL p) := m3.own.mono (Nat.le_trans y0.size b2.size)
  clear m1 m2 m3 r0 rx0 ry0 ry1 r1 r2 HS0 HS1 HS2 HS3 HS
  go_wp2_with fail
  go_ret
  obtain ⟨a', c', e', hm⟩ := o3.made b0
  simp only [Value.slice.injEq, true_and] at e'
  obtain ⟨rfl, rfl⟩ := e'
  have eL : n + (imB ⟨.b lx, .b ly, .n p⟩).length = n + (textL lx).length + (textL ly).length + (putL p).length := by rw [HL.out]; simp only [List.length_append]; omega
  have eM : l ++ imB ⟨.b lx, .b ly, .n p⟩ = l ++ textL lx ++ textL ly ++ putL p := by rw [HL.out]; simp only [List.append_assoc]
  rw [eL, eM]
  exact ⟨_, _, rfl, hm⟩
end Go.Proofs.Ytnhebknckgffoaa

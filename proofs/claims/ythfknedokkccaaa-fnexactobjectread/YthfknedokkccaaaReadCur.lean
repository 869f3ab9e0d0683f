/- A cursor behind a pointer: what stands at its place, and how it moves. -/
import Derived.Test.YthfknedokkccaaaReadList
import Derived.Deep.Cut
namespace Go.Proofs.Ythfknedokkccaaa
open Go.RowKit
set_option linter.unusedVariables false
set_option linter.unusedSimpArgs false
set_option maxRecDepth 100000

structure Sc (W w : World) (gc : Nat) (a : Option Addr) (n c : Nat) (l : List Int) (t : Int) : Prop where
  b : w.heap[gc]? = some (.cells #[.slice a n c, .int .i64 t] 37 (0, 0))
  row : BRow W a n l
  bel : Below W.heap.size W w
  low : W.heap.size ≤ gc
  len : n ≤ 1048576
  cap : n ≤ c
  most : c ≤ maxLen
  ok : At l t ∨ t = 2

theorem Sc.rowW {W w : World} {gc : Nat} {a : Option Addr} {n c : Nat} {l : List Int} {t : Int} (h : Sc W w gc a n c l t) : BRow w a n l := h.row.below h.bel
theorem Sc.lt {W w : World} {gc : Nat} {a : Option Addr} {n c : Nat} {l : List Int} {t : Int} (h : Sc W w gc a n c l t) : gc < w.heap.size := lt_of_block h.b
theorem Sc.cells {W w : World} {gc : Nat} {a : Option Addr} {n c : Nat} {l : List Int} {t : Int} (h : Sc W w gc a n c l t) :
    w.cell? ⟨gc, 0, none⟩ = some (.slice a n c) ∧ w.cell? ⟨gc, 1, none⟩ = some (.int .i64 t) :=
  ⟨by rw [cell_of_row w gc 0 _ _ (0, 0) h.b]; rfl, by rw [cell_of_row w gc 1 _ _ (0, 0) h.b]; rfl⟩
theorem Sc.frozen {W w : World} {gc : Nat} {a : Option Addr} {n c : Nat} {l : List Int} {t : Int} (h : Sc W w gc a n c l t) : w.frozen? ⟨gc, 1, none⟩ = false := frozen_of_row w gc 1 _ _ h.b
theorem Sc.below {W w w' : World} {gc : Nat} {a : Option Addr} {n c : Nat} {l : List Int} {t : Int} (h : Sc W w gc a n c l t) (hb : Below w.heap.size w w') : Sc W w' gc a n c l t :=
  ⟨(hb.block gc h.lt).trans h.b, h.row, h.bel.trans (hb.mono h.bel.size), h.low, h.len, h.cap, h.most, h.ok⟩
theorem Sc.put {W w : World} {gc : Nat} {a : Option Addr} {n c : Nat} {l : List Int} {t : Int} (h : Sc W w gc a n c l t) (t' : Int) (ht : At l t') : Sc W (w.setCell ⟨gc, 1, none⟩ (.int .i64 t')) gc a n c l t' :=
  ⟨by rw [heap_setCell_same w gc 1 _ _ _ h.b]; rfl, h.row, h.bel.setCell h.low _, h.low, h.len, h.cap, h.most, .inl ht⟩
theorem Sc.other {W w : World} {gc k : Nat} {a : Option Addr} {n c : Nat} {l : List Int} {t : Int} (h : Sc W w gc a n c l t) (hk : gc ≠ k) (hl : W.heap.size ≤ k) (i : Nat) (v : Value) : Sc W (w.setCell ⟨k, i, none⟩ v) gc a n c l t :=
  ⟨(heap_setCell_other w ⟨k, i, none⟩ gc _ hk).trans h.b, h.row, h.bel.setCell hl _, h.low, h.len, h.cap, h.most, h.ok⟩
theorem Sc.grown {W w w' : World} {gc B : Nat} {a : Option Addr} {n c : Nat} {l : List Int} {t : Int} {row : Option Nat} (h : Sc W w gc a n c l t) (hg : w.grownBy w' row) (hr : ∀ g, row = some g → B ≤ g) (hB : gc < B ∧ W.heap.size ≤ B) : Sc W w' gc a n c l t :=
  ⟨(hg.block gc h.lt (fun e => by have := hr _ e.symm; omega)).trans h.b, h.row, h.bel.grown hg h.bel.size (fun k hk => by have := hr k hk; omega), h.low, h.len, h.cap, h.most, h.ok⟩
theorem Sc.range {W w : World} {gc : Nat} {a : Option Addr} {n c : Nat} {l : List Int} {t : Int} (h : Sc W w gc a n c l t) : t = -1 ∨ (0 ≤ t ∧ t ≤ 1048578) := by
  have := h.len
  have := h.row.1
  rcases h.ok with (e | ⟨h1, h2⟩) | e
  · exact .inl e
  · right; omega
  · right; omega

set_option maxHeartbeats 4000000 in
theorem l5textM {W w : World} {gc : Nat} {a : Option Addr} {n c : Nat} {l : List Int} {t : Int} (h : Sc W w gc a n c l t) :
    Calls Try.prog 12 #[.pointer (some ⟨gc, 0, none⟩)] w fun e w' => ∃ a' n' c', e = .returned (.slice a' n' c') ∧ n' = (getT l t).1.length ∧ (Fd.b (getT l t).1).Has w' w.heap.size (.slice a' n' c') ∧ Sc W w' gc a n c l (getT l t).2 ∧ KeepO [some gc] w w' := by
  have hr := h.range
  have hat := getT_at h.row.2.1 t
  have hlt := h.lt
  obtain ⟨k1, k2⟩ := h.cells
  have H : Hid (Sc W w gc a n c l t) := h
  clear h
  by_cases hneg : t < 0
  · have e : t = -1 := by omega
    subst e
    rw [getT_neg hneg]
    clear hat
    go_enter Try.func12, Try.ntmps12
    go_wp2_with fail
    go_ret
    exact ⟨none, 0, 0, rfl, rfl, ⟨none, 0, rfl, ⟨World.ownsRow_nil _ _ _ _, by simp⟩⟩, H.out, KeepO.refl _ _⟩
  · have H1 := fun (wx : World) (hb : Below w.heap.size w wx) => specTextGetM a n c l t wx (H.out.rowW.below hb) (by have := H.out.len; omega) H.out.cap H.out.most (by omega)
    have HG : Hid (At l (getT l t).2) := hat
    clear hat
    generalize getT l t = g at *
    obtain ⟨x, y⟩ := g
    go_enter Try.func12, Try.ntmps12
    go_upto_region 3 with fail
    have S1 : Hid (Sc W w.drew gc a n c l t) := H.out.below (Below.refl _ _).drew
    refine wp_region_held_drew (S := fun wx => wx.cell? ⟨gc, 0, none⟩ = some (.slice a n c) ∧ wx.cell? ⟨gc, 1, none⟩ = some (.int .i64 t)) (by kernel_rfl) S1.out.cells (fun hHeld => ?_)
    refine wpAnyH_take (i := 0) (oi := ?o501) (v := ?v501) ?i501 (by kernel_rfl) (by kernel_rfl) (by kernel_rfl) ?q501 ?y501 (hHeld) ?r501
    case i501 => exact rfl
    case q501 => exact (fun _ _ _ h => h)
    case y501 =>
      refine Or.inl ⟨by rfl, ?_⟩
      intro w hSw
      (try dsimp only at hSw)
      go_simp
      first | done | rfl
    try simp only [Act.put, List.getElem_toArray, List.getElem_cons_zero, List.getElem_cons_succ, List.setIfInBounds_toArray, List.set_cons_zero, List.set_cons_succ]
    refine wpAnyH_take (i := 1) (oi := ?o502) (v := ?v502) ?i502 (by kernel_rfl) (by kernel_rfl) (by kernel_rfl) ?q502 ?y502 (hHeld) ?r502
    case i502 => exact rfl
    case q502 => exact (fun _ _ _ h => h)
    case y502 =>
      refine Or.inl ⟨by rfl, ?_⟩
      intro w hSw
      (try dsimp only at hSw)
      go_simp
      first | done | rfl
    try simp only [Act.put, List.getElem_toArray, List.getElem_cons_zero, List.getElem_cons_succ, List.setIfInBounds_toArray, List.set_cons_zero, List.set_cons_succ]
    refine wpAnyH_take (i := 2) (oi := ?o503) (v := ?v503) ?i503 (by kernel_rfl) (by kernel_rfl) (by kernel_rfl) ?q503 ?y503 (hHeld) ?r503
    case i503 => exact rfl
    case q503 => exact (fun _ _ _ h => h)
    case y503 =>
      refine Or.inl ⟨by rfl, ?_⟩
      intro w hSw
      (try dsimp only at hSw)
      go_simp
      first | done | rfl
    try simp only [Act.put, List.getElem_toArray, List.getElem_cons_zero, List.getElem_cons_succ, List.setIfInBounds_toArray, List.set_cons_zero, List.set_cons_succ]
    refine wpAnyH_take (i := 3) (oi := ?o504) (v := ?v504) ?i504 (by kernel_rfl) (by kernel_rfl) (by kernel_rfl) ?q504 ?y504 (hHeld) ?r504
    case i504 => exact rfl
    case q504 => exact (fun _ _ _ h => h)
    case y504 =>
      refine Or.inl ⟨by rfl, ?_⟩
      intro w hSw
      (try dsimp only at hSw)
      go_simp
      first | done | rfl
    try simp only [Act.put, List.getElem_toArray, List.getElem_cons_zero, List.getElem_cons_succ, List.setIfInBounds_toArray, List.set_cons_zero, List.set_cons_succ]
    refine wpAnyH_take (i := 4) (oi := ?o505) (v := ?v505) ?i505 (by kernel_rfl) (by kernel_rfl) (by kernel_rfl) ?q505 ?y505 (hHeld) ?r505
    case i505 => exact rfl
    case q505 => exact (fun _ _ _ h => h)
    case y505 =>
      refine Or.inl ⟨by rfl, ?_⟩
      intro w hSw
      (try dsimp only at hSw)
      go_simp
      first | done | rfl
    try simp only [Act.put, List.getElem_toArray, List.getElem_cons_zero, List.getElem_cons_succ, List.setIfInBounds_toArray, List.set_cons_zero, List.set_cons_succ]
    refine wpAnyH_take (i := 5) (oi := ?o506) (v := ?v506) ?i506 (by kernel_rfl) (by kernel_rfl) (by kernel_rfl) ?q506 ?y506 (hHeld) ?r506
    case i506 => exact rfl
    case q506 => exact (fun _ _ _ h => h)
    case y506 =>
      refine Or.inl ⟨by rfl, ?_⟩
      intro w hSw
      (try dsimp only at hSw)
      go_simp
      first | done | rfl
    try simp only [Act.put, List.getElem_toArray, List.getElem_cons_zero, List.getElem_cons_succ, List.setIfInBounds_toArray, List.set_cons_zero, List.set_cons_succ]
    refine wpAnyH_take (i := 6) (oi := ?o507) (v := ?v507) ?i507 (by kernel_rfl) (by kernel_rfl) (by kernel_rfl) ?q507 ?y507 (hHeld) ?r507
    case i507 => exact rfl
    case q507 => exact (fun _ _ _ h => h)
    case y507 =>
      refine Or.inl ⟨by rfl, ?_⟩
      intro w hSw
      (try dsimp only at hSw)
      go_simp
      first | done | rfl
    try simp only [Act.put, List.getElem_toArray, List.getElem_cons_zero, List.getElem_cons_succ, List.setIfInBounds_toArray, List.set_cons_zero, List.set_cons_succ]
    refine wpAnyH_take (i := 7) (oi := ?o508) (v := ?v508) ?i508 (by kernel_rfl) (by kernel_rfl) (by kernel_rfl) ?q508 ?y508 (hHeld) ?r508
    case i508 => exact rfl
    case q508 => exact (fun _ _ _ h => h)
    case y508 =>
      refine Or.inl ⟨by rfl, ?_⟩
      intro w hSw
      (try dsimp only at hSw)
      go_simp
      first | done | rfl
    try simp only [Act.put, List.getElem_toArray, List.getElem_cons_zero, List.getElem_cons_succ, List.setIfInBounds_toArray, List.set_cons_zero, List.set_cons_succ]
    refine wpAnyH_ready (rs := [8]) (by kernel_rfl) (by simp) ?_
    refine AllReadyH.cons (i := 8) (o := ?o509) ?i509 (fun K hK => ?_) AllReadyH.nil
    case i509 => exact rfl
    go_simp
    (with_reducible refine (H1 _ (Below.refl _ _).drew).mono ?_)
    rintro e w1 ⟨a', n', c', rfl, hm⟩
    have hb1 : Below w.heap.size w w1 := (Below.refl w.heap.size w).drew.trans hm.below
    have S2 : Hid (Sc W w1 gc a n c l t) := H.out.below hb1
    have HM : Hid (Made w w1 a' n' c' x) := ⟨hm.own, hm.row, hm.cap, hm.most, hm.nil, hm.block, hb1⟩
    clear hm hb1 H1 S1
    go_wp2_with fail
    refine hK.out _ _ (S2.out.cells) (fun hHeld => ?_)
    clear hK K
    try simp only [Act.put, List.getElem_toArray, List.getElem_cons_zero, List.getElem_cons_succ, List.setIfInBounds_toArray, List.set_cons_zero, List.set_cons_succ]
    refine wpAnyH_take (i := 9) (oi := ?o510) (v := ?v510) ?i510 (by kernel_rfl) (by kernel_rfl) (by kernel_rfl) ?q510 ?y510 (hHeld) ?r510
    case i510 => exact rfl
    case q510 => exact (fun _ _ _ h => h)
    case y510 =>
      refine Or.inl ⟨by rfl, ?_⟩
      intro w hSw
      (try dsimp only at hSw)
      go_simp
      first | done | rfl
    try simp only [Act.put, List.getElem_toArray, List.getElem_cons_zero, List.getElem_cons_succ, List.setIfInBounds_toArray, List.set_cons_zero, List.set_cons_succ]
    refine wpAnyH_take (i := 10) (oi := ?o511) (v := ?v511) ?i511 (by kernel_rfl) (by kernel_rfl) (by kernel_rfl) ?q511 ?y511 (hHeld) ?r511
    case i511 => exact rfl
    case q511 => exact (fun _ _ _ h => h)
    case y511 =>
      refine Or.inl ⟨by rfl, ?_⟩
      intro w hSw
      (try dsimp only at hSw)
      go_simp
      first | done | rfl
    try simp only [Act.put, List.getElem_toArray, List.getElem_cons_zero, List.getElem_cons_succ, List.setIfInBounds_toArray, List.set_cons_zero, List.set_cons_succ]
    refine wpAnyH_take (i := 11) (oi := ?o512) (v := ?v512) ?i512 (by kernel_rfl) (by kernel_rfl) (by kernel_rfl) ?q512 ?y512 (hHeld) ?r512
    case i512 => exact rfl
    case q512 => exact (fun _ _ _ h => h)
    case y512 =>
      refine Or.inl ⟨by rfl, ?_⟩
      intro w hSw
      (try dsimp only at hSw)
      go_simp
      first | done | rfl
    try simp only [Act.put, List.getElem_toArray, List.getElem_cons_zero, List.getElem_cons_succ, List.setIfInBounds_toArray, List.set_cons_zero, List.set_cons_succ]
    refine wpAnyH_take (i := 12) (oi := ?o513) (v := ?v513) ?i513 (by kernel_rfl) (by kernel_rfl) (by kernel_rfl) ?q513 ?y513 (hHeld) ?r513
    case i513 => exact rfl
    case q513 => exact (fun _ _ _ h => h)
    case y513 =>
      refine Or.inl ⟨by rfl, ?_⟩
      intro w hSw
      (try dsimp only at hSw)
      go_simp
      first | done | rfl
    try simp only [Act.put, List.getElem_toArray, List.getElem_cons_zero, List.getElem_cons_succ, List.setIfInBounds_toArray, List.set_cons_zero, List.set_cons_succ]
    refine wpAnyH_take (i := 13) (oi := ?o514) (v := ?v514) ?i514 (by kernel_rfl) (by kernel_rfl) (by kernel_rfl) ?q514 ?y514 (hHeld) ?r514
    case i514 => exact rfl
    case q514 => exact (fun _ _ _ h => h)
    case y514 =>
      refine Or.inl ⟨by rfl, ?_⟩
      intro w hSw
      (try dsimp only at hSw)
      go_simp
      first | done | rfl
    try simp only [Act.put, List.getElem_toArray, List.getElem_cons_zero, List.getElem_cons_succ, List.setIfInBounds_toArray, List.set_cons_zero, List.set_cons_succ]
    refine wpAnyH_done (by kernel_rfl) ?_ _
    have k3 := S2.out.frozen
    have k4 := S2.out.cells.2
    clear k1 k2
    go_wp2_with fail
    go_ret
    have hm : Made w w1 a' n' c' x := HM.out
    have hn : n' = x.length := hm.row.1.symm
    subst hn
    refine ⟨_, _, _, rfl, rfl, ⟨_, _, rfl, hm.own.other ?_⟩, S2.out.put _ HG.out, (Below.keepO hm.below _).trans (keep_set _ _ _ _)⟩
    intro e
    have := (hm.block gc e).1
    omega

set_option maxHeartbeats 4000000 in
theorem l5getM {W w : World} {gc : Nat} {a : Option Addr} {n c : Nat} {l : List Int} {t : Int} (h : Sc W w gc a n c l t) (m : Int) (hm0 : 0 ≤ m) :
    Calls Try.prog 13 #[.pointer (some ⟨gc, 0, none⟩), .int .i64 m] w fun e w' => e = .returned (.int .i64 (cnt l m t).1) ∧ Sc W w' gc a n c l (cnt l m t).2 ∧ KeepO [some gc] w w' := by
  have hr := h.range
  have hat := cnt_at h.row.2.1 m t
  have hlt := h.lt
  obtain ⟨k1, k2⟩ := h.cells
  have H : Hid (Sc W w gc a n c l t) := h
  have hok := getL_ok l t h.row.2.1
  clear h
  by_cases hneg : t < 0
  · have e : t = -1 := by omega
    subst e
    rw [cnt_neg hneg hm0]
    clear hat hok
    go_enter Try.func13, Try.ntmps13
    go_wp2_with fail
    go_ret
    exact ⟨rfl, H.out, KeepO.refl _ _⟩
  · have H1 := fun (wx : World) (hb : Below w.heap.size w wx) => specGetM a n c l t wx (H.out.rowW.below hb) (by have := H.out.len; omega) (by omega)
    have HC : Hid (cnt l m t = if m < (getL l t).1 then (0, -1) else getL l t) := by show _ = _; rfl
    have HG : Hid (At l (cnt l m t).2) := hat
    clear hat
    generalize getL l t = g at *
    obtain ⟨x, y⟩ := g
    have hok2 : (x = 0 ∧ y = -1) ∨ (0 < y ∧ 0 ≤ x ∧ x ≤ 2147483647) := by
      rcases hok with e | ⟨h1, h2, h3, h4⟩
      · left; simpa using e
      · right; exact ⟨h3, h1, h2⟩
    clear hok
    go_enter Try.func13, Try.ntmps13
    go_upto_region 3 with fail
    have S1 : Hid (Sc W w.drew gc a n c l t) := H.out.below (Below.refl _ _).drew
    refine wp_region_held_drew (S := fun wx => wx.cell? ⟨gc, 0, none⟩ = some (.slice a n c) ∧ wx.cell? ⟨gc, 1, none⟩ = some (.int .i64 t)) (by kernel_rfl) S1.out.cells (fun hHeld => ?_)
    refine wpAnyH_take (i := 0) (oi := ?o515) (v := ?v515) ?i515 (by kernel_rfl) (by kernel_rfl) (by kernel_rfl) ?q515 ?y515 (hHeld) ?r515
    case i515 => exact rfl
    case q515 => exact (fun _ _ _ h => h)
    case y515 =>
      refine Or.inl ⟨by rfl, ?_⟩
      intro w hSw
      (try dsimp only at hSw)
      go_simp
      first | done | rfl
    try simp only [Act.put, List.getElem_toArray, List.getElem_cons_zero, List.getElem_cons_succ, List.setIfInBounds_toArray, List.set_cons_zero, List.set_cons_succ]
    refine wpAnyH_take (i := 1) (oi := ?o516) (v := ?v516) ?i516 (by kernel_rfl) (by kernel_rfl) (by kernel_rfl) ?q516 ?y516 (hHeld) ?r516
    case i516 => exact rfl
    case q516 => exact (fun _ _ _ h => h)
    case y516 =>
      refine Or.inl ⟨by rfl, ?_⟩
      intro w hSw
      (try dsimp only at hSw)
      go_simp
      first | done | rfl
    try simp only [Act.put, List.getElem_toArray, List.getElem_cons_zero, List.getElem_cons_succ, List.setIfInBounds_toArray, List.set_cons_zero, List.set_cons_succ]
    refine wpAnyH_take (i := 2) (oi := ?o517) (v := ?v517) ?i517 (by kernel_rfl) (by kernel_rfl) (by kernel_rfl) ?q517 ?y517 (hHeld) ?r517
    case i517 => exact rfl
    case q517 => exact (fun _ _ _ h => h)
    case y517 =>
      refine Or.inl ⟨by rfl, ?_⟩
      intro w hSw
      (try dsimp only at hSw)
      go_simp
      first | done | rfl
    try simp only [Act.put, List.getElem_toArray, List.getElem_cons_zero, List.getElem_cons_succ, List.setIfInBounds_toArray, List.set_cons_zero, List.set_cons_succ]
    refine wpAnyH_take (i := 3) (oi := ?o518) (v := ?v518) ?i518 (by kernel_rfl) (by kernel_rfl) (by kernel_rfl) ?q518 ?y518 (hHeld) ?r518
    case i518 => exact rfl
    case q518 => exact (fun _ _ _ h => h)
    case y518 =>
      refine Or.inl ⟨by rfl, ?_⟩
      intro w hSw
      (try dsimp only at hSw)
      go_simp
      first | done | rfl
    try simp only [Act.put, List.getElem_toArray, List.getElem_cons_zero, List.getElem_cons_succ, List.setIfInBounds_toArray, List.set_cons_zero, List.set_cons_succ]
    refine wpAnyH_take (i := 4) (oi := ?o519) (v := ?v519) ?i519 (by kernel_rfl) (by kernel_rfl) (by kernel_rfl) ?q519 ?y519 (hHeld) ?r519
    case i519 => exact rfl
    case q519 => exact (fun _ _ _ h => h)
    case y519 =>
      refine Or.inl ⟨by rfl, ?_⟩
      intro w hSw
      (try dsimp only at hSw)
      go_simp
      first | done | rfl
    try simp only [Act.put, List.getElem_toArray, List.getElem_cons_zero, List.getElem_cons_succ, List.setIfInBounds_toArray, List.set_cons_zero, List.set_cons_succ]
    refine wpAnyH_take (i := 5) (oi := ?o520) (v := ?v520) ?i520 (by kernel_rfl) (by kernel_rfl) (by kernel_rfl) ?q520 ?y520 (hHeld) ?r520
    case i520 => exact rfl
    case q520 => exact (fun _ _ _ h => h)
    case y520 =>
      refine Or.inl ⟨by rfl, ?_⟩
      intro w hSw
      (try dsimp only at hSw)
      go_simp
      first | done | rfl
    try simp only [Act.put, List.getElem_toArray, List.getElem_cons_zero, List.getElem_cons_succ, List.setIfInBounds_toArray, List.set_cons_zero, List.set_cons_succ]
    refine wpAnyH_take (i := 6) (oi := ?o521) (v := ?v521) ?i521 (by kernel_rfl) (by kernel_rfl) (by kernel_rfl) ?q521 ?y521 (hHeld) ?r521
    case i521 => exact rfl
    case q521 => exact (fun _ _ _ h => h)
    case y521 =>
      refine Or.inl ⟨by rfl, ?_⟩
      intro w hSw
      (try dsimp only at hSw)
      go_simp
      first | done | rfl
    try simp only [Act.put, List.getElem_toArray, List.getElem_cons_zero, List.getElem_cons_succ, List.setIfInBounds_toArray, List.set_cons_zero, List.set_cons_succ]
    refine wpAnyH_take (i := 7) (oi := ?o522) (v := ?v522) ?i522 (by kernel_rfl) (by kernel_rfl) (by kernel_rfl) ?q522 ?y522 (hHeld) ?r522
    case i522 => exact rfl
    case q522 => exact (fun _ _ _ h => h)
    case y522 =>
      refine Or.inl ⟨by rfl, ?_⟩
      intro w hSw
      (try dsimp only at hSw)
      go_simp
      first | done | rfl
    try simp only [Act.put, List.getElem_toArray, List.getElem_cons_zero, List.getElem_cons_succ, List.setIfInBounds_toArray, List.set_cons_zero, List.set_cons_succ]
    refine wpAnyH_ready (rs := [8]) (by kernel_rfl) (by simp) ?_
    refine AllReadyH.cons (i := 8) (o := ?o523) ?i523 (fun K hK => ?_) AllReadyH.nil
    case i523 => exact rfl
    go_simp
    (with_reducible refine (H1 _ (Below.refl _ _).drew).mono ?_)
    rintro e w1 ⟨rfl, hw⟩
    subst hw
    clear H1
    go_wp2_with fail
    refine hK.out _ _ (S1.out.cells) (fun hHeld => ?_)
    clear hK K
    try simp only [Act.put, List.getElem_toArray, List.getElem_cons_zero, List.getElem_cons_succ, List.setIfInBounds_toArray, List.set_cons_zero, List.set_cons_succ]
    refine wpAnyH_take (i := 9) (oi := ?o524) (v := ?v524) ?i524 (by kernel_rfl) (by kernel_rfl) (by kernel_rfl) ?q524 ?y524 (hHeld) ?r524
    case i524 => exact rfl
    case q524 => exact (fun _ _ _ h => h)
    case y524 =>
      refine Or.inl ⟨by rfl, ?_⟩
      intro w hSw
      (try dsimp only at hSw)
      go_simp
      first | done | rfl
    try simp only [Act.put, List.getElem_toArray, List.getElem_cons_zero, List.getElem_cons_succ, List.setIfInBounds_toArray, List.set_cons_zero, List.set_cons_succ]
    refine wpAnyH_take (i := 10) (oi := ?o525) (v := ?v525) ?i525 (by kernel_rfl) (by kernel_rfl) (by kernel_rfl) ?q525 ?y525 (hHeld) ?r525
    case i525 => exact rfl
    case q525 => exact (fun _ _ _ h => h)
    case y525 =>
      refine Or.inl ⟨by rfl, ?_⟩
      intro w hSw
      (try dsimp only at hSw)
      go_simp
      first | done | rfl
    try simp only [Act.put, List.getElem_toArray, List.getElem_cons_zero, List.getElem_cons_succ, List.setIfInBounds_toArray, List.set_cons_zero, List.set_cons_succ]
    refine wpAnyH_take (i := 11) (oi := ?o526) (v := ?v526) ?i526 (by kernel_rfl) (by kernel_rfl) (by kernel_rfl) ?q526 ?y526 (hHeld) ?r526
    case i526 => exact rfl
    case q526 => exact (fun _ _ _ h => h)
    case y526 =>
      refine Or.inl ⟨by rfl, ?_⟩
      intro w hSw
      (try dsimp only at hSw)
      go_simp
      first | done | rfl
    try simp only [Act.put, List.getElem_toArray, List.getElem_cons_zero, List.getElem_cons_succ, List.setIfInBounds_toArray, List.set_cons_zero, List.set_cons_succ]
    refine wpAnyH_take (i := 12) (oi := ?o527) (v := ?v527) ?i527 (by kernel_rfl) (by kernel_rfl) (by kernel_rfl) ?q527 ?y527 (hHeld) ?r527
    case i527 => exact rfl
    case q527 => exact (fun _ _ _ h => h)
    case y527 =>
      refine Or.inl ⟨by rfl, ?_⟩
      intro w hSw
      (try dsimp only at hSw)
      go_simp
      first | done | rfl
    try simp only [Act.put, List.getElem_toArray, List.getElem_cons_zero, List.getElem_cons_succ, List.setIfInBounds_toArray, List.set_cons_zero, List.set_cons_succ]
    refine wpAnyH_take (i := 13) (oi := ?o528) (v := ?v528) ?i528 (by kernel_rfl) (by kernel_rfl) (by kernel_rfl) ?q528 ?y528 (hHeld) ?r528
    case i528 => exact rfl
    case q528 => exact (fun _ _ _ h => h)
    case y528 =>
      refine Or.inl ⟨by rfl, ?_⟩
      intro w hSw
      (try dsimp only at hSw)
      go_simp
      first | done | rfl
    try simp only [Act.put, List.getElem_toArray, List.getElem_cons_zero, List.getElem_cons_succ, List.setIfInBounds_toArray, List.set_cons_zero, List.set_cons_succ]
    refine wpAnyH_done (by kernel_rfl) ?_ _
    have K1 : Hid (KeepO [some gc] w w.drew) := Below.keepO (Below.refl _ _).drew _
    generalize w.drew = w1 at *
    have k3 := S1.out.frozen
    have k4 := S1.out.cells.2
    clear k1 k2
    by_cases hno : y < 0 ∨ m < x
    · have hc : Hid (cnt l m t = (0, -1)) := by
        show _ = _
        rw [HC.out]
        by_cases hm : m < x
        · rw [if_pos hm]
        · rw [if_neg hm]
          rcases hok2 with ⟨rfl, rfl⟩ | h3
          · rfl
          · omega
      rcases Int.lt_or_le y 0 with hy | hy
      · clear hno
        go_wp2_with fail
        go_ret
        have hg := HG.out
        rw [hc.out] at hg ⊢
        exact ⟨rfl, S1.out.put _ hg, K1.out.trans (keep_set _ _ _ _)⟩
      · have hmx : m < x := by omega
        clear hno
        go_wp2_with fail
        go_ret
        have hg := HG.out
        rw [hc.out] at hg ⊢
        exact ⟨rfl, S1.out.put _ hg, K1.out.trans (keep_set _ _ _ _)⟩
    · have hy : 0 ≤ y := by omega
      have hmx : x ≤ m := by omega
      have hc : Hid (cnt l m t = (x, y)) := by
        show _ = _
        rw [HC.out, if_neg (by omega)]
      clear hno
      go_wp2_with fail
      go_ret
      have hg := HG.out
      rw [hc.out] at hg ⊢
      exact ⟨rfl, S1.out.put _ hg, K1.out.trans (keep_set _ _ _ _)⟩
end Go.Proofs.Ythfknedokkccaaa

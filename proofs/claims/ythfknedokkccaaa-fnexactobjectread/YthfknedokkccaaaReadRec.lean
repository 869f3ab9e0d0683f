/- One export, one import, as they stand at the place: by the functions that close over it. -/
import Derived.Test.YthfknedokkccaaaReadSrc
import Derived.Deep.Cut
namespace Go.Proofs.Ythfknedokkccaaa
open Go.RowKit
set_option linter.unusedVariables false
set_option linter.unusedSimpArgs false
set_option maxRecDepth 100000

theorem KeepO.put {os : List (Option Nat)} {w w' : World} {k : Nat} (h : KeepO os w w') (hk : w.heap.size ≤ k) (i : Nat) (v : Value) : KeepO os w (w'.setCell ⟨k, i, none⟩ v) :=
  ⟨h.os, h.tape, h.output, by simpa using h.size, fun g h1 h2 => (heap_setCell_other w' ⟨k, i, none⟩ g v (by simp; omega)).trans (h.block g h1 h2)⟩
theorem Src.other {W w : World} {pb pa ps k : Nat} {a : Option Addr} {n c : Nat} {l : List Int} {t : Int} (h : Src W w pb pa ps a n c l t) (hk : pb < k ∧ pa < k ∧ ps < k ∧ W.heap.size ≤ k) (i : Nat) (v : Value) : Src W (w.setCell ⟨k, i, none⟩ v) pb pa ps a n c l t :=
  ⟨(heap_setCell_other w ⟨k, i, none⟩ pb _ (by simp; omega)).trans h.b, (heap_setCell_other w ⟨k, i, none⟩ pa _ (by simp; omega)).trans h.p, by obtain ⟨y, z, u, v', e⟩ := h.s; exact ⟨y, z, u, v', (heap_setCell_other w ⟨k, i, none⟩ ps _ (by simp; omega)).trans e⟩, h.row, h.bel.setCell hk.2.2.2 _, h.low, h.len, h.cap, h.most, h.nil, h.ok⟩
theorem pw1 (o : Option Nat) : [o, none, none].Pairwise (fun a b => a = none ∨ a ≠ b) := by cases o <;> simp
theorem pw2 {o q : Option Nat} (h : o = none ∨ o ≠ q) : [o, q, none].Pairwise (fun a b => a = none ∨ a ≠ b) := by cases o <;> cases q <;> simp_all
theorem B3.keep {w w' : World} {g : Nat} {t : TypeId} {x y z : Value} {os : List (Option Nat)} (h : B3 w g t x y z) (hk : KeepO os w w') (hn : some g ∉ os) : B3 w' g t x y z := (hk.block g h.lt hn).trans h

/-- Five cells of a block. -/
def B5s (w : World) (g : Nat) (t : TypeId) (o : O5) : Prop := B5 w g t o
theorem B5s.new (w : World) (t : TypeId) (o : O5) : B5s (w.alloc (.cells #[o.x, o.e, o.i, o.d, o.c] t (0, 0))) w.heap.size t o := B5.new w t o
theorem B5s.old {w : World} {g : Nat} {t : TypeId} {o : O5} {ob : Obj} (h : B5s w g t o) : B5s (w.alloc ob) g t o := B5.old h
theorem B5s.below {w w' : World} {g B : Nat} {t : TypeId} {o : O5} (h : B5s w g t o) (hb : Below B w w') (hg : g < B) : B5s w' g t o := B5.below h hb hg
theorem B5s.lt {w : World} {g : Nat} {t : TypeId} {o : O5} (h : B5s w g t o) : g < w.heap.size := B5.lt h
theorem B5s.keep {w w' : World} {g : Nat} {t : TypeId} {o : O5} {os : List (Option Nat)} (h : B5s w g t o) (hk : KeepO os w w') (hn : some g ∉ os) : B5s w' g t o := B5.keep h hk hn
theorem B5s.facts {w : World} {g : Nat} {t : TypeId} {o : O5} (h : B5s w g t o) :
    w.cell? ⟨g, 0, none⟩ = some o.x ∧ w.cell? ⟨g, 1, none⟩ = some o.e ∧ w.cell? ⟨g, 2, none⟩ = some o.i ∧ w.cell? ⟨g, 3, none⟩ = some o.d ∧ w.cell? ⟨g, 4, none⟩ = some o.c := B5.facts h

set_option maxHeartbeats 4000000 in
theorem exportM {W w : World} {pb pa ps : Nat} {a : Option Addr} {n c : Nat} {l : List Int} {t : Int} (h : Src W w pb pa ps a n c l t) (y2 y3 y4 : Value) :
    Calls Try.prog 40 #[.agg #[.func (Fn.func 31) #[] #[.pointer (some ⟨pb, 0, none⟩), .pointer (some ⟨pa, 0, none⟩)], .func (Fn.func 33) #[] #[.pointer (some ⟨pb, 0, none⟩), .pointer (some ⟨pa, 0, none⟩)], y2, y3, y4]] w fun e w' => ∃ r : R3, e = .returned (.agg #[r.x, r.y, r.z]) ∧ Hs w' w.heap.size r (exN l t).1 ∧ Bk w.heap.size w'.heap.size r.owns ∧ Src W w' pb pa ps a n c l (exN l t).2 ∧ KeepO [some pa] w w' := by
  have hpa := lt_of_block h.p
  have hbig0 : Hid (pb < w.heap.size ∧ pa < w.heap.size ∧ ps < w.heap.size ∧ W.heap.size ≤ w.heap.size) := ⟨lt_of_block h.b, lt_of_block h.p, (by obtain ⟨_, _, _, _, e⟩ := h.s; exact lt_of_block e), h.bel.size⟩
  have SF := B5s.new w 51 ⟨.func (Fn.func 31) #[] #[.pointer (some ⟨pb, 0, none⟩), .pointer (some ⟨pa, 0, none⟩)], .func (Fn.func 33) #[] #[.pointer (some ⟨pb, 0, none⟩), .pointer (some ⟨pa, 0, none⟩)], y2, y3, y4⟩
  have x0 := B3.new (w.alloc (.cells #[.func (Fn.func 31) #[] #[.pointer (some ⟨pb, 0, none⟩), .pointer (some ⟨pa, 0, none⟩)], .func (Fn.func 33) #[] #[.pointer (some ⟨pb, 0, none⟩), .pointer (some ⟨pa, 0, none⟩)], y2, y3, y4] 51 (0, 0))) 41 (.slice none 0 0) (.int .i64 0) (.int .i64 0)
  have SF2 := SF.old (ob := .cells #[.slice none 0 0, .int .i64 0, .int .i64 0] 41 (0, 0))
  have y0 : Below w.heap.size w ((w.alloc (.cells #[.func (Fn.func 31) #[] #[.pointer (some ⟨pb, 0, none⟩), .pointer (some ⟨pa, 0, none⟩)], .func (Fn.func 33) #[] #[.pointer (some ⟨pb, 0, none⟩), .pointer (some ⟨pa, 0, none⟩)], y2, y3, y4] 51 (0, 0))).alloc (.cells #[.slice none 0 0, .int .i64 0, .int .i64 0] 41 (0, 0))) := ((Below.refl _ _).alloc (Nat.le_refl _) _).alloc (by simp) _
  have hsz : ((w.alloc (.cells #[.func (Fn.func 31) #[] #[.pointer (some ⟨pb, 0, none⟩), .pointer (some ⟨pa, 0, none⟩)], .func (Fn.func 33) #[] #[.pointer (some ⟨pb, 0, none⟩), .pointer (some ⟨pa, 0, none⟩)], y2, y3, y4] 51 (0, 0))).alloc (.cells #[.slice none 0 0, .int .i64 0, .int .i64 0] 41 (0, 0))).heap.size = w.heap.size + 2 := by simp
  have e1 : (w.alloc (.cells #[.func (Fn.func 31) #[] #[.pointer (some ⟨pb, 0, none⟩), .pointer (some ⟨pa, 0, none⟩)], .func (Fn.func 33) #[] #[.pointer (some ⟨pb, 0, none⟩), .pointer (some ⟨pa, 0, none⟩)], y2, y3, y4] 51 (0, 0))).heap.size = w.heap.size + 1 := by simp
  rw [e1] at x0
  have S0 : Hid (Src W ((w.alloc (.cells #[.func (Fn.func 31) #[] #[.pointer (some ⟨pb, 0, none⟩), .pointer (some ⟨pa, 0, none⟩)], .func (Fn.func 33) #[] #[.pointer (some ⟨pb, 0, none⟩), .pointer (some ⟨pa, 0, none⟩)], y2, y3, y4] 51 (0, 0))).alloc (.cells #[.slice none 0 0, .int .i64 0, .int .i64 0] 41 (0, 0))) pb pa ps a n c l t) := h.below y0
  clear SF e1 h
  go_enter Try.func40, Try.ntmps40
  go_upto_region 1 with fail
  generalize ((w.alloc (.cells #[.func (Fn.func 31) #[] #[.pointer (some ⟨pb, 0, none⟩), .pointer (some ⟨pa, 0, none⟩)], .func (Fn.func 33) #[] #[.pointer (some ⟨pb, 0, none⟩), .pointer (some ⟨pa, 0, none⟩)], y2, y3, y4] 51 (0, 0))).alloc (.cells #[.slice none 0 0, .int .i64 0, .int .i64 0] 41 (0, 0))) = w0 at *
  have hw0 : Hid (w0.heap.size = w.heap.size + 2) := hsz
  have K0 : Hid (KeepO [some pa] w w0) := Below.keepO y0 _
  have S1 : Hid (Src W w0.drew pb pa ps a n c l t) := S0.out.below (Below.refl _ _).drew
  have F1 : Hid (B5s w0.drew w.heap.size 51 ⟨.func (Fn.func 31) #[] #[.pointer (some ⟨pb, 0, none⟩), .pointer (some ⟨pa, 0, none⟩)], .func (Fn.func 33) #[] #[.pointer (some ⟨pb, 0, none⟩), .pointer (some ⟨pa, 0, none⟩)], y2, y3, y4⟩) := SF2.below (Below.refl w0.heap.size w0).drew SF2.lt
  have X1 : Hid (B3 w0.drew (w.heap.size + 1) 41 (.slice none 0 0) (.int .i64 0) (.int .i64 0)) := x0.below (Below.refl w0.heap.size w0).drew x0.lt
  have K1 : Hid (KeepO [some pa] w w0.drew) := K0.out.trans (Below.keepO (Below.refl _ _).drew _)
  have hwd : Hid (w0.drew.heap.size = w.heap.size + 2) := hsz
  have hp1 : w.heap.size ≠ pa := by omega
  have hp2 : w.heap.size + 1 ≠ pa := by omega
  clear x0 y0 hsz SF2 S0 K0 hw0
  generalize hgs : w.heap.size = gs at *
  have HGS : Hid (w.heap.size = gs) := hgs
  clear hgs
  have hbig : pb < gs + 1 ∧ pa < gs + 1 ∧ ps < gs + 1 ∧ W.heap.size ≤ gs + 1 := by have := hbig0.out; have := HGS.out; omega
  refine wp_region_held_drew (S := fun wx => wx.cell? ⟨gs, 0, none⟩ = some (.func (Fn.func 31) #[] #[.pointer (some ⟨pb, 0, none⟩), .pointer (some ⟨pa, 0, none⟩)]) ∧ wx.cell? ⟨gs, 1, none⟩ = some (.func (Fn.func 33) #[] #[.pointer (some ⟨pb, 0, none⟩), .pointer (some ⟨pa, 0, none⟩)])) (by kernel_rfl) ⟨F1.out.facts.1, F1.out.facts.2.1⟩ (fun hHeld => ?_)
  generalize w0.drew = wS at *
  clear w0
  refine wpAnyH_take (i := 0) (oi := ?o501) (v := ?v501) ?i501 (by kernel_rfl) (by kernel_rfl) (by kernel_rfl) ?q501 ?y501 (hHeld) ?r501
  case i501 => exact rfl
  case q501 => exact (fun _ _ _ h => h)
  case y501 =>
    refine Or.inl ⟨by rfl, ?_⟩
    intro w hSw
    (try dsimp only at hSw)
    go_simp
    first | done | rfl
  try simp only [Act.put, List.getElem_toArray, List.getElem_cons_zero, List.getElem_cons_succ, List.setIfInBounds_toArray, List.set_cons_zero, List.set_cons_succ]
  refine wpAnyH_take (i := 1) (oi := ?o502) (v := ?v502) ?i502 (by kernel_rfl) (by kernel_rfl) (by kernel_rfl) ?q502 ?y502 (hHeld) ?r502
  case i502 => exact rfl
  case q502 => exact (fun _ _ _ h => h)
  case y502 =>
    refine Or.inl ⟨by rfl, ?_⟩
    intro w hSw
    (try dsimp only at hSw)
    go_simp
    first | done | rfl
  try simp only [Act.put, List.getElem_toArray, List.getElem_cons_zero, List.getElem_cons_succ, List.setIfInBounds_toArray, List.set_cons_zero, List.set_cons_succ]
  refine wpAnyH_take (i := 3) (oi := ?o503) (v := ?v503) ?i503 (by kernel_rfl) (by kernel_rfl) (by kernel_rfl) ?q503 ?y503 (hHeld) ?r503
  case i503 => exact rfl
  case q503 => exact (fun _ _ _ h => h)
  case y503 =>
    refine Or.inl ⟨by rfl, ?_⟩
    intro w hSw
    (try dsimp only at hSw)
    go_simp
    first | done | rfl
  try simp only [Act.put, List.getElem_toArray, List.getElem_cons_zero, List.getElem_cons_succ, List.setIfInBounds_toArray, List.set_cons_zero, List.set_cons_succ]
  refine wpAnyH_take (i := 4) (oi := ?o504) (v := ?v504) ?i504 (by kernel_rfl) (by kernel_rfl) (by kernel_rfl) ?q504 ?y504 (hHeld) ?r504
  case i504 => exact rfl
  case q504 => exact (fun _ _ _ h => h)
  case y504 =>
    refine Or.inl ⟨by rfl, ?_⟩
    intro w hSw
    (try dsimp only at hSw)
    go_simp
    first | done | rfl
  try simp only [Act.put, List.getElem_toArray, List.getElem_cons_zero, List.getElem_cons_succ, List.setIfInBounds_toArray, List.set_cons_zero, List.set_cons_succ]
  refine wpAnyH_take (i := 6) (oi := ?o505) (v := ?v505) ?i505 (by kernel_rfl) (by kernel_rfl) (by kernel_rfl) ?q505 ?y505 (hHeld) ?r505
  case i505 => exact rfl
  case q505 => exact (fun _ _ _ h => h)
  case y505 =>
    refine Or.inl ⟨by rfl, ?_⟩
    intro w hSw
    (try dsimp only at hSw)
    go_simp
    first | done | rfl
  try simp only [Act.put, List.getElem_toArray, List.getElem_cons_zero, List.getElem_cons_succ, List.setIfInBounds_toArray, List.set_cons_zero, List.set_cons_succ]
  refine wpAnyH_take (i := 7) (oi := ?o506) (v := ?v506) ?i506 (by kernel_rfl) (by kernel_rfl) (by kernel_rfl) ?q506 ?y506 (hHeld) ?r506
  case i506 => exact rfl
  case q506 => exact (fun _ _ _ h => h)
  case y506 =>
    refine Or.inl ⟨by rfl, ?_⟩
    intro w hSw
    (try dsimp only at hSw)
    go_simp
    first | done | rfl
  try simp only [Act.put, List.getElem_toArray, List.getElem_cons_zero, List.getElem_cons_succ, List.setIfInBounds_toArray, List.set_cons_zero, List.set_cons_succ]
  refine wpAnyH_ready (rs := [2]) (by kernel_rfl) (by simp) ?_
  refine AllReadyH.cons (i := 2) (o := ?o507) ?i507 (fun K hK => ?_) AllReadyH.nil
  case i507 => exact rfl
  go_simp
  (with_reducible refine (textM S1.out).mono ?_)
  rintro e wa ⟨a0, n0, c0, rfl, en0, hh0, ss, kk⟩
  subst en0
  have S2 : Hid (Src W wa pb pa ps a n c l (getT l t).2) := ss
  have K2 : Hid (KeepO [some pa] w wa) := K1.out.trans kk
  have F2 : Hid (B5s wa gs 51 ⟨.func (Fn.func 31) #[] #[.pointer (some ⟨pb, 0, none⟩), .pointer (some ⟨pa, 0, none⟩)], .func (Fn.func 33) #[] #[.pointer (some ⟨pb, 0, none⟩), .pointer (some ⟨pa, 0, none⟩)], y2, y3, y4⟩) := F1.out.keep kk (by simpa using hp1)
  have X2 : Hid (B3 wa (gs + 1) 41 (.slice none 0 0) (.int .i64 0) (.int .i64 0)) := X1.out.keep kk (by simpa using hp2)
  obtain ⟨L0, hL0⟩ : ∃ L, L = wS.heap.size := ⟨_, rfl⟩
  have H00 : Hid ((Fd.b (getT l t).1).Has wa L0 (.slice a0 (getT l t).1.length c0)) := by rw [hL0]; exact hh0
  have B0 : Hid (∀ g, (Value.slice a0 (getT l t).1.length c0).ownBlock = some g → L0 ≤ g ∧ g < wa.heap.size ∧ gs + 2 ≤ g) := fun g hg => by have h1 := hh0.lt g hg; have := hL0; have := hwd.out; omega
  have G0 : Hid (gs + 2 ≤ L0) := by show gs + 2 ≤ L0; have := K1.out.size; have := hwd.out; have := hL0; omega
  have Z0 : Hid (gs + 2 ≤ wa.heap.size) := by show gs + 2 ≤ wa.heap.size; have := kk.size; have := hwd.out; omega
  have M00 : Hid (wa.heap.size ≤ wa.heap.size) := by show wa.heap.size ≤ wa.heap.size; omega
  clear ss kk hh0
  go_wp2_with fail
  refine hK.out _ _ (⟨F2.out.facts.1, F2.out.facts.2.1⟩) (fun hHeld => ?_)
  clear hK K
  try simp only [Act.put, List.getElem_toArray, List.getElem_cons_zero, List.getElem_cons_succ, List.setIfInBounds_toArray, List.set_cons_zero, List.set_cons_succ]
  refine wpAnyH_ready (rs := [5]) (by kernel_rfl) (by simp) ?_
  refine AllReadyH.cons (i := 5) (o := ?o508) ?i508 (fun K hK => ?_) AllReadyH.nil
  case i508 => exact rfl
  go_simp
  (with_reducible refine (numM S2.out).mono ?_)
  rintro e wb ⟨rfl, ss, kk⟩
  have S3 : Hid (Src W wb pb pa ps a n c l (getL l (getT l t).2).2) := ss
  have K3 : Hid (KeepO [some pa] w wb) := K2.out.trans kk
  have F3 : Hid (B5s wb gs 51 ⟨.func (Fn.func 31) #[] #[.pointer (some ⟨pb, 0, none⟩), .pointer (some ⟨pa, 0, none⟩)], .func (Fn.func 33) #[] #[.pointer (some ⟨pb, 0, none⟩), .pointer (some ⟨pa, 0, none⟩)], y2, y3, y4⟩) := F2.out.keep kk (by simpa using hp1)
  have X3 : Hid (B3 wb (gs + 1) 41 (.slice none 0 0) (.int .i64 0) (.int .i64 0)) := X2.out.keep kk (by simpa using hp2)
  have H01 : Hid ((Fd.b (getT l t).1).Has wb L0 (.slice a0 (getT l t).1.length c0)) := H00.out.keep kk (.inr (by intro e; simp at e; have := B0.out pa e; omega))
  have Z1 : Hid (gs + 2 ≤ wb.heap.size) := by show gs + 2 ≤ wb.heap.size; have := kk.size; have := hwd.out; have := Z0.out; omega
  have M01 : Hid (wa.heap.size ≤ wb.heap.size) := by show wa.heap.size ≤ wb.heap.size; have := kk.size; have := M00.out; omega
  clear ss kk
  go_wp2_with fail
  refine hK.out _ _ (⟨F3.out.facts.1, F3.out.facts.2.1⟩) (fun hHeld => ?_)
  clear hK K
  try simp only [Act.put, List.getElem_toArray, List.getElem_cons_zero, List.getElem_cons_succ, List.setIfInBounds_toArray, List.set_cons_zero, List.set_cons_succ]
  refine wpAnyH_ready (rs := [8]) (by kernel_rfl) (by simp) ?_
  refine AllReadyH.cons (i := 8) (o := ?o509) ?i509 (fun K hK => ?_) AllReadyH.nil
  case i509 => exact rfl
  go_simp
  (with_reducible refine (numM S3.out).mono ?_)
  rintro e wc ⟨rfl, ss, kk⟩
  have S4 : Hid (Src W wc pb pa ps a n c l (getL l (getL l (getT l t).2).2).2) := ss
  have K4 : Hid (KeepO [some pa] w wc) := K3.out.trans kk
  have F4 : Hid (B5s wc gs 51 ⟨.func (Fn.func 31) #[] #[.pointer (some ⟨pb, 0, none⟩), .pointer (some ⟨pa, 0, none⟩)], .func (Fn.func 33) #[] #[.pointer (some ⟨pb, 0, none⟩), .pointer (some ⟨pa, 0, none⟩)], y2, y3, y4⟩) := F3.out.keep kk (by simpa using hp1)
  have X4 : Hid (B3 wc (gs + 1) 41 (.slice none 0 0) (.int .i64 0) (.int .i64 0)) := X3.out.keep kk (by simpa using hp2)
  have H02 : Hid ((Fd.b (getT l t).1).Has wc L0 (.slice a0 (getT l t).1.length c0)) := H01.out.keep kk (.inr (by intro e; simp at e; have := B0.out pa e; omega))
  have Z2 : Hid (gs + 2 ≤ wc.heap.size) := by show gs + 2 ≤ wc.heap.size; have := kk.size; have := hwd.out; have := Z1.out; omega
  have M02 : Hid (wa.heap.size ≤ wc.heap.size) := by show wa.heap.size ≤ wc.heap.size; have := kk.size; have := M01.out; omega
  clear ss kk
  go_wp2_with fail
  refine hK.out _ _ (⟨F4.out.facts.1, F4.out.facts.2.1⟩) (fun hHeld => ?_)
  clear hK K
  try simp only [Act.put, List.getElem_toArray, List.getElem_cons_zero, List.getElem_cons_succ, List.setIfInBounds_toArray, List.set_cons_zero, List.set_cons_succ]
  refine wpAnyH_take (i := 9) (oi := ?o510) (v := ?v510) ?i510 (by kernel_rfl) (by kernel_rfl) (by kernel_rfl) ?q510 ?y510 (hHeld) ?r510
  case i510 => exact rfl
  case q510 => exact (fun _ _ _ h => h)
  case y510 =>
    refine Or.inl ⟨by rfl, ?_⟩
    intro w hSw
    (try dsimp only at hSw)
    go_simp
    first | done | rfl
  try simp only [Act.put, List.getElem_toArray, List.getElem_cons_zero, List.getElem_cons_succ, List.setIfInBounds_toArray, List.set_cons_zero, List.set_cons_succ]
  obtain ⟨q0, q1, q2, f0, f1, f2⟩ := X4.out.facts
  have X5 : Hid (B3 (((wc.setCell ⟨gs + 1, 0, none⟩ (.slice a0 (getT l t).1.length c0)).setCell ⟨gs + 1, 1, none⟩ (.int .i64 (getL l (getT l t).2).1)).setCell ⟨gs + 1, 2, none⟩ (.int .i64 (getL l (getL l (getT l t).2).2).1)) (gs + 1) 41 (.slice a0 (getT l t).1.length c0) (.int .i64 (getL l (getT l t).2).1) (.int .i64 (getL l (getL l (getT l t).2).2).1)) := ((X4.out.set0 _).set1 _).set2 _
  have hs5 : Hid ((((wc.setCell ⟨gs + 1, 0, none⟩ (.slice a0 (getT l t).1.length c0)).setCell ⟨gs + 1, 1, none⟩ (.int .i64 (getL l (getT l t).2).1)).setCell ⟨gs + 1, 2, none⟩ (.int .i64 (getL l (getL l (getT l t).2).2).1)).heap.size = wc.heap.size) := by show _ = _; simp
  have S5 : Hid (Src W (((wc.setCell ⟨gs + 1, 0, none⟩ (.slice a0 (getT l t).1.length c0)).setCell ⟨gs + 1, 1, none⟩ (.int .i64 (getL l (getT l t).2).1)).setCell ⟨gs + 1, 2, none⟩ (.int .i64 (getL l (getL l (getT l t).2).2).1)) pb pa ps a n c l (getL l (getL l (getT l t).2).2).2) := ((S4.out.other hbig _ _).other hbig _ _).other hbig _ _
  have K5 : Hid (KeepO [some pa] w (((wc.setCell ⟨gs + 1, 0, none⟩ (.slice a0 (getT l t).1.length c0)).setCell ⟨gs + 1, 1, none⟩ (.int .i64 (getL l (getT l t).2).1)).setCell ⟨gs + 1, 2, none⟩ (.int .i64 (getL l (getL l (getT l t).2).2).1))) := ((K4.out.put (by have := HGS.out; omega) _ _).put (by have := HGS.out; omega) _ _).put (by have := HGS.out; omega) _ _
  have F5 : Hid (B5s (((wc.setCell ⟨gs + 1, 0, none⟩ (.slice a0 (getT l t).1.length c0)).setCell ⟨gs + 1, 1, none⟩ (.int .i64 (getL l (getT l t).2).1)).setCell ⟨gs + 1, 2, none⟩ (.int .i64 (getL l (getL l (getT l t).2).2).1)) gs 51 ⟨.func (Fn.func 31) #[] #[.pointer (some ⟨pb, 0, none⟩), .pointer (some ⟨pa, 0, none⟩)], .func (Fn.func 33) #[] #[.pointer (some ⟨pb, 0, none⟩), .pointer (some ⟨pa, 0, none⟩)], y2, y3, y4⟩) := ((B5.other F4.out (by omega)).other (by omega)).other (by omega)
  have H05 : Hid ((Fd.b (getT l t).1).Has (((wc.setCell ⟨gs + 1, 0, none⟩ (.slice a0 (getT l t).1.length c0)).setCell ⟨gs + 1, 1, none⟩ (.int .i64 (getL l (getT l t).2).1)).setCell ⟨gs + 1, 2, none⟩ (.int .i64 (getL l (getL l (getT l t).2).2).1)) L0 (.slice a0 (getT l t).1.length c0)) := ((H02.out.other (by intro e; have := B0.out _ e; omega)).other (by intro e; have := B0.out _ e; omega)).other (by intro e; have := B0.out _ e; omega)
  refine wpAnyH_ready (rs := [10]) (by kernel_rfl) (by simp) ?_
  refine AllReadyH.cons (i := 10) (o := ?o511) ?i511 (fun K hK => ?_) AllReadyH.nil
  case i511 => exact rfl
  go_simp
  clear q0 q1 q2 f0 f1 f2 S4 K4 F4 X4
  generalize hW6 : (((wc.setCell ⟨gs + 1, 0, none⟩ (.slice a0 (getT l t).1.length c0)).setCell ⟨gs + 1, 1, none⟩ (.int .i64 (getL l (getT l t).2).1)).setCell ⟨gs + 1, 2, none⟩ (.int .i64 (getL l (getL l (getT l t).2).2).1)) = w6 at *
  clear hW6
  refine hK.out _ _ (⟨F5.out.facts.1, F5.out.facts.2.1⟩) (fun hHeld => ?_)
  clear hK K
  try simp only [Act.put, List.getElem_toArray, List.getElem_cons_zero, List.getElem_cons_succ, List.setIfInBounds_toArray, List.set_cons_zero, List.set_cons_succ]
  refine wpAnyH_done (by kernel_rfl) ?_ _
  go_wp2_with fail
  obtain ⟨d0, d1, d2, _, _, _⟩ := X5.out.facts
  refine bodyPost_ret (v := .agg #[(.slice a0 (getT l t).1.length c0), (.int .i64 (getL l (getT l t).2).1), (.int .i64 (getL l (getL l (getT l t).2).2).1)]) (by simp [results, Try.results40, go_sem, d0, d1, d2]) rfl ⟨⟨(.slice a0 (getT l t).1.length c0), (.int .i64 (getL l (getT l t).2).1), (.int .i64 (getL l (getL l (getT l t).2).2).1)⟩, rfl, ⟨?_, ?_, ?_⟩, ?_, S5.out, K5.out⟩
  · refine Fd.Has.mono (show (Fd.b _).Has _ _ _ from H05.out) ?_
    have := HGS.out; have := hwd.out; have := G0.out; omega
  · rfl
  · rfl
  · refine ⟨fun g hg => ?_, ?_⟩
    · simp only [R3.owns, List.mem_cons, List.not_mem_nil, or_false] at hg
      rcases hg with e | e | e
      · have := B0.out g e.symm; have := hs5.out; have := HGS.out; have := M02.out; omega
      · cases e
      · cases e
    · exact pw1 _

set_option maxHeartbeats 4000000 in
theorem importedM {W w : World} {pb pa ps : Nat} {a : Option Addr} {n c : Nat} {l : List Int} {t : Int} (h : Src W w pb pa ps a n c l t) (y2 y3 y4 : Value) :
    Calls Try.prog 42 #[.agg #[.func (Fn.func 31) #[] #[.pointer (some ⟨pb, 0, none⟩), .pointer (some ⟨pa, 0, none⟩)], .func (Fn.func 33) #[] #[.pointer (some ⟨pb, 0, none⟩), .pointer (some ⟨pa, 0, none⟩)], y2, y3, y4]] w fun e w' => ∃ r : R3, e = .returned (.agg #[r.x, r.y, r.z]) ∧ Hs w' w.heap.size r (imN l t).1 ∧ Bk w.heap.size w'.heap.size r.owns ∧ Src W w' pb pa ps a n c l (imN l t).2 ∧ KeepO [some pa] w w' := by
  have hpa := lt_of_block h.p
  have hbig0 : Hid (pb < w.heap.size ∧ pa < w.heap.size ∧ ps < w.heap.size ∧ W.heap.size ≤ w.heap.size) := ⟨lt_of_block h.b, lt_of_block h.p, (by obtain ⟨_, _, _, _, e⟩ := h.s; exact lt_of_block e), h.bel.size⟩
  have SF := B5s.new w 51 ⟨.func (Fn.func 31) #[] #[.pointer (some ⟨pb, 0, none⟩), .pointer (some ⟨pa, 0, none⟩)], .func (Fn.func 33) #[] #[.pointer (some ⟨pb, 0, none⟩), .pointer (some ⟨pa, 0, none⟩)], y2, y3, y4⟩
  have x0 := B3.new (w.alloc (.cells #[.func (Fn.func 31) #[] #[.pointer (some ⟨pb, 0, none⟩), .pointer (some ⟨pa, 0, none⟩)], .func (Fn.func 33) #[] #[.pointer (some ⟨pb, 0, none⟩), .pointer (some ⟨pa, 0, none⟩)], y2, y3, y4] 51 (0, 0))) 43 (.slice none 0 0) (.slice none 0 0) (.int .i64 0)
  have SF2 := SF.old (ob := .cells #[.slice none 0 0, .slice none 0 0, .int .i64 0] 43 (0, 0))
  have y0 : Below w.heap.size w ((w.alloc (.cells #[.func (Fn.func 31) #[] #[.pointer (some ⟨pb, 0, none⟩), .pointer (some ⟨pa, 0, none⟩)], .func (Fn.func 33) #[] #[.pointer (some ⟨pb, 0, none⟩), .pointer (some ⟨pa, 0, none⟩)], y2, y3, y4] 51 (0, 0))).alloc (.cells #[.slice none 0 0, .slice none 0 0, .int .i64 0] 43 (0, 0))) := ((Below.refl _ _).alloc (Nat.le_refl _) _).alloc (by simp) _
  have hsz : ((w.alloc (.cells #[.func (Fn.func 31) #[] #[.pointer (some ⟨pb, 0, none⟩), .pointer (some ⟨pa, 0, none⟩)], .func (Fn.func 33) #[] #[.pointer (some ⟨pb, 0, none⟩), .pointer (some ⟨pa, 0, none⟩)], y2, y3, y4] 51 (0, 0))).alloc (.cells #[.slice none 0 0, .slice none 0 0, .int .i64 0] 43 (0, 0))).heap.size = w.heap.size + 2 := by simp
  have e1 : (w.alloc (.cells #[.func (Fn.func 31) #[] #[.pointer (some ⟨pb, 0, none⟩), .pointer (some ⟨pa, 0, none⟩)], .func (Fn.func 33) #[] #[.pointer (some ⟨pb, 0, none⟩), .pointer (some ⟨pa, 0, none⟩)], y2, y3, y4] 51 (0, 0))).heap.size = w.heap.size + 1 := by simp
  rw [e1] at x0
  have S0 : Hid (Src W ((w.alloc (.cells #[.func (Fn.func 31) #[] #[.pointer (some ⟨pb, 0, none⟩), .pointer (some ⟨pa, 0, none⟩)], .func (Fn.func 33) #[] #[.pointer (some ⟨pb, 0, none⟩), .pointer (some ⟨pa, 0, none⟩)], y2, y3, y4] 51 (0, 0))).alloc (.cells #[.slice none 0 0, .slice none 0 0, .int .i64 0] 43 (0, 0))) pb pa ps a n c l t) := h.below y0
  clear SF e1 h
  go_enter Try.func42, Try.ntmps42
  go_upto_region 1 with fail
  generalize ((w.alloc (.cells #[.func (Fn.func 31) #[] #[.pointer (some ⟨pb, 0, none⟩), .pointer (some ⟨pa, 0, none⟩)], .func (Fn.func 33) #[] #[.pointer (some ⟨pb, 0, none⟩), .pointer (some ⟨pa, 0, none⟩)], y2, y3, y4] 51 (0, 0))).alloc (.cells #[.slice none 0 0, .slice none 0 0, .int .i64 0] 43 (0, 0))) = w0 at *
  have hw0 : Hid (w0.heap.size = w.heap.size + 2) := hsz
  have K0 : Hid (KeepO [some pa] w w0) := Below.keepO y0 _
  have S1 : Hid (Src W w0.drew pb pa ps a n c l t) := S0.out.below (Below.refl _ _).drew
  have F1 : Hid (B5s w0.drew w.heap.size 51 ⟨.func (Fn.func 31) #[] #[.pointer (some ⟨pb, 0, none⟩), .pointer (some ⟨pa, 0, none⟩)], .func (Fn.func 33) #[] #[.pointer (some ⟨pb, 0, none⟩), .pointer (some ⟨pa, 0, none⟩)], y2, y3, y4⟩) := SF2.below (Below.refl w0.heap.size w0).drew SF2.lt
  have X1 : Hid (B3 w0.drew (w.heap.size + 1) 43 (.slice none 0 0) (.slice none 0 0) (.int .i64 0)) := x0.below (Below.refl w0.heap.size w0).drew x0.lt
  have K1 : Hid (KeepO [some pa] w w0.drew) := K0.out.trans (Below.keepO (Below.refl _ _).drew _)
  have hwd : Hid (w0.drew.heap.size = w.heap.size + 2) := hsz
  have hp1 : w.heap.size ≠ pa := by omega
  have hp2 : w.heap.size + 1 ≠ pa := by omega
  clear x0 y0 hsz SF2 S0 K0 hw0
  generalize hgs : w.heap.size = gs at *
  have HGS : Hid (w.heap.size = gs) := hgs
  clear hgs
  have hbig : pb < gs + 1 ∧ pa < gs + 1 ∧ ps < gs + 1 ∧ W.heap.size ≤ gs + 1 := by have := hbig0.out; have := HGS.out; omega
  refine wp_region_held_drew (S := fun wx => wx.cell? ⟨gs, 0, none⟩ = some (.func (Fn.func 31) #[] #[.pointer (some ⟨pb, 0, none⟩), .pointer (some ⟨pa, 0, none⟩)]) ∧ wx.cell? ⟨gs, 1, none⟩ = some (.func (Fn.func 33) #[] #[.pointer (some ⟨pb, 0, none⟩), .pointer (some ⟨pa, 0, none⟩)])) (by kernel_rfl) ⟨F1.out.facts.1, F1.out.facts.2.1⟩ (fun hHeld => ?_)
  generalize w0.drew = wS at *
  clear w0
  refine wpAnyH_take (i := 0) (oi := ?o512) (v := ?v512) ?i512 (by kernel_rfl) (by kernel_rfl) (by kernel_rfl) ?q512 ?y512 (hHeld) ?r512
  case i512 => exact rfl
  case q512 => exact (fun _ _ _ h => h)
  case y512 =>
    refine Or.inl ⟨by rfl, ?_⟩
    intro w hSw
    (try dsimp only at hSw)
    go_simp
    first | done | rfl
  try simp only [Act.put, List.getElem_toArray, List.getElem_cons_zero, List.getElem_cons_succ, List.setIfInBounds_toArray, List.set_cons_zero, List.set_cons_succ]
  refine wpAnyH_take (i := 1) (oi := ?o513) (v := ?v513) ?i513 (by kernel_rfl) (by kernel_rfl) (by kernel_rfl) ?q513 ?y513 (hHeld) ?r513
  case i513 => exact rfl
  case q513 => exact (fun _ _ _ h => h)
  case y513 =>
    refine Or.inl ⟨by rfl, ?_⟩
    intro w hSw
    (try dsimp only at hSw)
    go_simp
    first | done | rfl
  try simp only [Act.put, List.getElem_toArray, List.getElem_cons_zero, List.getElem_cons_succ, List.setIfInBounds_toArray, List.set_cons_zero, List.set_cons_succ]
  refine wpAnyH_take (i := 3) (oi := ?o514) (v := ?v514) ?i514 (by kernel_rfl) (by kernel_rfl) (by kernel_rfl) ?q514 ?y514 (hHeld) ?r514
  case i514 => exact rfl
  case q514 => exact (fun _ _ _ h => h)
  case y514 =>
    refine Or.inl ⟨by rfl, ?_⟩
    intro w hSw
    (try dsimp only at hSw)
    go_simp
    first | done | rfl
  try simp only [Act.put, List.getElem_toArray, List.getElem_cons_zero, List.getElem_cons_succ, List.setIfInBounds_toArray, List.set_cons_zero, List.set_cons_succ]
  refine wpAnyH_take (i := 4) (oi := ?o515) (v := ?v515) ?i515 (by kernel_rfl) (by kernel_rfl) (by kernel_rfl) ?q515 ?y515 (hHeld) ?r515
  case i515 => exact rfl
  case q515 => exact (fun _ _ _ h => h)
  case y515 =>
    refine Or.inl ⟨by rfl, ?_⟩
    intro w hSw
    (try dsimp only at hSw)
    go_simp
    first | done | rfl
  try simp only [Act.put, List.getElem_toArray, List.getElem_cons_zero, List.getElem_cons_succ, List.setIfInBounds_toArray, List.set_cons_zero, List.set_cons_succ]
  refine wpAnyH_take (i := 6) (oi := ?o516) (v := ?v516) ?i516 (by kernel_rfl) (by kernel_rfl) (by kernel_rfl) ?q516 ?y516 (hHeld) ?r516
  case i516 => exact rfl
  case q516 => exact (fun _ _ _ h => h)
  case y516 =>
    refine Or.inl ⟨by rfl, ?_⟩
    intro w hSw
    (try dsimp only at hSw)
    go_simp
    first | done | rfl
  try simp only [Act.put, List.getElem_toArray, List.getElem_cons_zero, List.getElem_cons_succ, List.setIfInBounds_toArray, List.set_cons_zero, List.set_cons_succ]
  refine wpAnyH_take (i := 7) (oi := ?o517) (v := ?v517) ?i517 (by kernel_rfl) (by kernel_rfl) (by kernel_rfl) ?q517 ?y517 (hHeld) ?r517
  case i517 => exact rfl
  case q517 => exact (fun _ _ _ h => h)
  case y517 =>
    refine Or.inl ⟨by rfl, ?_⟩
    intro w hSw
    (try dsimp only at hSw)
    go_simp
    first | done | rfl
  try simp only [Act.put, List.getElem_toArray, List.getElem_cons_zero, List.getElem_cons_succ, List.setIfInBounds_toArray, List.set_cons_zero, List.set_cons_succ]
  refine wpAnyH_ready (rs := [2]) (by kernel_rfl) (by simp) ?_
  refine AllReadyH.cons (i := 2) (o := ?o518) ?i518 (fun K hK => ?_) AllReadyH.nil
  case i518 => exact rfl
  go_simp
  (with_reducible refine (textM S1.out).mono ?_)
  rintro e wa ⟨a0, n0, c0, rfl, en0, hh0, ss, kk⟩
  subst en0
  have S2 : Hid (Src W wa pb pa ps a n c l (getT l t).2) := ss
  have K2 : Hid (KeepO [some pa] w wa) := K1.out.trans kk
  have F2 : Hid (B5s wa gs 51 ⟨.func (Fn.func 31) #[] #[.pointer (some ⟨pb, 0, none⟩), .pointer (some ⟨pa, 0, none⟩)], .func (Fn.func 33) #[] #[.pointer (some ⟨pb, 0, none⟩), .pointer (some ⟨pa, 0, none⟩)], y2, y3, y4⟩) := F1.out.keep kk (by simpa using hp1)
  have X2 : Hid (B3 wa (gs + 1) 43 (.slice none 0 0) (.slice none 0 0) (.int .i64 0)) := X1.out.keep kk (by simpa using hp2)
  obtain ⟨L0, hL0⟩ : ∃ L, L = wS.heap.size := ⟨_, rfl⟩
  have H00 : Hid ((Fd.b (getT l t).1).Has wa L0 (.slice a0 (getT l t).1.length c0)) := by rw [hL0]; exact hh0
  have B0 : Hid (∀ g, (Value.slice a0 (getT l t).1.length c0).ownBlock = some g → L0 ≤ g ∧ g < wa.heap.size ∧ gs + 2 ≤ g) := fun g hg => by have h1 := hh0.lt g hg; have := hL0; have := hwd.out; omega
  have G0 : Hid (gs + 2 ≤ L0) := by show gs + 2 ≤ L0; have := K1.out.size; have := hwd.out; have := hL0; omega
  have Z0 : Hid (gs + 2 ≤ wa.heap.size) := by show gs + 2 ≤ wa.heap.size; have := kk.size; have := hwd.out; omega
  have M00 : Hid (wa.heap.size ≤ wa.heap.size) := by show wa.heap.size ≤ wa.heap.size; omega
  clear ss kk hh0
  go_wp2_with fail
  refine hK.out _ _ (⟨F2.out.facts.1, F2.out.facts.2.1⟩) (fun hHeld => ?_)
  clear hK K
  try simp only [Act.put, List.getElem_toArray, List.getElem_cons_zero, List.getElem_cons_succ, List.setIfInBounds_toArray, List.set_cons_zero, List.set_cons_succ]
  refine wpAnyH_ready (rs := [5]) (by kernel_rfl) (by simp) ?_
  refine AllReadyH.cons (i := 5) (o := ?o519) ?i519 (fun K hK => ?_) AllReadyH.nil
  case i519 => exact rfl
  go_simp
  (with_reducible refine (textM S2.out).mono ?_)
  rintro e wb ⟨a1, n1, c1, rfl, en1, hh1, ss, kk⟩
  subst en1
  have S3 : Hid (Src W wb pb pa ps a n c l (getT l (getT l t).2).2) := ss
  have K3 : Hid (KeepO [some pa] w wb) := K2.out.trans kk
  have F3 : Hid (B5s wb gs 51 ⟨.func (Fn.func 31) #[] #[.pointer (some ⟨pb, 0, none⟩), .pointer (some ⟨pa, 0, none⟩)], .func (Fn.func 33) #[] #[.pointer (some ⟨pb, 0, none⟩), .pointer (some ⟨pa, 0, none⟩)], y2, y3, y4⟩) := F2.out.keep kk (by simpa using hp1)
  have X3 : Hid (B3 wb (gs + 1) 43 (.slice none 0 0) (.slice none 0 0) (.int .i64 0)) := X2.out.keep kk (by simpa using hp2)
  have H01 : Hid ((Fd.b (getT l t).1).Has wb L0 (.slice a0 (getT l t).1.length c0)) := H00.out.keep kk (.inr (by intro e; simp at e; have := B0.out pa e; omega))
  obtain ⟨L1, hL1⟩ : ∃ L, L = wa.heap.size := ⟨_, rfl⟩
  have H11 : Hid ((Fd.b (getT l (getT l t).2).1).Has wb L1 (.slice a1 (getT l (getT l t).2).1.length c1)) := by rw [hL1]; exact hh1
  have B1 : Hid (∀ g, (Value.slice a1 (getT l (getT l t).2).1.length c1).ownBlock = some g → L1 ≤ g ∧ g < wb.heap.size ∧ gs + 2 ≤ g) := fun g hg => by have h1 := hh1.lt g hg; have := hL1; have := hwd.out; have := Z0.out; omega
  have G1 : Hid (gs + 2 ≤ L1 ∧ wa.heap.size ≤ L1) := by show gs + 2 ≤ L1 ∧ wa.heap.size ≤ L1; have := K2.out.size; have := hwd.out; have := hL1; have := Z0.out; omega
  have Z1 : Hid (gs + 2 ≤ wb.heap.size) := by show gs + 2 ≤ wb.heap.size; have := kk.size; have := hwd.out; have := Z0.out; omega
  have M01 : Hid (wa.heap.size ≤ wb.heap.size) := by show wa.heap.size ≤ wb.heap.size; have := kk.size; have := M00.out; omega
  have M11 : Hid (wb.heap.size ≤ wb.heap.size) := by show wb.heap.size ≤ wb.heap.size; omega
  clear ss kk hh1
  go_wp2_with fail
  refine hK.out _ _ (⟨F3.out.facts.1, F3.out.facts.2.1⟩) (fun hHeld => ?_)
  clear hK K
  try simp only [Act.put, List.getElem_toArray, List.getElem_cons_zero, List.getElem_cons_succ, List.setIfInBounds_toArray, List.set_cons_zero, List.set_cons_succ]
  refine wpAnyH_ready (rs := [8]) (by kernel_rfl) (by simp) ?_
  refine AllReadyH.cons (i := 8) (o := ?o520) ?i520 (fun K hK => ?_) AllReadyH.nil
  case i520 => exact rfl
  go_simp
  (with_reducible refine (numM S3.out).mono ?_)
  rintro e wc ⟨rfl, ss, kk⟩
  have S4 : Hid (Src W wc pb pa ps a n c l (getL l (getT l (getT l t).2).2).2) := ss
  have K4 : Hid (KeepO [some pa] w wc) := K3.out.trans kk
  have F4 : Hid (B5s wc gs 51 ⟨.func (Fn.func 31) #[] #[.pointer (some ⟨pb, 0, none⟩), .pointer (some ⟨pa, 0, none⟩)], .func (Fn.func 33) #[] #[.pointer (some ⟨pb, 0, none⟩), .pointer (some ⟨pa, 0, none⟩)], y2, y3, y4⟩) := F3.out.keep kk (by simpa using hp1)
  have X4 : Hid (B3 wc (gs + 1) 43 (.slice none 0 0) (.slice none 0 0) (.int .i64 0)) := X3.out.keep kk (by simpa using hp2)
  have H02 : Hid ((Fd.b (getT l t).1).Has wc L0 (.slice a0 (getT l t).1.length c0)) := H01.out.keep kk (.inr (by intro e; simp at e; have := B0.out pa e; omega))
  have H12 : Hid ((Fd.b (getT l (getT l t).2).1).Has wc L1 (.slice a1 (getT l (getT l t).2).1.length c1)) := H11.out.keep kk (.inr (by intro e; simp at e; have := B1.out pa e; omega))
  have Z2 : Hid (gs + 2 ≤ wc.heap.size) := by show gs + 2 ≤ wc.heap.size; have := kk.size; have := hwd.out; have := Z1.out; omega
  have M02 : Hid (wa.heap.size ≤ wc.heap.size) := by show wa.heap.size ≤ wc.heap.size; have := kk.size; have := M01.out; omega
  have M12 : Hid (wb.heap.size ≤ wc.heap.size) := by show wb.heap.size ≤ wc.heap.size; have := kk.size; have := M11.out; omega
  clear ss kk
  go_wp2_with fail
  refine hK.out _ _ (⟨F4.out.facts.1, F4.out.facts.2.1⟩) (fun hHeld => ?_)
  clear hK K
  try simp only [Act.put, List.getElem_toArray, List.getElem_cons_zero, List.getElem_cons_succ, List.setIfInBounds_toArray, List.set_cons_zero, List.set_cons_succ]
  refine wpAnyH_take (i := 9) (oi := ?o521) (v := ?v521) ?i521 (by kernel_rfl) (by kernel_rfl) (by kernel_rfl) ?q521 ?y521 (hHeld) ?r521
  case i521 => exact rfl
  case q521 => exact (fun _ _ _ h => h)
  case y521 =>
    refine Or.inl ⟨by rfl, ?_⟩
    intro w hSw
    (try dsimp only at hSw)
    go_simp
    first | done | rfl
  try simp only [Act.put, List.getElem_toArray, List.getElem_cons_zero, List.getElem_cons_succ, List.setIfInBounds_toArray, List.set_cons_zero, List.set_cons_succ]
  obtain ⟨q0, q1, q2, f0, f1, f2⟩ := X4.out.facts
  have X5 : Hid (B3 (((wc.setCell ⟨gs + 1, 0, none⟩ (.slice a0 (getT l t).1.length c0)).setCell ⟨gs + 1, 1, none⟩ (.slice a1 (getT l (getT l t).2).1.length c1)).setCell ⟨gs + 1, 2, none⟩ (.int .i64 (getL l (getT l (getT l t).2).2).1)) (gs + 1) 43 (.slice a0 (getT l t).1.length c0) (.slice a1 (getT l (getT l t).2).1.length c1) (.int .i64 (getL l (getT l (getT l t).2).2).1)) := ((X4.out.set0 _).set1 _).set2 _
  have hs5 : Hid ((((wc.setCell ⟨gs + 1, 0, none⟩ (.slice a0 (getT l t).1.length c0)).setCell ⟨gs + 1, 1, none⟩ (.slice a1 (getT l (getT l t).2).1.length c1)).setCell ⟨gs + 1, 2, none⟩ (.int .i64 (getL l (getT l (getT l t).2).2).1)).heap.size = wc.heap.size) := by show _ = _; simp
  have S5 : Hid (Src W (((wc.setCell ⟨gs + 1, 0, none⟩ (.slice a0 (getT l t).1.length c0)).setCell ⟨gs + 1, 1, none⟩ (.slice a1 (getT l (getT l t).2).1.length c1)).setCell ⟨gs + 1, 2, none⟩ (.int .i64 (getL l (getT l (getT l t).2).2).1)) pb pa ps a n c l (getL l (getT l (getT l t).2).2).2) := ((S4.out.other hbig _ _).other hbig _ _).other hbig _ _
  have K5 : Hid (KeepO [some pa] w (((wc.setCell ⟨gs + 1, 0, none⟩ (.slice a0 (getT l t).1.length c0)).setCell ⟨gs + 1, 1, none⟩ (.slice a1 (getT l (getT l t).2).1.length c1)).setCell ⟨gs + 1, 2, none⟩ (.int .i64 (getL l (getT l (getT l t).2).2).1))) := ((K4.out.put (by have := HGS.out; omega) _ _).put (by have := HGS.out; omega) _ _).put (by have := HGS.out; omega) _ _
  have F5 : Hid (B5s (((wc.setCell ⟨gs + 1, 0, none⟩ (.slice a0 (getT l t).1.length c0)).setCell ⟨gs + 1, 1, none⟩ (.slice a1 (getT l (getT l t).2).1.length c1)).setCell ⟨gs + 1, 2, none⟩ (.int .i64 (getL l (getT l (getT l t).2).2).1)) gs 51 ⟨.func (Fn.func 31) #[] #[.pointer (some ⟨pb, 0, none⟩), .pointer (some ⟨pa, 0, none⟩)], .func (Fn.func 33) #[] #[.pointer (some ⟨pb, 0, none⟩), .pointer (some ⟨pa, 0, none⟩)], y2, y3, y4⟩) := ((B5.other F4.out (by omega)).other (by omega)).other (by omega)
  have H05 : Hid ((Fd.b (getT l t).1).Has (((wc.setCell ⟨gs + 1, 0, none⟩ (.slice a0 (getT l t).1.length c0)).setCell ⟨gs + 1, 1, none⟩ (.slice a1 (getT l (getT l t).2).1.length c1)).setCell ⟨gs + 1, 2, none⟩ (.int .i64 (getL l (getT l (getT l t).2).2).1)) L0 (.slice a0 (getT l t).1.length c0)) := ((H02.out.other (by intro e; have := B0.out _ e; omega)).other (by intro e; have := B0.out _ e; omega)).other (by intro e; have := B0.out _ e; omega)
  have H15 : Hid ((Fd.b (getT l (getT l t).2).1).Has (((wc.setCell ⟨gs + 1, 0, none⟩ (.slice a0 (getT l t).1.length c0)).setCell ⟨gs + 1, 1, none⟩ (.slice a1 (getT l (getT l t).2).1.length c1)).setCell ⟨gs + 1, 2, none⟩ (.int .i64 (getL l (getT l (getT l t).2).2).1)) L1 (.slice a1 (getT l (getT l t).2).1.length c1)) := ((H12.out.other (by intro e; have := B1.out _ e; omega)).other (by intro e; have := B1.out _ e; omega)).other (by intro e; have := B1.out _ e; omega)
  refine wpAnyH_ready (rs := [10]) (by kernel_rfl) (by simp) ?_
  refine AllReadyH.cons (i := 10) (o := ?o522) ?i522 (fun K hK => ?_) AllReadyH.nil
  case i522 => exact rfl
  go_simp
  clear q0 q1 q2 f0 f1 f2 S4 K4 F4 X4
  generalize hW6 : (((wc.setCell ⟨gs + 1, 0, none⟩ (.slice a0 (getT l t).1.length c0)).setCell ⟨gs + 1, 1, none⟩ (.slice a1 (getT l (getT l t).2).1.length c1)).setCell ⟨gs + 1, 2, none⟩ (.int .i64 (getL l (getT l (getT l t).2).2).1)) = w6 at *
  clear hW6
  refine hK.out _ _ (⟨F5.out.facts.1, F5.out.facts.2.1⟩) (fun hHeld => ?_)
  clear hK K
  try simp only [Act.put, List.getElem_toArray, List.getElem_cons_zero, List.getElem_cons_succ, List.setIfInBounds_toArray, List.set_cons_zero, List.set_cons_succ]
  refine wpAnyH_done (by kernel_rfl) ?_ _
  go_wp2_with fail
  obtain ⟨d0, d1, d2, _, _, _⟩ := X5.out.facts
  refine bodyPost_ret (v := .agg #[(.slice a0 (getT l t).1.length c0), (.slice a1 (getT l (getT l t).2).1.length c1), (.int .i64 (getL l (getT l (getT l t).2).2).1)]) (by simp [results, Try.results42, go_sem, d0, d1, d2]) rfl ⟨⟨(.slice a0 (getT l t).1.length c0), (.slice a1 (getT l (getT l t).2).1.length c1), (.int .i64 (getL l (getT l (getT l t).2).2).1)⟩, rfl, ⟨?_, ?_, ?_⟩, ?_, S5.out, K5.out⟩
  · refine Fd.Has.mono (show (Fd.b _).Has _ _ _ from H05.out) ?_
    have := HGS.out; have := hwd.out; have := G0.out; omega
  · refine Fd.Has.mono (show (Fd.b _).Has _ _ _ from H15.out) ?_
    have := HGS.out; have := hwd.out; have := G1.out; omega
  · rfl
  · refine ⟨fun g hg => ?_, ?_⟩
    · simp only [R3.owns, List.mem_cons, List.not_mem_nil, or_false] at hg
      rcases hg with e | e | e
      · have := B0.out g e.symm; have := hs5.out; have := HGS.out; have := M02.out; omega
      · have := B1.out g e.symm; have := hs5.out; have := HGS.out; have := M12.out; omega
      · cases e
    · refine pw2 ?_
      cases hv : (Value.slice a0 (getT l t).1.length c0).ownBlock with
      | none => exact .inl rfl
      | some g =>
        right
        intro e
        have h1 := B0.out g hv
        have h2 := B1.out g e.symm
        have := G1.out
        omega

end Go.Proofs.Ythfknedokkccaaa

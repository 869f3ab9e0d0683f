/- A source over bytes, from place 2 on. -/
import Derived.Test.YthfknedokkccaaaReadSrc
import Derived.Deep.Cut
import Derived.Laws.EntriesVeiled
namespace Go.Proofs.Ythfknedokkccaaa
open Go.RowKit
set_option linter.unusedVariables false
set_option linter.unusedSimpArgs false
set_option maxRecDepth 100000

set_option maxHeartbeats 4000000 in
theorem sourceOfM (a : Option Addr) (n c : Nat) (l : List Int) (w : World) (h : BRow w a n l) (hn : n ≤ 1048576) (hnc : n ≤ c) (hcm : c ≤ maxLen) (hnil : a = none → c = 0) :
    Calls Try.prog 16 #[.slice a n c, .int .i64 2] w fun e w' => ∃ pb pa ps, e = .returned (.agg #[fNum pb pa, fText pb pa, fCount ps pa, fBytes pa pb, fEnded pa pb]) ∧ Src w w' pb pa ps a n c l 2 ∧ Below w.heap.size w w' := by
  have hmf : ∀ (fn : Fn) (first cap : Array Value) (w : World), (Instr.makeFunc fn first cap).run Try.prog w = .ok (.func fn first cap) w := fun _ _ _ _ => rfl
  have H : Hid (BRow w a n l) := h
  clear h
  go_enter Try.func16, Try.ntmps16
  have e1 : (w.alloc (.cells #[.slice a n c] 22 (0, 0))).heap.size = w.heap.size + 1 := by simp
  have e2 : ((w.alloc (.cells #[.slice a n c] 22 (0, 0))).alloc (.cells #[.int .i64 2] 3 (0, 0))).heap.size = w.heap.size + 2 := by simp
  have e3 : (((w.alloc (.cells #[.slice a n c] 22 (0, 0))).alloc (.cells #[.int .i64 2] 3 (0, 0))).alloc (.cells #[.nilFunc, .nilFunc, .nilFunc, .nilFunc, .nilFunc] 51 (0, 0))).heap.size = w.heap.size + 3 := by simp
  have x0 : ((((w.alloc (.cells #[.slice a n c] 22 (0, 0))).alloc (.cells #[.int .i64 2] 3 (0, 0))).alloc (.cells #[.nilFunc, .nilFunc, .nilFunc, .nilFunc, .nilFunc] 51 (0, 0))).alloc (.cells #[.nilFunc, .nilFunc, .nilFunc, .nilFunc, .nilFunc] 51 (0, 0))).heap[w.heap.size]? = some (.cells #[.slice a n c] 22 (0, 0)) := by
    rw [heap_alloc_old _ _ (by rw [e3]; omega), heap_alloc_old _ _ (by rw [e2]; omega), heap_alloc_old _ _ (by rw [e1]; omega), heap_alloc_new]
  have x1 : ((((w.alloc (.cells #[.slice a n c] 22 (0, 0))).alloc (.cells #[.int .i64 2] 3 (0, 0))).alloc (.cells #[.nilFunc, .nilFunc, .nilFunc, .nilFunc, .nilFunc] 51 (0, 0))).alloc (.cells #[.nilFunc, .nilFunc, .nilFunc, .nilFunc, .nilFunc] 51 (0, 0))).heap[w.heap.size + 1]? = some (.cells #[.int .i64 2] 3 (0, 0)) := by
    rw [heap_alloc_old _ _ (by rw [e3]; omega), heap_alloc_old _ _ (by rw [e2]; omega), ← e1, heap_alloc_new]
  have x2 : B5 ((((w.alloc (.cells #[.slice a n c] 22 (0, 0))).alloc (.cells #[.int .i64 2] 3 (0, 0))).alloc (.cells #[.nilFunc, .nilFunc, .nilFunc, .nilFunc, .nilFunc] 51 (0, 0))).alloc (.cells #[.nilFunc, .nilFunc, .nilFunc, .nilFunc, .nilFunc] 51 (0, 0))) (w.heap.size + 2) 51 ⟨.nilFunc, .nilFunc, .nilFunc, .nilFunc, .nilFunc⟩ := by
    unfold B5
    rw [heap_alloc_old _ _ (by rw [e3]; omega), ← e2, heap_alloc_new]
  have x3 : B5 ((((w.alloc (.cells #[.slice a n c] 22 (0, 0))).alloc (.cells #[.int .i64 2] 3 (0, 0))).alloc (.cells #[.nilFunc, .nilFunc, .nilFunc, .nilFunc, .nilFunc] 51 (0, 0))).alloc (.cells #[.nilFunc, .nilFunc, .nilFunc, .nilFunc, .nilFunc] 51 (0, 0))) (w.heap.size + 3) 51 ⟨.nilFunc, .nilFunc, .nilFunc, .nilFunc, .nilFunc⟩ := by
    unfold B5
    rw [← e3, heap_alloc_new]
  have y0 : Below w.heap.size w ((((w.alloc (.cells #[.slice a n c] 22 (0, 0))).alloc (.cells #[.int .i64 2] 3 (0, 0))).alloc (.cells #[.nilFunc, .nilFunc, .nilFunc, .nilFunc, .nilFunc] 51 (0, 0))).alloc (.cells #[.nilFunc, .nilFunc, .nilFunc, .nilFunc, .nilFunc] 51 (0, 0))) := ((((Below.refl _ _).alloc (Nat.le_refl _) _).alloc (by simp) _).alloc (by simp; omega) _).alloc (by simp; omega) _
  clear e1 e2 e3
  go_upto_region 2 with fail
  generalize ((((w.alloc (.cells #[.slice a n c] 22 (0, 0))).alloc (.cells #[.int .i64 2] 3 (0, 0))).alloc (.cells #[.nilFunc, .nilFunc, .nilFunc, .nilFunc, .nilFunc] 51 (0, 0))).alloc (.cells #[.nilFunc, .nilFunc, .nilFunc, .nilFunc, .nilFunc] 51 (0, 0))) = w0 at *
  have HB : Hid (BRow w a n l) := H
  generalize hg : w.heap.size = g at *
  have HG : Hid (w.heap.size = g) := hg
  clear hg
  obtain ⟨_, _, _, _, _⟩ := x3.facts
  obtain ⟨f0, f1, f2, f3, f4⟩ := x3.frozen
  go_upto_region 3 with fail
  have x4 : B5 (w0.setCell ⟨g + 3, 0, none⟩ (.func (Fn.func 31) #[] #[.pointer (some ⟨g, 0, none⟩), .pointer (some ⟨g + 1, 0, none⟩)])) (g + 3) 51 ⟨.func (Fn.func 31) #[] #[.pointer (some ⟨g, 0, none⟩), .pointer (some ⟨g + 1, 0, none⟩)], .nilFunc, .nilFunc, .nilFunc, .nilFunc⟩ := x3.set0 _
  have r0 : B5 (w0.setCell ⟨g + 3, 0, none⟩ (.func (Fn.func 31) #[] #[.pointer (some ⟨g, 0, none⟩), .pointer (some ⟨g + 1, 0, none⟩)])) (g + 2) 51 ⟨.nilFunc, .nilFunc, .nilFunc, .nilFunc, .nilFunc⟩ := B5.other x2 (by omega)
  have b0 : Hid ((w0.setCell ⟨g + 3, 0, none⟩ (.func (Fn.func 31) #[] #[.pointer (some ⟨g, 0, none⟩), .pointer (some ⟨g + 1, 0, none⟩)])).heap[g]? = some (.cells #[.slice a n c] 22 (0, 0))) := (heap_setCell_other _ _ _ _ (by simp)).trans x0
  have p0 : Hid ((w0.setCell ⟨g + 3, 0, none⟩ (.func (Fn.func 31) #[] #[.pointer (some ⟨g, 0, none⟩), .pointer (some ⟨g + 1, 0, none⟩)])).heap[g + 1]? = some (.cells #[.int .i64 2] 3 (0, 0))) := (heap_setCell_other _ _ _ _ (by simp)).trans x1
  have y1 : Below g w (w0.setCell ⟨g + 3, 0, none⟩ (.func (Fn.func 31) #[] #[.pointer (some ⟨g, 0, none⟩), .pointer (some ⟨g + 1, 0, none⟩)])) := y0.setCell (by simp) _
  clear x3 x2 x0 x1 y0 f0 f1 f2 f3 f4
  generalize (w0.setCell ⟨g + 3, 0, none⟩ (.func (Fn.func 31) #[] #[.pointer (some ⟨g, 0, none⟩), .pointer (some ⟨g + 1, 0, none⟩)])) = w1 at *
  obtain ⟨_, _, _, _, _⟩ := x4.facts
  obtain ⟨f0, f1, f2, f3, f4⟩ := x4.frozen
  go_upto_region 4 with fail
  have x5 : B5 (w1.setCell ⟨g + 3, 1, none⟩ (.func (Fn.func 33) #[] #[.pointer (some ⟨g, 0, none⟩), .pointer (some ⟨g + 1, 0, none⟩)])) (g + 3) 51 ⟨.func (Fn.func 31) #[] #[.pointer (some ⟨g, 0, none⟩), .pointer (some ⟨g + 1, 0, none⟩)], .func (Fn.func 33) #[] #[.pointer (some ⟨g, 0, none⟩), .pointer (some ⟨g + 1, 0, none⟩)], .nilFunc, .nilFunc, .nilFunc⟩ := x4.set1 _
  have r1 : B5 (w1.setCell ⟨g + 3, 1, none⟩ (.func (Fn.func 33) #[] #[.pointer (some ⟨g, 0, none⟩), .pointer (some ⟨g + 1, 0, none⟩)])) (g + 2) 51 ⟨.nilFunc, .nilFunc, .nilFunc, .nilFunc, .nilFunc⟩ := B5.other r0 (by omega)
  have b1 : Hid ((w1.setCell ⟨g + 3, 1, none⟩ (.func (Fn.func 33) #[] #[.pointer (some ⟨g, 0, none⟩), .pointer (some ⟨g + 1, 0, none⟩)])).heap[g]? = some (.cells #[.slice a n c] 22 (0, 0))) := (heap_setCell_other _ _ _ _ (by simp)).trans b0.out
  have p1 : Hid ((w1.setCell ⟨g + 3, 1, none⟩ (.func (Fn.func 33) #[] #[.pointer (some ⟨g, 0, none⟩), .pointer (some ⟨g + 1, 0, none⟩)])).heap[g + 1]? = some (.cells #[.int .i64 2] 3 (0, 0))) := (heap_setCell_other _ _ _ _ (by simp)).trans p0.out
  have y2 : Below g w (w1.setCell ⟨g + 3, 1, none⟩ (.func (Fn.func 33) #[] #[.pointer (some ⟨g, 0, none⟩), .pointer (some ⟨g + 1, 0, none⟩)])) := y1.setCell (by simp) _
  clear x4 r0 b0 p0 y1 f0 f1 f2 f3 f4
  generalize (w1.setCell ⟨g + 3, 1, none⟩ (.func (Fn.func 33) #[] #[.pointer (some ⟨g, 0, none⟩), .pointer (some ⟨g + 1, 0, none⟩)])) = w2 at *
  obtain ⟨_, _, _, _, _⟩ := x5.facts
  obtain ⟨f0, f1, f2, f3, f4⟩ := x5.frozen
  go_upto_region 5 with fail
  have x6 : B5 (w2.setCell ⟨g + 3, 2, none⟩ (.func (Fn.func 35) #[] #[.pointer (some ⟨g + 3, 0, none⟩), .pointer (some ⟨g + 1, 0, none⟩)])) (g + 3) 51 ⟨.func (Fn.func 31) #[] #[.pointer (some ⟨g, 0, none⟩), .pointer (some ⟨g + 1, 0, none⟩)], .func (Fn.func 33) #[] #[.pointer (some ⟨g, 0, none⟩), .pointer (some ⟨g + 1, 0, none⟩)], .func (Fn.func 35) #[] #[.pointer (some ⟨g + 3, 0, none⟩), .pointer (some ⟨g + 1, 0, none⟩)], .nilFunc, .nilFunc⟩ := x5.set2 _
  have r2 : B5 (w2.setCell ⟨g + 3, 2, none⟩ (.func (Fn.func 35) #[] #[.pointer (some ⟨g + 3, 0, none⟩), .pointer (some ⟨g + 1, 0, none⟩)])) (g + 2) 51 ⟨.nilFunc, .nilFunc, .nilFunc, .nilFunc, .nilFunc⟩ := B5.other r1 (by omega)
  have b2 : Hid ((w2.setCell ⟨g + 3, 2, none⟩ (.func (Fn.func 35) #[] #[.pointer (some ⟨g + 3, 0, none⟩), .pointer (some ⟨g + 1, 0, none⟩)])).heap[g]? = some (.cells #[.slice a n c] 22 (0, 0))) := (heap_setCell_other _ _ _ _ (by simp)).trans b1.out
  have p2 : Hid ((w2.setCell ⟨g + 3, 2, none⟩ (.func (Fn.func 35) #[] #[.pointer (some ⟨g + 3, 0, none⟩), .pointer (some ⟨g + 1, 0, none⟩)])).heap[g + 1]? = some (.cells #[.int .i64 2] 3 (0, 0))) := (heap_setCell_other _ _ _ _ (by simp)).trans p1.out
  have y3 : Below g w (w2.setCell ⟨g + 3, 2, none⟩ (.func (Fn.func 35) #[] #[.pointer (some ⟨g + 3, 0, none⟩), .pointer (some ⟨g + 1, 0, none⟩)])) := y2.setCell (by simp) _
  clear x5 r1 b1 p1 y2 f0 f1 f2 f3 f4
  generalize (w2.setCell ⟨g + 3, 2, none⟩ (.func (Fn.func 35) #[] #[.pointer (some ⟨g + 3, 0, none⟩), .pointer (some ⟨g + 1, 0, none⟩)])) = w3 at *
  obtain ⟨_, _, _, _, _⟩ := x6.facts
  obtain ⟨f0, f1, f2, f3, f4⟩ := x6.frozen
  go_upto_region 6 with fail
  have x7 : B5 (w3.setCell ⟨g + 3, 3, none⟩ (.func (Fn.func 36) #[] #[.pointer (some ⟨g + 1, 0, none⟩), .pointer (some ⟨g, 0, none⟩)])) (g + 3) 51 ⟨.func (Fn.func 31) #[] #[.pointer (some ⟨g, 0, none⟩), .pointer (some ⟨g + 1, 0, none⟩)], .func (Fn.func 33) #[] #[.pointer (some ⟨g, 0, none⟩), .pointer (some ⟨g + 1, 0, none⟩)], .func (Fn.func 35) #[] #[.pointer (some ⟨g + 3, 0, none⟩), .pointer (some ⟨g + 1, 0, none⟩)], .func (Fn.func 36) #[] #[.pointer (some ⟨g + 1, 0, none⟩), .pointer (some ⟨g, 0, none⟩)], .nilFunc⟩ := x6.set3 _
  have r3 : B5 (w3.setCell ⟨g + 3, 3, none⟩ (.func (Fn.func 36) #[] #[.pointer (some ⟨g + 1, 0, none⟩), .pointer (some ⟨g, 0, none⟩)])) (g + 2) 51 ⟨.nilFunc, .nilFunc, .nilFunc, .nilFunc, .nilFunc⟩ := B5.other r2 (by omega)
  have b3 : Hid ((w3.setCell ⟨g + 3, 3, none⟩ (.func (Fn.func 36) #[] #[.pointer (some ⟨g + 1, 0, none⟩), .pointer (some ⟨g, 0, none⟩)])).heap[g]? = some (.cells #[.slice a n c] 22 (0, 0))) := (heap_setCell_other _ _ _ _ (by simp)).trans b2.out
  have p3 : Hid ((w3.setCell ⟨g + 3, 3, none⟩ (.func (Fn.func 36) #[] #[.pointer (some ⟨g + 1, 0, none⟩), .pointer (some ⟨g, 0, none⟩)])).heap[g + 1]? = some (.cells #[.int .i64 2] 3 (0, 0))) := (heap_setCell_other _ _ _ _ (by simp)).trans p2.out
  have y4 : Below g w (w3.setCell ⟨g + 3, 3, none⟩ (.func (Fn.func 36) #[] #[.pointer (some ⟨g + 1, 0, none⟩), .pointer (some ⟨g, 0, none⟩)])) := y3.setCell (by simp) _
  clear x6 r2 b2 p2 y3 f0 f1 f2 f3 f4
  generalize (w3.setCell ⟨g + 3, 3, none⟩ (.func (Fn.func 36) #[] #[.pointer (some ⟨g + 1, 0, none⟩), .pointer (some ⟨g, 0, none⟩)])) = w4 at *
  obtain ⟨_, _, _, _, _⟩ := x7.facts
  obtain ⟨f0, f1, f2, f3, f4⟩ := x7.frozen
  go_upto_region 7 with fail
  have x8 : B5 (w4.setCell ⟨g + 3, 4, none⟩ (.func (Fn.func 38) #[] #[.pointer (some ⟨g + 1, 0, none⟩), .pointer (some ⟨g, 0, none⟩)])) (g + 3) 51 ⟨.func (Fn.func 31) #[] #[.pointer (some ⟨g, 0, none⟩), .pointer (some ⟨g + 1, 0, none⟩)], .func (Fn.func 33) #[] #[.pointer (some ⟨g, 0, none⟩), .pointer (some ⟨g + 1, 0, none⟩)], .func (Fn.func 35) #[] #[.pointer (some ⟨g + 3, 0, none⟩), .pointer (some ⟨g + 1, 0, none⟩)], .func (Fn.func 36) #[] #[.pointer (some ⟨g + 1, 0, none⟩), .pointer (some ⟨g, 0, none⟩)], .func (Fn.func 38) #[] #[.pointer (some ⟨g + 1, 0, none⟩), .pointer (some ⟨g, 0, none⟩)]⟩ := x7.set4 _
  have r4 : B5 (w4.setCell ⟨g + 3, 4, none⟩ (.func (Fn.func 38) #[] #[.pointer (some ⟨g + 1, 0, none⟩), .pointer (some ⟨g, 0, none⟩)])) (g + 2) 51 ⟨.nilFunc, .nilFunc, .nilFunc, .nilFunc, .nilFunc⟩ := B5.other r3 (by omega)
  have b4 : Hid ((w4.setCell ⟨g + 3, 4, none⟩ (.func (Fn.func 38) #[] #[.pointer (some ⟨g + 1, 0, none⟩), .pointer (some ⟨g, 0, none⟩)])).heap[g]? = some (.cells #[.slice a n c] 22 (0, 0))) := (heap_setCell_other _ _ _ _ (by simp)).trans b3.out
  have p4 : Hid ((w4.setCell ⟨g + 3, 4, none⟩ (.func (Fn.func 38) #[] #[.pointer (some ⟨g + 1, 0, none⟩), .pointer (some ⟨g, 0, none⟩)])).heap[g + 1]? = some (.cells #[.int .i64 2] 3 (0, 0))) := (heap_setCell_other _ _ _ _ (by simp)).trans p3.out
  have y5 : Below g w (w4.setCell ⟨g + 3, 4, none⟩ (.func (Fn.func 38) #[] #[.pointer (some ⟨g + 1, 0, none⟩), .pointer (some ⟨g, 0, none⟩)])) := y4.setCell (by simp) _
  clear x7 r3 b3 p3 y4 f0 f1 f2 f3 f4
  generalize (w4.setCell ⟨g + 3, 4, none⟩ (.func (Fn.func 38) #[] #[.pointer (some ⟨g + 1, 0, none⟩), .pointer (some ⟨g, 0, none⟩)])) = w5 at *
  obtain ⟨q0, q1, q2, q3, q4⟩ := x8.facts
  obtain ⟨_, _, _, _, _⟩ := r4.facts
  obtain ⟨f0, f1, f2, f3, f4⟩ := r4.frozen
  simp only at q0 q1 q2 q3 q4
  go_wp2_with fail
  have R : B5 (((((w5.setCell ⟨g + 2, 0, none⟩ (.func (Fn.func 31) #[] #[.pointer (some ⟨g, 0, none⟩), .pointer (some ⟨g + 1, 0, none⟩)])).setCell ⟨g + 2, 1, none⟩ (.func (Fn.func 33) #[] #[.pointer (some ⟨g, 0, none⟩), .pointer (some ⟨g + 1, 0, none⟩)])).setCell ⟨g + 2, 2, none⟩ (.func (Fn.func 35) #[] #[.pointer (some ⟨g + 3, 0, none⟩), .pointer (some ⟨g + 1, 0, none⟩)])).setCell ⟨g + 2, 3, none⟩ (.func (Fn.func 36) #[] #[.pointer (some ⟨g + 1, 0, none⟩), .pointer (some ⟨g, 0, none⟩)])).setCell ⟨g + 2, 4, none⟩ (.func (Fn.func 38) #[] #[.pointer (some ⟨g + 1, 0, none⟩), .pointer (some ⟨g, 0, none⟩)])) (g + 2) 51 ⟨.func (Fn.func 31) #[] #[.pointer (some ⟨g, 0, none⟩), .pointer (some ⟨g + 1, 0, none⟩)], .func (Fn.func 33) #[] #[.pointer (some ⟨g, 0, none⟩), .pointer (some ⟨g + 1, 0, none⟩)], .func (Fn.func 35) #[] #[.pointer (some ⟨g + 3, 0, none⟩), .pointer (some ⟨g + 1, 0, none⟩)], .func (Fn.func 36) #[] #[.pointer (some ⟨g + 1, 0, none⟩), .pointer (some ⟨g, 0, none⟩)], .func (Fn.func 38) #[] #[.pointer (some ⟨g + 1, 0, none⟩), .pointer (some ⟨g, 0, none⟩)]⟩ := ((((r4.set0 _).set1 _).set2 _).set3 _).set4 _
  have X9 : B5 (((((w5.setCell ⟨g + 2, 0, none⟩ (.func (Fn.func 31) #[] #[.pointer (some ⟨g, 0, none⟩), .pointer (some ⟨g + 1, 0, none⟩)])).setCell ⟨g + 2, 1, none⟩ (.func (Fn.func 33) #[] #[.pointer (some ⟨g, 0, none⟩), .pointer (some ⟨g + 1, 0, none⟩)])).setCell ⟨g + 2, 2, none⟩ (.func (Fn.func 35) #[] #[.pointer (some ⟨g + 3, 0, none⟩), .pointer (some ⟨g + 1, 0, none⟩)])).setCell ⟨g + 2, 3, none⟩ (.func (Fn.func 36) #[] #[.pointer (some ⟨g + 1, 0, none⟩), .pointer (some ⟨g, 0, none⟩)])).setCell ⟨g + 2, 4, none⟩ (.func (Fn.func 38) #[] #[.pointer (some ⟨g + 1, 0, none⟩), .pointer (some ⟨g, 0, none⟩)])) (g + 3) 51 ⟨.func (Fn.func 31) #[] #[.pointer (some ⟨g, 0, none⟩), .pointer (some ⟨g + 1, 0, none⟩)], .func (Fn.func 33) #[] #[.pointer (some ⟨g, 0, none⟩), .pointer (some ⟨g + 1, 0, none⟩)], .func (Fn.func 35) #[] #[.pointer (some ⟨g + 3, 0, none⟩), .pointer (some ⟨g + 1, 0, none⟩)], .func (Fn.func 36) #[] #[.pointer (some ⟨g + 1, 0, none⟩), .pointer (some ⟨g, 0, none⟩)], .func (Fn.func 38) #[] #[.pointer (some ⟨g + 1, 0, none⟩), .pointer (some ⟨g, 0, none⟩)]⟩ := ((((B5.other x8 (by omega)).other (by omega)).other (by omega)).other (by omega)).other (by omega)
  have B9 : (((((w5.setCell ⟨g + 2, 0, none⟩ (.func (Fn.func 31) #[] #[.pointer (some ⟨g, 0, none⟩), .pointer (some ⟨g + 1, 0, none⟩)])).setCell ⟨g + 2, 1, none⟩ (.func (Fn.func 33) #[] #[.pointer (some ⟨g, 0, none⟩), .pointer (some ⟨g + 1, 0, none⟩)])).setCell ⟨g + 2, 2, none⟩ (.func (Fn.func 35) #[] #[.pointer (some ⟨g + 3, 0, none⟩), .pointer (some ⟨g + 1, 0, none⟩)])).setCell ⟨g + 2, 3, none⟩ (.func (Fn.func 36) #[] #[.pointer (some ⟨g + 1, 0, none⟩), .pointer (some ⟨g, 0, none⟩)])).setCell ⟨g + 2, 4, none⟩ (.func (Fn.func 38) #[] #[.pointer (some ⟨g + 1, 0, none⟩), .pointer (some ⟨g, 0, none⟩)])).heap[g]? = some (.cells #[.slice a n c] 22 (0, 0)) := by
    rw [heap_setCell_other _ _ _ _ (by simp), heap_setCell_other _ _ _ _ (by simp), heap_setCell_other _ _ _ _ (by simp), heap_setCell_other _ _ _ _ (by simp), heap_setCell_other _ _ _ _ (by simp)]
    exact b4.out
  have P9 : (((((w5.setCell ⟨g + 2, 0, none⟩ (.func (Fn.func 31) #[] #[.pointer (some ⟨g, 0, none⟩), .pointer (some ⟨g + 1, 0, none⟩)])).setCell ⟨g + 2, 1, none⟩ (.func (Fn.func 33) #[] #[.pointer (some ⟨g, 0, none⟩), .pointer (some ⟨g + 1, 0, none⟩)])).setCell ⟨g + 2, 2, none⟩ (.func (Fn.func 35) #[] #[.pointer (some ⟨g + 3, 0, none⟩), .pointer (some ⟨g + 1, 0, none⟩)])).setCell ⟨g + 2, 3, none⟩ (.func (Fn.func 36) #[] #[.pointer (some ⟨g + 1, 0, none⟩), .pointer (some ⟨g, 0, none⟩)])).setCell ⟨g + 2, 4, none⟩ (.func (Fn.func 38) #[] #[.pointer (some ⟨g + 1, 0, none⟩), .pointer (some ⟨g, 0, none⟩)])).heap[g + 1]? = some (.cells #[.int .i64 2] 3 (0, 0)) := by
    rw [heap_setCell_other _ _ _ _ (by simp), heap_setCell_other _ _ _ _ (by simp), heap_setCell_other _ _ _ _ (by simp), heap_setCell_other _ _ _ _ (by simp), heap_setCell_other _ _ _ _ (by simp)]
    exact p4.out
  have Y9 : Below g w (((((w5.setCell ⟨g + 2, 0, none⟩ (.func (Fn.func 31) #[] #[.pointer (some ⟨g, 0, none⟩), .pointer (some ⟨g + 1, 0, none⟩)])).setCell ⟨g + 2, 1, none⟩ (.func (Fn.func 33) #[] #[.pointer (some ⟨g, 0, none⟩), .pointer (some ⟨g + 1, 0, none⟩)])).setCell ⟨g + 2, 2, none⟩ (.func (Fn.func 35) #[] #[.pointer (some ⟨g + 3, 0, none⟩), .pointer (some ⟨g + 1, 0, none⟩)])).setCell ⟨g + 2, 3, none⟩ (.func (Fn.func 36) #[] #[.pointer (some ⟨g + 1, 0, none⟩), .pointer (some ⟨g, 0, none⟩)])).setCell ⟨g + 2, 4, none⟩ (.func (Fn.func 38) #[] #[.pointer (some ⟨g + 1, 0, none⟩), .pointer (some ⟨g, 0, none⟩)])) := ((((y5.setCell (by simp) _).setCell (by simp) _).setCell (by simp) _).setCell (by simp) _).setCell (by simp) _
  generalize (((((w5.setCell ⟨g + 2, 0, none⟩ (.func (Fn.func 31) #[] #[.pointer (some ⟨g, 0, none⟩), .pointer (some ⟨g + 1, 0, none⟩)])).setCell ⟨g + 2, 1, none⟩ (.func (Fn.func 33) #[] #[.pointer (some ⟨g, 0, none⟩), .pointer (some ⟨g + 1, 0, none⟩)])).setCell ⟨g + 2, 2, none⟩ (.func (Fn.func 35) #[] #[.pointer (some ⟨g + 3, 0, none⟩), .pointer (some ⟨g + 1, 0, none⟩)])).setCell ⟨g + 2, 3, none⟩ (.func (Fn.func 36) #[] #[.pointer (some ⟨g + 1, 0, none⟩), .pointer (some ⟨g, 0, none⟩)])).setCell ⟨g + 2, 4, none⟩ (.func (Fn.func 38) #[] #[.pointer (some ⟨g + 1, 0, none⟩), .pointer (some ⟨g, 0, none⟩)])) = w9 at *
  obtain ⟨d0, d1, d2, d3, d4⟩ := R.facts
  simp only at d0 d1 d2 d3 d4
  have hg : w.heap.size = g := HG.out
  refine bodyPost_ret (v := .agg #[.func (Fn.func 31) #[] #[.pointer (some ⟨g, 0, none⟩), .pointer (some ⟨g + 1, 0, none⟩)], .func (Fn.func 33) #[] #[.pointer (some ⟨g, 0, none⟩), .pointer (some ⟨g + 1, 0, none⟩)], .func (Fn.func 35) #[] #[.pointer (some ⟨g + 3, 0, none⟩), .pointer (some ⟨g + 1, 0, none⟩)], .func (Fn.func 36) #[] #[.pointer (some ⟨g + 1, 0, none⟩), .pointer (some ⟨g, 0, none⟩)], .func (Fn.func 38) #[] #[.pointer (some ⟨g + 1, 0, none⟩), .pointer (some ⟨g, 0, none⟩)]]) (by simp [results, Try.results16, go_sem, d0, d1, d2, d3, d4]) rfl ⟨g, g + 1, g + 3, rfl, ?_, by rw [hg]; exact Y9⟩
  exact ⟨B9, P9, ⟨_, _, _, _, X9⟩, HB.out, by rw [hg]; exact Y9, by omega, hn, hnc, hcm, hnil, .inr rfl⟩
end Go.Proofs.Ythfknedokkccaaa

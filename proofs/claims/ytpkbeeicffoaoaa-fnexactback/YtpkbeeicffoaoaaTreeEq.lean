/- Contracts of the laws' own helpers that compare modules: where both read alike, they say so. By mktreeeq.py. -/
import Derived.Test.YtpkbeeicffoaoaaTreeTo2
namespace Go.Proofs.Ytpkbeeicffoaoaa
open Go.RowKit
set_option linter.unusedVariables false
set_option linter.unusedSimpArgs false
set_option maxRecDepth 100000

def EqV (w : World) (F : Nat) (v u : Value) : Prop :=
  ∀ w1 : World, Below w.heap.size w w1 → Calls Try.prog F #[v, u] w1 fun e w' => e = .returned (.bool true) ∧ Below w1.heap.size w1 w'
def EqF (F : Nat) (f : Fl) : Prop := ∀ (w : World) (v u : Value), f.Rd w v → f.Rd w u → EqV w F v u
def EqR (F : Nat) (r : List Fl) : Prop := ∀ (w : World) (vs us : List Value), RdVals w r vs → RdVals w r us → EqV w F (.agg vs.toArray) (.agg us.toArray)

theorem two_blks (w : World) (t : TypeId) (A B : List Value) :
    Blk ((w.alloc (.cells A.toArray t (0, 0))).alloc (.cells B.toArray t (0, 0))) w.heap.size t A ∧ Blk ((w.alloc (.cells A.toArray t (0, 0))).alloc (.cells B.toArray t (0, 0))) (w.heap.size + 1) t B ∧ Below w.heap.size w ((w.alloc (.cells A.toArray t (0, 0))).alloc (.cells B.toArray t (0, 0))) := by
  have h := Blk.new (w.alloc (.cells A.toArray t (0, 0))) t B
  rw [show (w.alloc (.cells A.toArray t (0, 0))).heap.size = w.heap.size + 1 by simp] at h
  exact ⟨(Blk.new w t A).old, h, ((Below.refl _ _).alloc (Nat.le_refl _) _).alloc (by simp) _⟩

set_option maxHeartbeats 4000000 in
theorem eqWord0 (t0 : Bool) (p1 : Int) (p2 : Int) (p3 : Int) (p4 : Int) (p5 : Int) (p6 : Int) (w : World)
     :
    Calls Try.prog 44 #[.agg #[.bool t0, .int .i64 p1, .int .i64 p2, .int .i64 p3, .int .i64 p4, .int .i64 p5, .int .i64 p6], .agg #[.bool t0, .int .i64 p1, .int .i64 p2, .int .i64 p3, .int .i64 p4, .int .i64 p5, .int .i64 p6]] w fun e w' => e = .returned (.bool true) ∧ Below w.heap.size w w' := by
  obtain ⟨x, y, hb⟩ := two_blks w 74 [.bool t0, .int .i64 p1, .int .i64 p2, .int .i64 p3, .int .i64 p4, .int .i64 p5, .int .i64 p6] [.bool t0, .int .i64 p1, .int .i64 p2, .int .i64 p3, .int .i64 p4, .int .i64 p5, .int .i64 p6]
  have hp1 : (p1 != p1) = false := by simp
  have hp2 : (p2 != p2) = false := by simp
  have hp3 : (p3 != p3) = false := by simp
  have hp4 : (p4 != p4) = false := by simp
  have hp5 : (p5 != p5) = false := by simp
  have hp6 : (p6 != p6) = false := by simp
  have ht0 : (t0 != t0) = false := by simp
  go_enter Try.func44, Try.ntmps44
  go_upto_region 1 with fail
  simp only [List.toArray] at x y hb
  generalize (w.alloc (.cells #[.bool t0, .int .i64 p1, .int .i64 p2, .int .i64 p3, .int .i64 p4, .int .i64 p5, .int .i64 p6] 74 (0, 0))).alloc (.cells #[.bool t0, .int .i64 p1, .int .i64 p2, .int .i64 p3, .int .i64 p4, .int .i64 p5, .int .i64 p6] 74 (0, 0)) = w0 at *
  have q0 := x.cell (i := 0) rfl
  have r0 := y.cell (i := 0) rfl
  have q1 := x.cell (i := 1) rfl
  have r1 := y.cell (i := 1) rfl
  have q2 := x.cell (i := 2) rfl
  have r2 := y.cell (i := 2) rfl
  have q3 := x.cell (i := 3) rfl
  have r3 := y.cell (i := 3) rfl
  have q4 := x.cell (i := 4) rfl
  have r4 := y.cell (i := 4) rfl
  have q5 := x.cell (i := 5) rfl
  have r5 := y.cell (i := 5) rfl
  have q6 := x.cell (i := 6) rfl
  have r6 := y.cell (i := 6) rfl
  go_wp2_with fail
  go_ret
  exact ⟨rfl, hb⟩

set_option maxHeartbeats 4000000 in
theorem eqArg0 (t0 : Bool) (p1 : Int) (w : World)
     :
    Calls Try.prog 50 #[.agg #[.bool t0, .int .i64 p1], .agg #[.bool t0, .int .i64 p1]] w fun e w' => e = .returned (.bool true) ∧ Below w.heap.size w w' := by
  obtain ⟨x, y, hb⟩ := two_blks w 89 [.bool t0, .int .i64 p1] [.bool t0, .int .i64 p1]
  have hp1 : (p1 != p1) = false := by simp
  have ht0 : (t0 != t0) = false := by simp
  go_enter Try.func50, Try.ntmps50
  go_upto_region 1 with fail
  simp only [List.toArray] at x y hb
  generalize (w.alloc (.cells #[.bool t0, .int .i64 p1] 89 (0, 0))).alloc (.cells #[.bool t0, .int .i64 p1] 89 (0, 0)) = w0 at *
  have q0 := x.cell (i := 0) rfl
  have r0 := y.cell (i := 0) rfl
  have q1 := x.cell (i := 1) rfl
  have r1 := y.cell (i := 1) rfl
  go_wp2_with fail
  go_ret
  exact ⟨rfl, hb⟩

set_option maxHeartbeats 4000000 in
theorem eqEvent0 (p0 : Int) (p1 : Int) (p2 : Int) (p3 : Int) (a4 b4 : Option Addr) (n4 c4 d4 : Nat) (p5 : Int) (w : World)
    (H4 : EqV w 42 (.slice a4 n4 c4) (.slice b4 n4 d4)) :
    Calls Try.prog 43 #[.agg #[.int .i64 p0, .int .i64 p1, .int .i64 p2, .int .i64 p3, .slice a4 n4 c4, .int .i64 p5], .agg #[.int .i64 p0, .int .i64 p1, .int .i64 p2, .int .i64 p3, .slice b4 n4 d4, .int .i64 p5]] w fun e w' => e = .returned (.bool true) ∧ Below w.heap.size w w' := by
  obtain ⟨x, y, hb⟩ := two_blks w 50 [.int .i64 p0, .int .i64 p1, .int .i64 p2, .int .i64 p3, .slice a4 n4 c4, .int .i64 p5] [.int .i64 p0, .int .i64 p1, .int .i64 p2, .int .i64 p3, .slice b4 n4 d4, .int .i64 p5]
  have hp0 : (p0 != p0) = false := by simp
  have hp1 : (p1 != p1) = false := by simp
  have hp2 : (p2 != p2) = false := by simp
  have hp3 : (p3 != p3) = false := by simp
  have hp5 : (p5 != p5) = false := by simp
  go_enter Try.func43, Try.ntmps43
  go_upto_region 1 with fail
  simp only [List.toArray] at x y hb
  generalize (w.alloc (.cells #[.int .i64 p0, .int .i64 p1, .int .i64 p2, .int .i64 p3, .slice a4 n4 c4, .int .i64 p5] 50 (0, 0))).alloc (.cells #[.int .i64 p0, .int .i64 p1, .int .i64 p2, .int .i64 p3, .slice b4 n4 d4, .int .i64 p5] 50 (0, 0)) = w0 at *
  have q0 := x.cell (i := 0) rfl
  have r0 := y.cell (i := 0) rfl
  have q1 := x.cell (i := 1) rfl
  have r1 := y.cell (i := 1) rfl
  have q2 := x.cell (i := 2) rfl
  have r2 := y.cell (i := 2) rfl
  have q3 := x.cell (i := 3) rfl
  have r3 := y.cell (i := 3) rfl
  have q4 := x.cell (i := 4) rfl
  have r4 := y.cell (i := 4) rfl
  have q5 := x.cell (i := 5) rfl
  have r5 := y.cell (i := 5) rfl
  go_wp2_with fail
  refine (H4 w0 hb).mono ?_
  rintro e w1 ⟨rfl, hb1⟩
  clear q0 r0 q1 r1 q2 r2 q3 r3 q4 r4 q5 r5
  replace x := x.below hb1 x.lt
  replace y := y.below hb1 y.lt
  replace hb : Below w.heap.size w w1 := hb.trans (hb1.mono hb.size)
  clear hb1 H4
  have q0 := x.cell (i := 0) rfl
  have r0 := y.cell (i := 0) rfl
  have q1 := x.cell (i := 1) rfl
  have r1 := y.cell (i := 1) rfl
  have q2 := x.cell (i := 2) rfl
  have r2 := y.cell (i := 2) rfl
  have q3 := x.cell (i := 3) rfl
  have r3 := y.cell (i := 3) rfl
  have q4 := x.cell (i := 4) rfl
  have r4 := y.cell (i := 4) rfl
  have q5 := x.cell (i := 5) rfl
  have r5 := y.cell (i := 5) rfl
  go_wp2_with fail
  go_ret
  exact ⟨rfl, hb⟩

set_option maxHeartbeats 4000000 in
theorem eqAction0 (p0 : Int) (p1 : Int) (p2 : Int) (a3 b3 : Option Addr) (n3 c3 d3 : Nat) (p4 : Int) (w : World)
    (H3 : EqV w 42 (.slice a3 n3 c3) (.slice b3 n3 d3)) :
    Calls Try.prog 25 #[.agg #[.int .i64 p0, .int .i64 p1, .int .i64 p2, .slice a3 n3 c3, .int .i64 p4], .agg #[.int .i64 p0, .int .i64 p1, .int .i64 p2, .slice b3 n3 d3, .int .i64 p4]] w fun e w' => e = .returned (.bool true) ∧ Below w.heap.size w w' := by
  obtain ⟨x, y, hb⟩ := two_blks w 53 [.int .i64 p0, .int .i64 p1, .int .i64 p2, .slice a3 n3 c3, .int .i64 p4] [.int .i64 p0, .int .i64 p1, .int .i64 p2, .slice b3 n3 d3, .int .i64 p4]
  have hp0 : (p0 != p0) = false := by simp
  have hp1 : (p1 != p1) = false := by simp
  have hp2 : (p2 != p2) = false := by simp
  have hp4 : (p4 != p4) = false := by simp
  go_enter Try.func25, Try.ntmps25
  go_upto_region 1 with fail
  simp only [List.toArray] at x y hb
  generalize (w.alloc (.cells #[.int .i64 p0, .int .i64 p1, .int .i64 p2, .slice a3 n3 c3, .int .i64 p4] 53 (0, 0))).alloc (.cells #[.int .i64 p0, .int .i64 p1, .int .i64 p2, .slice b3 n3 d3, .int .i64 p4] 53 (0, 0)) = w0 at *
  have q0 := x.cell (i := 0) rfl
  have r0 := y.cell (i := 0) rfl
  have q1 := x.cell (i := 1) rfl
  have r1 := y.cell (i := 1) rfl
  have q2 := x.cell (i := 2) rfl
  have r2 := y.cell (i := 2) rfl
  have q3 := x.cell (i := 3) rfl
  have r3 := y.cell (i := 3) rfl
  have q4 := x.cell (i := 4) rfl
  have r4 := y.cell (i := 4) rfl
  go_wp2_with fail
  refine (H3 w0 hb).mono ?_
  rintro e w1 ⟨rfl, hb1⟩
  clear q0 r0 q1 r1 q2 r2 q3 r3 q4 r4
  replace x := x.below hb1 x.lt
  replace y := y.below hb1 y.lt
  replace hb : Below w.heap.size w w1 := hb.trans (hb1.mono hb.size)
  clear hb1 H3
  have q0 := x.cell (i := 0) rfl
  have r0 := y.cell (i := 0) rfl
  have q1 := x.cell (i := 1) rfl
  have r1 := y.cell (i := 1) rfl
  have q2 := x.cell (i := 2) rfl
  have r2 := y.cell (i := 2) rfl
  have q3 := x.cell (i := 3) rfl
  have r3 := y.cell (i := 3) rfl
  have q4 := x.cell (i := 4) rfl
  have r4 := y.cell (i := 4) rfl
  go_wp2_with fail
  go_ret
  exact ⟨rfl, hb⟩

set_option maxHeartbeats 4000000 in
theorem eqResult0 (p0 : Int) (p1 : Int) (p2 : Int) (p3 : Int) (p4 : Int) (p5 : Int) (a6 b6 : Option Addr) (n6 c6 d6 : Nat) (a7 b7 : Option Addr) (n7 c7 d7 : Nat) (a8 b8 : Option Addr) (n8 c8 d8 : Nat) (a9 b9 : Option Addr) (n9 c9 d9 : Nat) (a10 b10 : Option Addr) (n10 c10 d10 : Nat) (w : World)
    (H6 : EqV w 26 (.slice a6 n6 c6) (.slice b6 n6 d6)) (H7 : EqV w 27 (.slice a7 n7 c7) (.slice b7 n7 d7)) (H8 : EqV w 27 (.slice a8 n8 c8) (.slice b8 n8 d8)) (H9 : EqV w 28 (.slice a9 n9 c9) (.slice b9 n9 d9)) (H10 : EqV w 28 (.slice a10 n10 c10) (.slice b10 n10 d10)) :
    Calls Try.prog 10 #[.agg #[.int .i64 p0, .int .i64 p1, .int .i64 p2, .int .i64 p3, .int .i64 p4, .int .i64 p5, .slice a6 n6 c6, .slice a7 n7 c7, .slice a8 n8 c8, .slice a9 n9 c9, .slice a10 n10 c10], .agg #[.int .i64 p0, .int .i64 p1, .int .i64 p2, .int .i64 p3, .int .i64 p4, .int .i64 p5, .slice b6 n6 d6, .slice b7 n7 d7, .slice b8 n8 d8, .slice b9 n9 d9, .slice b10 n10 d10]] w fun e w' => e = .returned (.bool true) ∧ Below w.heap.size w w' := by
  obtain ⟨x, y, hb⟩ := two_blks w 35 [.int .i64 p0, .int .i64 p1, .int .i64 p2, .int .i64 p3, .int .i64 p4, .int .i64 p5, .slice a6 n6 c6, .slice a7 n7 c7, .slice a8 n8 c8, .slice a9 n9 c9, .slice a10 n10 c10] [.int .i64 p0, .int .i64 p1, .int .i64 p2, .int .i64 p3, .int .i64 p4, .int .i64 p5, .slice b6 n6 d6, .slice b7 n7 d7, .slice b8 n8 d8, .slice b9 n9 d9, .slice b10 n10 d10]
  have hp0 : (p0 != p0) = false := by simp
  have hp1 : (p1 != p1) = false := by simp
  have hp2 : (p2 != p2) = false := by simp
  have hp3 : (p3 != p3) = false := by simp
  have hp4 : (p4 != p4) = false := by simp
  have hp5 : (p5 != p5) = false := by simp
  go_enter Try.func10, Try.ntmps10
  go_upto_region 1 with fail
  simp only [List.toArray] at x y hb
  generalize (w.alloc (.cells #[.int .i64 p0, .int .i64 p1, .int .i64 p2, .int .i64 p3, .int .i64 p4, .int .i64 p5, .slice a6 n6 c6, .slice a7 n7 c7, .slice a8 n8 c8, .slice a9 n9 c9, .slice a10 n10 c10] 35 (0, 0))).alloc (.cells #[.int .i64 p0, .int .i64 p1, .int .i64 p2, .int .i64 p3, .int .i64 p4, .int .i64 p5, .slice b6 n6 d6, .slice b7 n7 d7, .slice b8 n8 d8, .slice b9 n9 d9, .slice b10 n10 d10] 35 (0, 0)) = w0 at *
  have q0 := x.cell (i := 0) rfl
  have r0 := y.cell (i := 0) rfl
  have q1 := x.cell (i := 1) rfl
  have r1 := y.cell (i := 1) rfl
  have q2 := x.cell (i := 2) rfl
  have r2 := y.cell (i := 2) rfl
  have q3 := x.cell (i := 3) rfl
  have r3 := y.cell (i := 3) rfl
  have q4 := x.cell (i := 4) rfl
  have r4 := y.cell (i := 4) rfl
  have q5 := x.cell (i := 5) rfl
  have r5 := y.cell (i := 5) rfl
  have q6 := x.cell (i := 6) rfl
  have r6 := y.cell (i := 6) rfl
  have q7 := x.cell (i := 7) rfl
  have r7 := y.cell (i := 7) rfl
  have q8 := x.cell (i := 8) rfl
  have r8 := y.cell (i := 8) rfl
  have q9 := x.cell (i := 9) rfl
  have r9 := y.cell (i := 9) rfl
  have q10 := x.cell (i := 10) rfl
  have r10 := y.cell (i := 10) rfl
  go_wp2_with fail
  refine (H6 w0 hb).mono ?_
  rintro e w1 ⟨rfl, hb1⟩
  clear q0 r0 q1 r1 q2 r2 q3 r3 q4 r4 q5 r5 q6 r6 q7 r7 q8 r8 q9 r9 q10 r10
  replace x := x.below hb1 x.lt
  replace y := y.below hb1 y.lt
  replace hb : Below w.heap.size w w1 := hb.trans (hb1.mono hb.size)
  clear hb1 H6
  have q0 := x.cell (i := 0) rfl
  have r0 := y.cell (i := 0) rfl
  have q1 := x.cell (i := 1) rfl
  have r1 := y.cell (i := 1) rfl
  have q2 := x.cell (i := 2) rfl
  have r2 := y.cell (i := 2) rfl
  have q3 := x.cell (i := 3) rfl
  have r3 := y.cell (i := 3) rfl
  have q4 := x.cell (i := 4) rfl
  have r4 := y.cell (i := 4) rfl
  have q5 := x.cell (i := 5) rfl
  have r5 := y.cell (i := 5) rfl
  have q6 := x.cell (i := 6) rfl
  have r6 := y.cell (i := 6) rfl
  have q7 := x.cell (i := 7) rfl
  have r7 := y.cell (i := 7) rfl
  have q8 := x.cell (i := 8) rfl
  have r8 := y.cell (i := 8) rfl
  have q9 := x.cell (i := 9) rfl
  have r9 := y.cell (i := 9) rfl
  have q10 := x.cell (i := 10) rfl
  have r10 := y.cell (i := 10) rfl
  go_wp2_with fail
  refine (H7 w1 hb).mono ?_
  rintro e w2 ⟨rfl, hb2⟩
  clear q0 r0 q1 r1 q2 r2 q3 r3 q4 r4 q5 r5 q6 r6 q7 r7 q8 r8 q9 r9 q10 r10
  replace x := x.below hb2 x.lt
  replace y := y.below hb2 y.lt
  replace hb : Below w.heap.size w w2 := hb.trans (hb2.mono hb.size)
  clear hb2 H7
  have q0 := x.cell (i := 0) rfl
  have r0 := y.cell (i := 0) rfl
  have q1 := x.cell (i := 1) rfl
  have r1 := y.cell (i := 1) rfl
  have q2 := x.cell (i := 2) rfl
  have r2 := y.cell (i := 2) rfl
  have q3 := x.cell (i := 3) rfl
  have r3 := y.cell (i := 3) rfl
  have q4 := x.cell (i := 4) rfl
  have r4 := y.cell (i := 4) rfl
  have q5 := x.cell (i := 5) rfl
  have r5 := y.cell (i := 5) rfl
  have q6 := x.cell (i := 6) rfl
  have r6 := y.cell (i := 6) rfl
  have q7 := x.cell (i := 7) rfl
  have r7 := y.cell (i := 7) rfl
  have q8 := x.cell (i := 8) rfl
  have r8 := y.cell (i := 8) rfl
  have q9 := x.cell (i := 9) rfl
  have r9 := y.cell (i := 9) rfl
  have q10 := x.cell (i := 10) rfl
  have r10 := y.cell (i := 10) rfl
  go_wp2_with fail
  refine (H8 w2 hb).mono ?_
  rintro e w3 ⟨rfl, hb3⟩
  clear q0 r0 q1 r1 q2 r2 q3 r3 q4 r4 q5 r5 q6 r6 q7 r7 q8 r8 q9 r9 q10 r10
  replace x := x.below hb3 x.lt
  replace y := y.below hb3 y.lt
  replace hb : Below w.heap.size w w3 := hb.trans (hb3.mono hb.size)
  clear hb3 H8
  have q0 := x.cell (i := 0) rfl
  have r0 := y.cell (i := 0) rfl
  have q1 := x.cell (i := 1) rfl
  have r1 := y.cell (i := 1) rfl
  have q2 := x.cell (i := 2) rfl
  have r2 := y.cell (i := 2) rfl
  have q3 := x.cell (i := 3) rfl
  have r3 := y.cell (i := 3) rfl
  have q4 := x.cell (i := 4) rfl
  have r4 := y.cell (i := 4) rfl
  have q5 := x.cell (i := 5) rfl
  have r5 := y.cell (i := 5) rfl
  have q6 := x.cell (i := 6) rfl
  have r6 := y.cell (i := 6) rfl
  have q7 := x.cell (i := 7) rfl
  have r7 := y.cell (i := 7) rfl
  have q8 := x.cell (i := 8) rfl
  have r8 := y.cell (i := 8) rfl
  have q9 := x.cell (i := 9) rfl
  have r9 := y.cell (i := 9) rfl
  have q10 := x.cell (i := 10) rfl
  have r10 := y.cell (i := 10) rfl
  go_wp2_with fail
  refine (H9 w3 hb).mono ?_
  rintro e w4 ⟨rfl, hb4⟩
  clear q0 r0 q1 r1 q2 r2 q3 r3 q4 r4 q5 r5 q6 r6 q7 r7 q8 r8 q9 r9 q10 r10
  replace x := x.below hb4 x.lt
  replace y := y.below hb4 y.lt
  replace hb : Below w.heap.size w w4 := hb.trans (hb4.mono hb.size)
  clear hb4 H9
  have q0 := x.cell (i := 0) rfl
  have r0 := y.cell (i := 0) rfl
  have q1 := x.cell (i := 1) rfl
  have r1 := y.cell (i := 1) rfl
  have q2 := x.cell (i := 2) rfl
  have r2 := y.cell (i := 2) rfl
  have q3 := x.cell (i := 3) rfl
  have r3 := y.cell (i := 3) rfl
  have q4 := x.cell (i := 4) rfl
  have r4 := y.cell (i := 4) rfl
  have q5 := x.cell (i := 5) rfl
  have r5 := y.cell (i := 5) rfl
  have q6 := x.cell (i := 6) rfl
  have r6 := y.cell (i := 6) rfl
  have q7 := x.cell (i := 7) rfl
  have r7 := y.cell (i := 7) rfl
  have q8 := x.cell (i := 8) rfl
  have r8 := y.cell (i := 8) rfl
  have q9 := x.cell (i := 9) rfl
  have r9 := y.cell (i := 9) rfl
  have q10 := x.cell (i := 10) rfl
  have r10 := y.cell (i := 10) rfl
  go_wp2_with fail
  refine (H10 w4 hb).mono ?_
  rintro e w5 ⟨rfl, hb5⟩
  clear q0 r0 q1 r1 q2 r2 q3 r3 q4 r4 q5 r5 q6 r6 q7 r7 q8 r8 q9 r9 q10 r10
  replace x := x.below hb5 x.lt
  replace y := y.below hb5 y.lt
  replace hb : Below w.heap.size w w5 := hb.trans (hb5.mono hb.size)
  clear hb5 H10
  have q0 := x.cell (i := 0) rfl
  have r0 := y.cell (i := 0) rfl
  have q1 := x.cell (i := 1) rfl
  have r1 := y.cell (i := 1) rfl
  have q2 := x.cell (i := 2) rfl
  have r2 := y.cell (i := 2) rfl
  have q3 := x.cell (i := 3) rfl
  have r3 := y.cell (i := 3) rfl
  have q4 := x.cell (i := 4) rfl
  have r4 := y.cell (i := 4) rfl
  have q5 := x.cell (i := 5) rfl
  have r5 := y.cell (i := 5) rfl
  have q6 := x.cell (i := 6) rfl
  have r6 := y.cell (i := 6) rfl
  have q7 := x.cell (i := 7) rfl
  have r7 := y.cell (i := 7) rfl
  have q8 := x.cell (i := 8) rfl
  have r8 := y.cell (i := 8) rfl
  have q9 := x.cell (i := 9) rfl
  have r9 := y.cell (i := 9) rfl
  have q10 := x.cell (i := 10) rfl
  have r10 := y.cell (i := 10) rfl
  go_wp2_with fail
  go_ret
  exact ⟨rfl, hb⟩

set_option maxHeartbeats 8000000 in
theorem eqWordSF (l : List Wo) (H : ∀ x ∈ l, EqR 44 (Wo.fl x)) : EqF 27 (.l 7 (l.map Wo.fl)) := by
  intro w0 v u hv hu w hb0
  obtain ⟨a, c, rfl, hl1⟩ := (hv.below hb0).list
  obtain ⟨a2, c2, rfl, hl2⟩ := (hu.below hb0).list
  clear hv hu hb0
  have hm : (l.map Wo.fl).length = l.length := by simp [exs_map, sts_map, txts]
  have hat : ∀ j, j < l.length → ∃ x ∈ l, (l.map Wo.fl)[j]? = some (Wo.fl x) := by
    intro j hj
    exact ⟨l[j], List.getElem_mem hj, by simp [exs_map, sts_map, txts, hj]⟩
  generalize hrs : l.map Wo.fl = rs at hl1 hl2 hm hat ⊢
  clear hrs
  rw [← hm] at hat
  generalize hn : rs.length = n at hl1 hl2 hat ⊢
  clear hm
  have hcn : n ≤ 9223372036854775807 := by have h1 := hl1.cap; have h2 := hl1.most; unfold maxLen at h2; omega
  rcases Nat.eq_zero_or_pos n with h0 | hpos
  · subst h0
    clear hl1 hl2 hat H hn
    go_enter Try.func27, Try.ntmps27
    go_wp2_with fail
    refine wp_loop_rounds 1 ?_
    rw [rounds_succ]
    go_wp2_with fail
    go_ret
    exact ⟨rfl, Below.refl _ _⟩
  · obtain ⟨k1, o1, rfl⟩ := hl1.addr (by rw [hn]; exact hpos)
    obtain ⟨k2, o2, rfl⟩ := hl2.addr (by rw [hn]; exact hpos)
    have HL1 : Hid (LRow w (some ⟨k1, o1, none⟩) c 7 rs) := hl1
    have HL2 : Hid (LRow w (some ⟨k2, o2, none⟩) c2 7 rs) := hl2
    have HA : Hid (∀ j, j < n → ∃ x ∈ l, rs[j]? = some (Wo.fl x)) := hat
    have HH : Hid (∀ x ∈ l, EqR 44 (Wo.fl x)) := H
    clear hl1 hl2 hat H hn
    go_enter Try.func27, Try.ntmps27
    go_wp2_with fail
    go_loopw [5] (fun i wr => ∃ j : Nat, j ≤ n ∧ i = .int .i64 j ∧ Below w.heap.size w wr) (fun i _ => n - (intOf i).toNat)
    case atStart => exact ⟨0, Nat.zero_le _, rfl, Below.refl _ _⟩
    case round =>
      obtain ⟨j, hj, rfl, hbr⟩ := hrel
      by_cases hlt : j < n
      · obtain ⟨x, hx, hxj⟩ := HA.out j hlt
        obtain ⟨vs, hvs, hcl⟩ := ((show LRow w (some ⟨k1, o1, none⟩) c 7 rs from HL1.out).below hbr |>.el hxj).vals
        obtain ⟨us, hus, hcl2⟩ := ((show LRow w (some ⟨k2, o2, none⟩) c2 7 rs from HL2.out).below hbr |>.el hxj).vals
        skip
        skip
        have HC := HH.out x hx wr vs us hvs hus wr.drew ((Below.refl _ wr).drew)
        clear hxj
        obtain ⟨x0, x1, x2, x3, x4, x5, x6⟩ := x
        obtain ⟨ya0, _, rfl, rfl, ya1, _, rfl, rfl, ya2, _, rfl, rfl, ya3, _, rfl, rfl, ya4, _, rfl, rfl, ya5, _, rfl, rfl, ya6, _, rfl, rfl, rfl⟩ := hvs
        obtain ⟨yb0, _, rfl, rfl, yb1, _, rfl, rfl, yb2, _, rfl, rfl, yb3, _, rfl, rfl, yb4, _, rfl, rfl, yb5, _, rfl, rfl, yb6, _, rfl, rfl, rfl⟩ := hus
        skip
        have p0 : wr.cell? ⟨k1, o1 + j * 7, none⟩ = some (.bool x0) := by exact hcl 0 _ rfl
        have q0 : wr.cell? ⟨k2, o2 + j * 7, none⟩ = some (.bool x0) := by exact hcl2 0 _ rfl
        have p1 : wr.cell? ⟨k1, o1 + j * 7 + 1, none⟩ = some (.int .i64 x1) := by exact hcl 1 _ rfl
        have q1 : wr.cell? ⟨k2, o2 + j * 7 + 1, none⟩ = some (.int .i64 x1) := by exact hcl2 1 _ rfl
        have p2 : wr.cell? ⟨k1, o1 + j * 7 + 2, none⟩ = some (.int .i64 x2) := by exact hcl 2 _ rfl
        have q2 : wr.cell? ⟨k2, o2 + j * 7 + 2, none⟩ = some (.int .i64 x2) := by exact hcl2 2 _ rfl
        have p3 : wr.cell? ⟨k1, o1 + j * 7 + 3, none⟩ = some (.int .i64 x3) := by exact hcl 3 _ rfl
        have q3 : wr.cell? ⟨k2, o2 + j * 7 + 3, none⟩ = some (.int .i64 x3) := by exact hcl2 3 _ rfl
        have p4 : wr.cell? ⟨k1, o1 + j * 7 + 4, none⟩ = some (.int .i64 x4) := by exact hcl 4 _ rfl
        have q4 : wr.cell? ⟨k2, o2 + j * 7 + 4, none⟩ = some (.int .i64 x4) := by exact hcl2 4 _ rfl
        have p5 : wr.cell? ⟨k1, o1 + j * 7 + 5, none⟩ = some (.int .i64 x5) := by exact hcl 5 _ rfl
        have q5 : wr.cell? ⟨k2, o2 + j * 7 + 5, none⟩ = some (.int .i64 x5) := by exact hcl2 5 _ rfl
        have p6 : wr.cell? ⟨k1, o1 + j * 7 + 6, none⟩ = some (.int .i64 x6) := by exact hcl 6 _ rfl
        have q6 : wr.cell? ⟨k2, o2 + j * 7 + 6, none⟩ = some (.int .i64 x6) := by exact hcl2 6 _ rfl
        clear hcl hcl2 hx 
        have HS0 : (wr.drew.cell? ⟨k1, o1 + j * 7, none⟩ = some (.bool x0) ∧ wr.drew.cell? ⟨k1, o1 + j * 7 + 1, none⟩ = some (.int .i64 x1) ∧ wr.drew.cell? ⟨k1, o1 + j * 7 + 2, none⟩ = some (.int .i64 x2) ∧ wr.drew.cell? ⟨k1, o1 + j * 7 + 3, none⟩ = some (.int .i64 x3) ∧ wr.drew.cell? ⟨k1, o1 + j * 7 + 4, none⟩ = some (.int .i64 x4) ∧ wr.drew.cell? ⟨k1, o1 + j * 7 + 5, none⟩ = some (.int .i64 x5) ∧ wr.drew.cell? ⟨k1, o1 + j * 7 + 6, none⟩ = some (.int .i64 x6) ∧ wr.drew.cell? ⟨k2, o2 + j * 7, none⟩ = some (.bool x0) ∧ wr.drew.cell? ⟨k2, o2 + j * 7 + 1, none⟩ = some (.int .i64 x1) ∧ wr.drew.cell? ⟨k2, o2 + j * 7 + 2, none⟩ = some (.int .i64 x2) ∧ wr.drew.cell? ⟨k2, o2 + j * 7 + 3, none⟩ = some (.int .i64 x3) ∧ wr.drew.cell? ⟨k2, o2 + j * 7 + 4, none⟩ = some (.int .i64 x4) ∧ wr.drew.cell? ⟨k2, o2 + j * 7 + 5, none⟩ = some (.int .i64 x5) ∧ wr.drew.cell? ⟨k2, o2 + j * 7 + 6, none⟩ = some (.int .i64 x6)) := ⟨p0, p1, p2, p3, p4, p5, p6, q0, q1, q2, q3, q4, q5, q6⟩
        have hbs : ∀ {wl : World}, Below wr.drew.heap.size wr.drew wl → (wl.cell? ⟨k1, o1 + j * 7, none⟩ = some (.bool x0) ∧ wl.cell? ⟨k1, o1 + j * 7 + 1, none⟩ = some (.int .i64 x1) ∧ wl.cell? ⟨k1, o1 + j * 7 + 2, none⟩ = some (.int .i64 x2) ∧ wl.cell? ⟨k1, o1 + j * 7 + 3, none⟩ = some (.int .i64 x3) ∧ wl.cell? ⟨k1, o1 + j * 7 + 4, none⟩ = some (.int .i64 x4) ∧ wl.cell? ⟨k1, o1 + j * 7 + 5, none⟩ = some (.int .i64 x5) ∧ wl.cell? ⟨k1, o1 + j * 7 + 6, none⟩ = some (.int .i64 x6) ∧ wl.cell? ⟨k2, o2 + j * 7, none⟩ = some (.bool x0) ∧ wl.cell? ⟨k2, o2 + j * 7 + 1, none⟩ = some (.int .i64 x1) ∧ wl.cell? ⟨k2, o2 + j * 7 + 2, none⟩ = some (.int .i64 x2) ∧ wl.cell? ⟨k2, o2 + j * 7 + 3, none⟩ = some (.int .i64 x3) ∧ wl.cell? ⟨k2, o2 + j * 7 + 4, none⟩ = some (.int .i64 x4) ∧ wl.cell? ⟨k2, o2 + j * 7 + 5, none⟩ = some (.int .i64 x5) ∧ wl.cell? ⟨k2, o2 + j * 7 + 6, none⟩ = some (.int .i64 x6)) := by
          intro wl hb
          have e1 : ∀ j, wl.cell? ⟨k1, j, none⟩ = wr.drew.cell? ⟨k1, j, none⟩ := fun j => hb.cell (show k1 < wr.heap.size from World.block_lt_of_cell? wr _ p0)
          have e2 : ∀ j, wl.cell? ⟨k2, j, none⟩ = wr.drew.cell? ⟨k2, j, none⟩ := fun j => hb.cell (show k2 < wr.heap.size from World.block_lt_of_cell? wr _ q0)
          simp only [e1, e2]
          exact HS0
        go_wp2_with fail
        go_region_held3 (fun wx => (wx.cell? ⟨k1, o1 + j * 7, none⟩ = some (.bool x0) ∧ wx.cell? ⟨k1, o1 + j * 7 + 1, none⟩ = some (.int .i64 x1) ∧ wx.cell? ⟨k1, o1 + j * 7 + 2, none⟩ = some (.int .i64 x2) ∧ wx.cell? ⟨k1, o1 + j * 7 + 3, none⟩ = some (.int .i64 x3) ∧ wx.cell? ⟨k1, o1 + j * 7 + 4, none⟩ = some (.int .i64 x4) ∧ wx.cell? ⟨k1, o1 + j * 7 + 5, none⟩ = some (.int .i64 x5) ∧ wx.cell? ⟨k1, o1 + j * 7 + 6, none⟩ = some (.int .i64 x6) ∧ wx.cell? ⟨k2, o2 + j * 7, none⟩ = some (.bool x0) ∧ wx.cell? ⟨k2, o2 + j * 7 + 1, none⟩ = some (.int .i64 x1) ∧ wx.cell? ⟨k2, o2 + j * 7 + 2, none⟩ = some (.int .i64 x2) ∧ wx.cell? ⟨k2, o2 + j * 7 + 3, none⟩ = some (.int .i64 x3) ∧ wx.cell? ⟨k2, o2 + j * 7 + 4, none⟩ = some (.int .i64 x4) ∧ wx.cell? ⟨k2, o2 + j * 7 + 5, none⟩ = some (.int .i64 x5) ∧ wx.cell? ⟨k2, o2 + j * 7 + 6, none⟩ = some (.int .i64 x6))) (first | exact HS0 | exact HSl) (first
          | (go_at_call 44; (with_reducible refine HC.mono ?_); rintro e wl ⟨rfl, hbl⟩; have HSl := hbs hbl))
        have hbw : Below w.heap.size w wl := hbr.drew.trans (hbl.mono hbr.size)
        clear HS0 hbs HC p0 q0 p1 q1 p2 q2 p3 q3 p4 q4 p5 q5 p6 q6
        go_wp2_with fail
        go_roundw
        case rel => exact ⟨j + 1, by omega, by go_num, hbw⟩
        case measure => simp [intOf]; omega
      · go_wp2_with fail
        go_ret
        exact ⟨rfl, hbr⟩

set_option maxHeartbeats 8000000 in
theorem eqArgSF (l : List Ag) (H : ∀ x ∈ l, EqR 50 (Ag.fl x)) : EqF 42 (.l 2 (l.map Ag.fl)) := by
  intro w0 v u hv hu w hb0
  obtain ⟨a, c, rfl, hl1⟩ := (hv.below hb0).list
  obtain ⟨a2, c2, rfl, hl2⟩ := (hu.below hb0).list
  clear hv hu hb0
  have hm : (l.map Ag.fl).length = l.length := by simp [exs_map, sts_map, txts]
  have hat : ∀ j, j < l.length → ∃ x ∈ l, (l.map Ag.fl)[j]? = some (Ag.fl x) := by
    intro j hj
    exact ⟨l[j], List.getElem_mem hj, by simp [exs_map, sts_map, txts, hj]⟩
  generalize hrs : l.map Ag.fl = rs at hl1 hl2 hm hat ⊢
  clear hrs
  rw [← hm] at hat
  generalize hn : rs.length = n at hl1 hl2 hat ⊢
  clear hm
  have hcn : n ≤ 9223372036854775807 := by have h1 := hl1.cap; have h2 := hl1.most; unfold maxLen at h2; omega
  rcases Nat.eq_zero_or_pos n with h0 | hpos
  · subst h0
    clear hl1 hl2 hat H hn
    go_enter Try.func42, Try.ntmps42
    go_wp2_with fail
    refine wp_loop_rounds 1 ?_
    rw [rounds_succ]
    go_wp2_with fail
    go_ret
    exact ⟨rfl, Below.refl _ _⟩
  · obtain ⟨k1, o1, rfl⟩ := hl1.addr (by rw [hn]; exact hpos)
    obtain ⟨k2, o2, rfl⟩ := hl2.addr (by rw [hn]; exact hpos)
    have HL1 : Hid (LRow w (some ⟨k1, o1, none⟩) c 2 rs) := hl1
    have HL2 : Hid (LRow w (some ⟨k2, o2, none⟩) c2 2 rs) := hl2
    have HA : Hid (∀ j, j < n → ∃ x ∈ l, rs[j]? = some (Ag.fl x)) := hat
    have HH : Hid (∀ x ∈ l, EqR 50 (Ag.fl x)) := H
    clear hl1 hl2 hat H hn
    go_enter Try.func42, Try.ntmps42
    go_wp2_with fail
    go_loopw [5] (fun i wr => ∃ j : Nat, j ≤ n ∧ i = .int .i64 j ∧ Below w.heap.size w wr) (fun i _ => n - (intOf i).toNat)
    case atStart => exact ⟨0, Nat.zero_le _, rfl, Below.refl _ _⟩
    case round =>
      obtain ⟨j, hj, rfl, hbr⟩ := hrel
      by_cases hlt : j < n
      · obtain ⟨x, hx, hxj⟩ := HA.out j hlt
        obtain ⟨vs, hvs, hcl⟩ := ((show LRow w (some ⟨k1, o1, none⟩) c 2 rs from HL1.out).below hbr |>.el hxj).vals
        obtain ⟨us, hus, hcl2⟩ := ((show LRow w (some ⟨k2, o2, none⟩) c2 2 rs from HL2.out).below hbr |>.el hxj).vals
        skip
        skip
        have HC := HH.out x hx wr vs us hvs hus wr.drew ((Below.refl _ wr).drew)
        clear hxj
        obtain ⟨x0, x1⟩ := x
        obtain ⟨ya0, _, rfl, rfl, ya1, _, rfl, rfl, rfl⟩ := hvs
        obtain ⟨yb0, _, rfl, rfl, yb1, _, rfl, rfl, rfl⟩ := hus
        skip
        have p0 : wr.cell? ⟨k1, o1 + j * 2, none⟩ = some (.bool x0) := by exact hcl 0 _ rfl
        have q0 : wr.cell? ⟨k2, o2 + j * 2, none⟩ = some (.bool x0) := by exact hcl2 0 _ rfl
        have p1 : wr.cell? ⟨k1, o1 + j * 2 + 1, none⟩ = some (.int .i64 x1) := by exact hcl 1 _ rfl
        have q1 : wr.cell? ⟨k2, o2 + j * 2 + 1, none⟩ = some (.int .i64 x1) := by exact hcl2 1 _ rfl
        clear hcl hcl2 hx 
        have HS0 : (wr.drew.cell? ⟨k1, o1 + j * 2, none⟩ = some (.bool x0) ∧ wr.drew.cell? ⟨k1, o1 + j * 2 + 1, none⟩ = some (.int .i64 x1) ∧ wr.drew.cell? ⟨k2, o2 + j * 2, none⟩ = some (.bool x0) ∧ wr.drew.cell? ⟨k2, o2 + j * 2 + 1, none⟩ = some (.int .i64 x1)) := ⟨p0, p1, q0, q1⟩
        have hbs : ∀ {wl : World}, Below wr.drew.heap.size wr.drew wl → (wl.cell? ⟨k1, o1 + j * 2, none⟩ = some (.bool x0) ∧ wl.cell? ⟨k1, o1 + j * 2 + 1, none⟩ = some (.int .i64 x1) ∧ wl.cell? ⟨k2, o2 + j * 2, none⟩ = some (.bool x0) ∧ wl.cell? ⟨k2, o2 + j * 2 + 1, none⟩ = some (.int .i64 x1)) := by
          intro wl hb
          have e1 : ∀ j, wl.cell? ⟨k1, j, none⟩ = wr.drew.cell? ⟨k1, j, none⟩ := fun j => hb.cell (show k1 < wr.heap.size from World.block_lt_of_cell? wr _ p0)
          have e2 : ∀ j, wl.cell? ⟨k2, j, none⟩ = wr.drew.cell? ⟨k2, j, none⟩ := fun j => hb.cell (show k2 < wr.heap.size from World.block_lt_of_cell? wr _ q0)
          simp only [e1, e2]
          exact HS0
        go_wp2_with fail
        go_region_held3 (fun wx => (wx.cell? ⟨k1, o1 + j * 2, none⟩ = some (.bool x0) ∧ wx.cell? ⟨k1, o1 + j * 2 + 1, none⟩ = some (.int .i64 x1) ∧ wx.cell? ⟨k2, o2 + j * 2, none⟩ = some (.bool x0) ∧ wx.cell? ⟨k2, o2 + j * 2 + 1, none⟩ = some (.int .i64 x1))) (first | exact HS0 | exact HSl) (first
          | (go_at_call 50; (with_reducible refine HC.mono ?_); rintro e wl ⟨rfl, hbl⟩; have HSl := hbs hbl))
        have hbw : Below w.heap.size w wl := hbr.drew.trans (hbl.mono hbr.size)
        clear HS0 hbs HC p0 q0 p1 q1
        go_wp2_with fail
        go_roundw
        case rel => exact ⟨j + 1, by omega, by go_num, hbw⟩
        case measure => simp [intOf]; omega
      · go_wp2_with fail
        go_ret
        exact ⟨rfl, hbr⟩

set_option maxHeartbeats 8000000 in
theorem eqEventSF (l : List Ev) (H : ∀ x ∈ l, EqR 43 (Ev.fl x)) : EqF 26 (.l 6 (l.map Ev.fl)) := by
  intro w0 v u hv hu w hb0
  obtain ⟨a, c, rfl, hl1⟩ := (hv.below hb0).list
  obtain ⟨a2, c2, rfl, hl2⟩ := (hu.below hb0).list
  clear hv hu hb0
  have hm : (l.map Ev.fl).length = l.length := by simp [exs_map, sts_map, txts]
  have hat : ∀ j, j < l.length → ∃ x ∈ l, (l.map Ev.fl)[j]? = some (Ev.fl x) := by
    intro j hj
    exact ⟨l[j], List.getElem_mem hj, by simp [exs_map, sts_map, txts, hj]⟩
  generalize hrs : l.map Ev.fl = rs at hl1 hl2 hm hat ⊢
  clear hrs
  rw [← hm] at hat
  generalize hn : rs.length = n at hl1 hl2 hat ⊢
  clear hm
  have hcn : n ≤ 9223372036854775807 := by have h1 := hl1.cap; have h2 := hl1.most; unfold maxLen at h2; omega
  rcases Nat.eq_zero_or_pos n with h0 | hpos
  · subst h0
    clear hl1 hl2 hat H hn
    go_enter Try.func26, Try.ntmps26
    go_wp2_with fail
    refine wp_loop_rounds 1 ?_
    rw [rounds_succ]
    go_wp2_with fail
    go_ret
    exact ⟨rfl, Below.refl _ _⟩
  · obtain ⟨k1, o1, rfl⟩ := hl1.addr (by rw [hn]; exact hpos)
    obtain ⟨k2, o2, rfl⟩ := hl2.addr (by rw [hn]; exact hpos)
    have HL1 : Hid (LRow w (some ⟨k1, o1, none⟩) c 6 rs) := hl1
    have HL2 : Hid (LRow w (some ⟨k2, o2, none⟩) c2 6 rs) := hl2
    have HA : Hid (∀ j, j < n → ∃ x ∈ l, rs[j]? = some (Ev.fl x)) := hat
    have HH : Hid (∀ x ∈ l, EqR 43 (Ev.fl x)) := H
    clear hl1 hl2 hat H hn
    go_enter Try.func26, Try.ntmps26
    go_wp2_with fail
    go_loopw [5] (fun i wr => ∃ j : Nat, j ≤ n ∧ i = .int .i64 j ∧ Below w.heap.size w wr) (fun i _ => n - (intOf i).toNat)
    case atStart => exact ⟨0, Nat.zero_le _, rfl, Below.refl _ _⟩
    case round =>
      obtain ⟨j, hj, rfl, hbr⟩ := hrel
      by_cases hlt : j < n
      · obtain ⟨x, hx, hxj⟩ := HA.out j hlt
        obtain ⟨vs, hvs, hcl⟩ := ((show LRow w (some ⟨k1, o1, none⟩) c 6 rs from HL1.out).below hbr |>.el hxj).vals
        obtain ⟨us, hus, hcl2⟩ := ((show LRow w (some ⟨k2, o2, none⟩) c2 6 rs from HL2.out).below hbr |>.el hxj).vals
        skip
        skip
        have HC := HH.out x hx wr vs us hvs hus wr.drew ((Below.refl _ wr).drew)
        clear hxj
        obtain ⟨x0, x1, x2, x3, x4, x5⟩ := x
        obtain ⟨ya0, _, rfl, rfl, ya1, _, rfl, rfl, ya2, _, rfl, rfl, ya3, _, rfl, rfl, ya4, _, rfl, ⟨a4, c4, rfl, da4⟩, ya5, _, rfl, rfl, rfl⟩ := hvs
        obtain ⟨yb0, _, rfl, rfl, yb1, _, rfl, rfl, yb2, _, rfl, rfl, yb3, _, rfl, rfl, yb4, _, rfl, ⟨b4, d4, rfl, db4⟩, yb5, _, rfl, rfl, rfl⟩ := hus
        generalize (List.map Ag.fl x4).length = m4 at HC hcl hcl2
        have p0 : wr.cell? ⟨k1, o1 + j * 6, none⟩ = some (.int .i64 x0) := by exact hcl 0 _ rfl
        have q0 : wr.cell? ⟨k2, o2 + j * 6, none⟩ = some (.int .i64 x0) := by exact hcl2 0 _ rfl
        have p1 : wr.cell? ⟨k1, o1 + j * 6 + 1, none⟩ = some (.int .i64 x1) := by exact hcl 1 _ rfl
        have q1 : wr.cell? ⟨k2, o2 + j * 6 + 1, none⟩ = some (.int .i64 x1) := by exact hcl2 1 _ rfl
        have p2 : wr.cell? ⟨k1, o1 + j * 6 + 2, none⟩ = some (.int .i64 x2) := by exact hcl 2 _ rfl
        have q2 : wr.cell? ⟨k2, o2 + j * 6 + 2, none⟩ = some (.int .i64 x2) := by exact hcl2 2 _ rfl
        have p3 : wr.cell? ⟨k1, o1 + j * 6 + 3, none⟩ = some (.int .i64 x3) := by exact hcl 3 _ rfl
        have q3 : wr.cell? ⟨k2, o2 + j * 6 + 3, none⟩ = some (.int .i64 x3) := by exact hcl2 3 _ rfl
        have p4 : wr.cell? ⟨k1, o1 + j * 6 + 4, none⟩ = some (.slice a4 m4 c4) := by exact hcl 4 _ rfl
        have q4 : wr.cell? ⟨k2, o2 + j * 6 + 4, none⟩ = some (.slice b4 m4 d4) := by exact hcl2 4 _ rfl
        have p5 : wr.cell? ⟨k1, o1 + j * 6 + 5, none⟩ = some (.int .i64 x5) := by exact hcl 5 _ rfl
        have q5 : wr.cell? ⟨k2, o2 + j * 6 + 5, none⟩ = some (.int .i64 x5) := by exact hcl2 5 _ rfl
        clear hcl hcl2 hx da4 db4
        have HS0 : (wr.drew.cell? ⟨k1, o1 + j * 6, none⟩ = some (.int .i64 x0) ∧ wr.drew.cell? ⟨k1, o1 + j * 6 + 1, none⟩ = some (.int .i64 x1) ∧ wr.drew.cell? ⟨k1, o1 + j * 6 + 2, none⟩ = some (.int .i64 x2) ∧ wr.drew.cell? ⟨k1, o1 + j * 6 + 3, none⟩ = some (.int .i64 x3) ∧ wr.drew.cell? ⟨k1, o1 + j * 6 + 4, none⟩ = some (.slice a4 m4 c4) ∧ wr.drew.cell? ⟨k1, o1 + j * 6 + 5, none⟩ = some (.int .i64 x5) ∧ wr.drew.cell? ⟨k2, o2 + j * 6, none⟩ = some (.int .i64 x0) ∧ wr.drew.cell? ⟨k2, o2 + j * 6 + 1, none⟩ = some (.int .i64 x1) ∧ wr.drew.cell? ⟨k2, o2 + j * 6 + 2, none⟩ = some (.int .i64 x2) ∧ wr.drew.cell? ⟨k2, o2 + j * 6 + 3, none⟩ = some (.int .i64 x3) ∧ wr.drew.cell? ⟨k2, o2 + j * 6 + 4, none⟩ = some (.slice b4 m4 d4) ∧ wr.drew.cell? ⟨k2, o2 + j * 6 + 5, none⟩ = some (.int .i64 x5)) := ⟨p0, p1, p2, p3, p4, p5, q0, q1, q2, q3, q4, q5⟩
        have hbs : ∀ {wl : World}, Below wr.drew.heap.size wr.drew wl → (wl.cell? ⟨k1, o1 + j * 6, none⟩ = some (.int .i64 x0) ∧ wl.cell? ⟨k1, o1 + j * 6 + 1, none⟩ = some (.int .i64 x1) ∧ wl.cell? ⟨k1, o1 + j * 6 + 2, none⟩ = some (.int .i64 x2) ∧ wl.cell? ⟨k1, o1 + j * 6 + 3, none⟩ = some (.int .i64 x3) ∧ wl.cell? ⟨k1, o1 + j * 6 + 4, none⟩ = some (.slice a4 m4 c4) ∧ wl.cell? ⟨k1, o1 + j * 6 + 5, none⟩ = some (.int .i64 x5) ∧ wl.cell? ⟨k2, o2 + j * 6, none⟩ = some (.int .i64 x0) ∧ wl.cell? ⟨k2, o2 + j * 6 + 1, none⟩ = some (.int .i64 x1) ∧ wl.cell? ⟨k2, o2 + j * 6 + 2, none⟩ = some (.int .i64 x2) ∧ wl.cell? ⟨k2, o2 + j * 6 + 3, none⟩ = some (.int .i64 x3) ∧ wl.cell? ⟨k2, o2 + j * 6 + 4, none⟩ = some (.slice b4 m4 d4) ∧ wl.cell? ⟨k2, o2 + j * 6 + 5, none⟩ = some (.int .i64 x5)) := by
          intro wl hb
          have e1 : ∀ j, wl.cell? ⟨k1, j, none⟩ = wr.drew.cell? ⟨k1, j, none⟩ := fun j => hb.cell (show k1 < wr.heap.size from World.block_lt_of_cell? wr _ p0)
          have e2 : ∀ j, wl.cell? ⟨k2, j, none⟩ = wr.drew.cell? ⟨k2, j, none⟩ := fun j => hb.cell (show k2 < wr.heap.size from World.block_lt_of_cell? wr _ q0)
          simp only [e1, e2]
          exact HS0
        go_wp2_with fail
        go_region_held3 (fun wx => (wx.cell? ⟨k1, o1 + j * 6, none⟩ = some (.int .i64 x0) ∧ wx.cell? ⟨k1, o1 + j * 6 + 1, none⟩ = some (.int .i64 x1) ∧ wx.cell? ⟨k1, o1 + j * 6 + 2, none⟩ = some (.int .i64 x2) ∧ wx.cell? ⟨k1, o1 + j * 6 + 3, none⟩ = some (.int .i64 x3) ∧ wx.cell? ⟨k1, o1 + j * 6 + 4, none⟩ = some (.slice a4 m4 c4) ∧ wx.cell? ⟨k1, o1 + j * 6 + 5, none⟩ = some (.int .i64 x5) ∧ wx.cell? ⟨k2, o2 + j * 6, none⟩ = some (.int .i64 x0) ∧ wx.cell? ⟨k2, o2 + j * 6 + 1, none⟩ = some (.int .i64 x1) ∧ wx.cell? ⟨k2, o2 + j * 6 + 2, none⟩ = some (.int .i64 x2) ∧ wx.cell? ⟨k2, o2 + j * 6 + 3, none⟩ = some (.int .i64 x3) ∧ wx.cell? ⟨k2, o2 + j * 6 + 4, none⟩ = some (.slice b4 m4 d4) ∧ wx.cell? ⟨k2, o2 + j * 6 + 5, none⟩ = some (.int .i64 x5))) (first | exact HS0 | exact HSl) (first
          | (go_at_call 43; (with_reducible refine HC.mono ?_); rintro e wl ⟨rfl, hbl⟩; have HSl := hbs hbl))
        have hbw : Below w.heap.size w wl := hbr.drew.trans (hbl.mono hbr.size)
        clear HS0 hbs HC p0 q0 p1 q1 p2 q2 p3 q3 p4 q4 p5 q5
        go_wp2_with fail
        go_roundw
        case rel => exact ⟨j + 1, by omega, by go_num, hbw⟩
        case measure => simp [intOf]; omega
      · go_wp2_with fail
        go_ret
        exact ⟨rfl, hbr⟩

set_option maxHeartbeats 8000000 in
theorem eqActionSF (l : List Ac) (H : ∀ x ∈ l, EqR 25 (Ac.fl x)) : EqF 9 (.l 5 (l.map Ac.fl)) := by
  intro w0 v u hv hu w hb0
  obtain ⟨a, c, rfl, hl1⟩ := (hv.below hb0).list
  obtain ⟨a2, c2, rfl, hl2⟩ := (hu.below hb0).list
  clear hv hu hb0
  have hm : (l.map Ac.fl).length = l.length := by simp [exs_map, sts_map, txts]
  have hat : ∀ j, j < l.length → ∃ x ∈ l, (l.map Ac.fl)[j]? = some (Ac.fl x) := by
    intro j hj
    exact ⟨l[j], List.getElem_mem hj, by simp [exs_map, sts_map, txts, hj]⟩
  generalize hrs : l.map Ac.fl = rs at hl1 hl2 hm hat ⊢
  clear hrs
  rw [← hm] at hat
  generalize hn : rs.length = n at hl1 hl2 hat ⊢
  clear hm
  have hcn : n ≤ 9223372036854775807 := by have h1 := hl1.cap; have h2 := hl1.most; unfold maxLen at h2; omega
  rcases Nat.eq_zero_or_pos n with h0 | hpos
  · subst h0
    clear hl1 hl2 hat H hn
    go_enter Try.func9, Try.ntmps9
    go_wp2_with fail
    refine wp_loop_rounds 1 ?_
    rw [rounds_succ]
    go_wp2_with fail
    go_ret
    exact ⟨rfl, Below.refl _ _⟩
  · obtain ⟨k1, o1, rfl⟩ := hl1.addr (by rw [hn]; exact hpos)
    obtain ⟨k2, o2, rfl⟩ := hl2.addr (by rw [hn]; exact hpos)
    have HL1 : Hid (LRow w (some ⟨k1, o1, none⟩) c 5 rs) := hl1
    have HL2 : Hid (LRow w (some ⟨k2, o2, none⟩) c2 5 rs) := hl2
    have HA : Hid (∀ j, j < n → ∃ x ∈ l, rs[j]? = some (Ac.fl x)) := hat
    have HH : Hid (∀ x ∈ l, EqR 25 (Ac.fl x)) := H
    clear hl1 hl2 hat H hn
    go_enter Try.func9, Try.ntmps9
    go_wp2_with fail
    go_loopw [5] (fun i wr => ∃ j : Nat, j ≤ n ∧ i = .int .i64 j ∧ Below w.heap.size w wr) (fun i _ => n - (intOf i).toNat)
    case atStart => exact ⟨0, Nat.zero_le _, rfl, Below.refl _ _⟩
    case round =>
      obtain ⟨j, hj, rfl, hbr⟩ := hrel
      by_cases hlt : j < n
      · obtain ⟨x, hx, hxj⟩ := HA.out j hlt
        obtain ⟨vs, hvs, hcl⟩ := ((show LRow w (some ⟨k1, o1, none⟩) c 5 rs from HL1.out).below hbr |>.el hxj).vals
        obtain ⟨us, hus, hcl2⟩ := ((show LRow w (some ⟨k2, o2, none⟩) c2 5 rs from HL2.out).below hbr |>.el hxj).vals
        skip
        skip
        have HC := HH.out x hx wr vs us hvs hus wr.drew ((Below.refl _ wr).drew)
        clear hxj
        obtain ⟨x0, x1, x2, x3, x4⟩ := x
        obtain ⟨ya0, _, rfl, rfl, ya1, _, rfl, rfl, ya2, _, rfl, rfl, ya3, _, rfl, ⟨a3, c3, rfl, da3⟩, ya4, _, rfl, rfl, rfl⟩ := hvs
        obtain ⟨yb0, _, rfl, rfl, yb1, _, rfl, rfl, yb2, _, rfl, rfl, yb3, _, rfl, ⟨b3, d3, rfl, db3⟩, yb4, _, rfl, rfl, rfl⟩ := hus
        generalize (List.map Ag.fl x3).length = m3 at HC hcl hcl2
        have p0 : wr.cell? ⟨k1, o1 + j * 5, none⟩ = some (.int .i64 x0) := by exact hcl 0 _ rfl
        have q0 : wr.cell? ⟨k2, o2 + j * 5, none⟩ = some (.int .i64 x0) := by exact hcl2 0 _ rfl
        have p1 : wr.cell? ⟨k1, o1 + j * 5 + 1, none⟩ = some (.int .i64 x1) := by exact hcl 1 _ rfl
        have q1 : wr.cell? ⟨k2, o2 + j * 5 + 1, none⟩ = some (.int .i64 x1) := by exact hcl2 1 _ rfl
        have p2 : wr.cell? ⟨k1, o1 + j * 5 + 2, none⟩ = some (.int .i64 x2) := by exact hcl 2 _ rfl
        have q2 : wr.cell? ⟨k2, o2 + j * 5 + 2, none⟩ = some (.int .i64 x2) := by exact hcl2 2 _ rfl
        have p3 : wr.cell? ⟨k1, o1 + j * 5 + 3, none⟩ = some (.slice a3 m3 c3) := by exact hcl 3 _ rfl
        have q3 : wr.cell? ⟨k2, o2 + j * 5 + 3, none⟩ = some (.slice b3 m3 d3) := by exact hcl2 3 _ rfl
        have p4 : wr.cell? ⟨k1, o1 + j * 5 + 4, none⟩ = some (.int .i64 x4) := by exact hcl 4 _ rfl
        have q4 : wr.cell? ⟨k2, o2 + j * 5 + 4, none⟩ = some (.int .i64 x4) := by exact hcl2 4 _ rfl
        clear hcl hcl2 hx da3 db3
        have HS0 : (wr.drew.cell? ⟨k1, o1 + j * 5, none⟩ = some (.int .i64 x0) ∧ wr.drew.cell? ⟨k1, o1 + j * 5 + 1, none⟩ = some (.int .i64 x1) ∧ wr.drew.cell? ⟨k1, o1 + j * 5 + 2, none⟩ = some (.int .i64 x2) ∧ wr.drew.cell? ⟨k1, o1 + j * 5 + 3, none⟩ = some (.slice a3 m3 c3) ∧ wr.drew.cell? ⟨k1, o1 + j * 5 + 4, none⟩ = some (.int .i64 x4) ∧ wr.drew.cell? ⟨k2, o2 + j * 5, none⟩ = some (.int .i64 x0) ∧ wr.drew.cell? ⟨k2, o2 + j * 5 + 1, none⟩ = some (.int .i64 x1) ∧ wr.drew.cell? ⟨k2, o2 + j * 5 + 2, none⟩ = some (.int .i64 x2) ∧ wr.drew.cell? ⟨k2, o2 + j * 5 + 3, none⟩ = some (.slice b3 m3 d3) ∧ wr.drew.cell? ⟨k2, o2 + j * 5 + 4, none⟩ = some (.int .i64 x4)) := ⟨p0, p1, p2, p3, p4, q0, q1, q2, q3, q4⟩
        have hbs : ∀ {wl : World}, Below wr.drew.heap.size wr.drew wl → (wl.cell? ⟨k1, o1 + j * 5, none⟩ = some (.int .i64 x0) ∧ wl.cell? ⟨k1, o1 + j * 5 + 1, none⟩ = some (.int .i64 x1) ∧ wl.cell? ⟨k1, o1 + j * 5 + 2, none⟩ = some (.int .i64 x2) ∧ wl.cell? ⟨k1, o1 + j * 5 + 3, none⟩ = some (.slice a3 m3 c3) ∧ wl.cell? ⟨k1, o1 + j * 5 + 4, none⟩ = some (.int .i64 x4) ∧ wl.cell? ⟨k2, o2 + j * 5, none⟩ = some (.int .i64 x0) ∧ wl.cell? ⟨k2, o2 + j * 5 + 1, none⟩ = some (.int .i64 x1) ∧ wl.cell? ⟨k2, o2 + j * 5 + 2, none⟩ = some (.int .i64 x2) ∧ wl.cell? ⟨k2, o2 + j * 5 + 3, none⟩ = some (.slice b3 m3 d3) ∧ wl.cell? ⟨k2, o2 + j * 5 + 4, none⟩ = some (.int .i64 x4)) := by
          intro wl hb
          have e1 : ∀ j, wl.cell? ⟨k1, j, none⟩ = wr.drew.cell? ⟨k1, j, none⟩ := fun j => hb.cell (show k1 < wr.heap.size from World.block_lt_of_cell? wr _ p0)
          have e2 : ∀ j, wl.cell? ⟨k2, j, none⟩ = wr.drew.cell? ⟨k2, j, none⟩ := fun j => hb.cell (show k2 < wr.heap.size from World.block_lt_of_cell? wr _ q0)
          simp only [e1, e2]
          exact HS0
        go_wp2_with fail
        go_region_held3 (fun wx => (wx.cell? ⟨k1, o1 + j * 5, none⟩ = some (.int .i64 x0) ∧ wx.cell? ⟨k1, o1 + j * 5 + 1, none⟩ = some (.int .i64 x1) ∧ wx.cell? ⟨k1, o1 + j * 5 + 2, none⟩ = some (.int .i64 x2) ∧ wx.cell? ⟨k1, o1 + j * 5 + 3, none⟩ = some (.slice a3 m3 c3) ∧ wx.cell? ⟨k1, o1 + j * 5 + 4, none⟩ = some (.int .i64 x4) ∧ wx.cell? ⟨k2, o2 + j * 5, none⟩ = some (.int .i64 x0) ∧ wx.cell? ⟨k2, o2 + j * 5 + 1, none⟩ = some (.int .i64 x1) ∧ wx.cell? ⟨k2, o2 + j * 5 + 2, none⟩ = some (.int .i64 x2) ∧ wx.cell? ⟨k2, o2 + j * 5 + 3, none⟩ = some (.slice b3 m3 d3) ∧ wx.cell? ⟨k2, o2 + j * 5 + 4, none⟩ = some (.int .i64 x4))) (first | exact HS0 | exact HSl) (first
          | (go_at_call 25; (with_reducible refine HC.mono ?_); rintro e wl ⟨rfl, hbl⟩; have HSl := hbs hbl))
        have hbw : Below w.heap.size w wl := hbr.drew.trans (hbl.mono hbr.size)
        clear HS0 hbs HC p0 q0 p1 q1 p2 q2 p3 q3 p4 q4
        go_wp2_with fail
        go_roundw
        case rel => exact ⟨j + 1, by omega, by go_num, hbw⟩
        case measure => simp [intOf]; omega
      · go_wp2_with fail
        go_ret
        exact ⟨rfl, hbr⟩

theorem eqIntF (l : List Int) (hl : l.length ≤ 1048576) : EqF 28 (.i l) := by
  rintro w v u hv hu w1 hb
  obtain ⟨a, c, rfl, hr, _⟩ := hv.below hb
  obtain ⟨a2, c2, rfl, hr2, _⟩ := hu.below hb
  refine (eqI _ _ _ l _ _ _ l _ hr hr2 (by omega)).mono ?_
  rintro e w' ⟨rfl, d, rfl⟩
  exact ⟨by rw [decide_eq_true rfl], below_drewN (Below.refl _ _) d⟩

theorem EqV.on {w w1 : World} {F : Nat} {v u : Value} (h : EqV w F v u) (hb : Below w.heap.size w w1) : EqV w1 F v u :=
  fun w2 hb2 => h w2 (hb.trans (hb2.mono hb.size))

theorem eqWordR (x0 : Bool) (x1 : Int) (x2 : Int) (x3 : Int) (x4 : Int) (x5 : Int) (x6 : Int)  : EqR 44 (Wo.mk x0 x1 x2 x3 x4 x5 x6).fl := by
  intro w vs us hv hu w1 hb
  unfold Wo.fl at hv hu
  obtain ⟨yh0, _, rfl, rfl, yh1, _, rfl, rfl, yh2, _, rfl, rfl, yh3, _, rfl, rfl, yh4, _, rfl, rfl, yh5, _, rfl, rfl, yh6, _, rfl, rfl, rfl⟩ := hv
  obtain ⟨yk0, _, rfl, rfl, yk1, _, rfl, rfl, yk2, _, rfl, rfl, yk3, _, rfl, rfl, yk4, _, rfl, rfl, yk5, _, rfl, rfl, yk6, _, rfl, rfl, rfl⟩ := hu
  exact eqWord0 x0 x1 x2 x3 x4 x5 x6 w1 

theorem eqArgR (x0 : Bool) (x1 : Int)  : EqR 50 (Ag.mk x0 x1).fl := by
  intro w vs us hv hu w1 hb
  unfold Ag.fl at hv hu
  obtain ⟨yh0, _, rfl, rfl, yh1, _, rfl, rfl, rfl⟩ := hv
  obtain ⟨yk0, _, rfl, rfl, yk1, _, rfl, rfl, rfl⟩ := hu
  exact eqArg0 x0 x1 w1 

theorem eqEventR (x0 : Int) (x1 : Int) (x2 : Int) (x3 : Int) (x4 : List Ag) (x5 : Int) (S4 : EqF 42 (.l 2 (x4.map Ag.fl))) : EqR 43 (Ev.mk x0 x1 x2 x3 x4 x5).fl := by
  intro w vs us hv hu w1 hb
  unfold Ev.fl at hv hu
  obtain ⟨yh0, _, rfl, rfl, yh1, _, rfl, rfl, yh2, _, rfl, rfl, yh3, _, rfl, rfl, yh4, _, rfl, h4, yh5, _, rfl, rfl, rfl⟩ := hv
  obtain ⟨yk0, _, rfl, rfl, yk1, _, rfl, rfl, yk2, _, rfl, rfl, yk3, _, rfl, rfl, yk4, _, rfl, k4, yk5, _, rfl, rfl, rfl⟩ := hu
  have g4 := (S4 w _ _ h4 k4).on hb
  obtain ⟨a4, c4, rfl, _⟩ := h4
  obtain ⟨b4, d4, rfl, _⟩ := k4
  exact eqEvent0 x0 x1 x2 x3 a4 b4 _ c4 d4 x5 w1 g4

theorem eqActionR (x0 : Int) (x1 : Int) (x2 : Int) (x3 : List Ag) (x4 : Int) (S3 : EqF 42 (.l 2 (x3.map Ag.fl))) : EqR 25 (Ac.mk x0 x1 x2 x3 x4).fl := by
  intro w vs us hv hu w1 hb
  unfold Ac.fl at hv hu
  obtain ⟨yh0, _, rfl, rfl, yh1, _, rfl, rfl, yh2, _, rfl, rfl, yh3, _, rfl, h3, yh4, _, rfl, rfl, rfl⟩ := hv
  obtain ⟨yk0, _, rfl, rfl, yk1, _, rfl, rfl, yk2, _, rfl, rfl, yk3, _, rfl, k3, yk4, _, rfl, rfl, rfl⟩ := hu
  have g3 := (S3 w _ _ h3 k3).on hb
  obtain ⟨a3, c3, rfl, _⟩ := h3
  obtain ⟨b3, d3, rfl, _⟩ := k3
  exact eqAction0 x0 x1 x2 a3 b3 _ c3 d3 x4 w1 g3

theorem eqResultR (x0 : Int) (x1 : Int) (x2 : Int) (x3 : Int) (x4 : Int) (x5 : Int) (x6 : List Ev) (x7 : List Wo) (x8 : List Wo) (x9 : List Int) (x10 : List Int) (S6 : EqF 26 (.l 6 (x6.map Ev.fl))) (S7 : EqF 27 (.l 7 (x7.map Wo.fl))) (S8 : EqF 27 (.l 7 (x8.map Wo.fl))) (S9 : EqF 28 (.i x9)) (S10 : EqF 28 (.i x10)) : EqR 10 (Rs.mk x0 x1 x2 x3 x4 x5 x6 x7 x8 x9 x10).fl := by
  intro w vs us hv hu w1 hb
  unfold Rs.fl at hv hu
  obtain ⟨yh0, _, rfl, rfl, yh1, _, rfl, rfl, yh2, _, rfl, rfl, yh3, _, rfl, rfl, yh4, _, rfl, rfl, yh5, _, rfl, rfl, yh6, _, rfl, h6, yh7, _, rfl, h7, yh8, _, rfl, h8, yh9, _, rfl, h9, yh10, _, rfl, h10, rfl⟩ := hv
  obtain ⟨yk0, _, rfl, rfl, yk1, _, rfl, rfl, yk2, _, rfl, rfl, yk3, _, rfl, rfl, yk4, _, rfl, rfl, yk5, _, rfl, rfl, yk6, _, rfl, k6, yk7, _, rfl, k7, yk8, _, rfl, k8, yk9, _, rfl, k9, yk10, _, rfl, k10, rfl⟩ := hu
  have g6 := (S6 w _ _ h6 k6).on hb
  have g7 := (S7 w _ _ h7 k7).on hb
  have g8 := (S8 w _ _ h8 k8).on hb
  have g9 := (S9 w _ _ h9 k9).on hb
  have g10 := (S10 w _ _ h10 k10).on hb
  obtain ⟨a6, c6, rfl, _⟩ := h6
  obtain ⟨b6, d6, rfl, _⟩ := k6
  obtain ⟨a7, c7, rfl, _⟩ := h7
  obtain ⟨b7, d7, rfl, _⟩ := k7
  obtain ⟨a8, c8, rfl, _⟩ := h8
  obtain ⟨b8, d8, rfl, _⟩ := k8
  obtain ⟨a9, c9, rfl, _⟩ := h9
  obtain ⟨b9, d9, rfl, _⟩ := k9
  obtain ⟨a10, c10, rfl, _⟩ := h10
  obtain ⟨b10, d10, rfl, _⟩ := k10
  exact eqResult0 x0 x1 x2 x3 x4 x5 a6 b6 _ c6 d6 a7 b7 _ c7 d7 a8 b8 _ c8 d8 a9 b9 _ c9 d9 a10 b10 _ c10 d10 w1 g6 g7 g8 g9 g10

theorem eqAcs (l : List Ac) (h : (l.map Ac.fl).length + rowsLen (l.map Ac.fl) ≤ 1048576) : EqF 9 (.l 5 (l.map Ac.fl)) := by
  refine eqActionSF _ fun q hq => ?_
  have := rec_le (f := Ac.fl) hq
  have e2 : recLen q.fl = (q.args.map Ag.fl).length + rowsLen (q.args.map Ag.fl) := by simp [Ac.fl, recLen, Fl.len]
  rw [e2] at this
  exact eqActionR q.kind q.to q.proc q.args q.n (eqArgSF _ fun z _ => eqArgR z.arr z.n)

theorem eqRs (x : Rs) (h : recLen x.fl ≤ 1048576) : EqR 10 x.fl := by
  have e : recLen x.fl = ((x.ev.map Ev.fl).length + rowsLen (x.ev.map Ev.fl)) + ((x.regs.map Wo.fl).length + rowsLen (x.regs.map Wo.fl)) + ((x.words.map Wo.fl).length + rowsLen (x.words.map Wo.fl)) + x.wrote.length + x.read.length := by simp [Rs.fl, recLen, Fl.len] <;> omega
  rw [e] at h
  refine eqResultR x.fin x.code x.who x.mod x.low x.steps x.ev x.regs x.words x.wrote x.read (eqEventSF _ fun q hq => ?_) (eqWordSF _ fun q _ => eqWordR q.t q.n q.l q.h q.a q.p q.s) (eqWordSF _ fun q _ => eqWordR q.t q.n q.l q.h q.a q.p q.s) (eqIntF _ (by omega)) (eqIntF _ (by omega))
  have := rec_le (f := Ev.fl) hq
  have e2 : recLen q.fl = (q.args.map Ag.fl).length + rowsLen (q.args.map Ag.fl) := by simp [Ev.fl, recLen, Fl.len]
  rw [e2] at this
  exact eqEventR q.kind q.fr q.to q.proc q.args q.n (eqArgSF _ fun z _ => eqArgR z.arr z.n)

end Go.Proofs.Ytpkbeeicffoaoaa

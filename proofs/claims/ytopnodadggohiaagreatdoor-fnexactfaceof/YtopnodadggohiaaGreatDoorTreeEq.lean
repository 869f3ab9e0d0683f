/- Contracts of the laws' own helpers that compare modules: where both read alike, they say so. By mktreeeq.py. -/
import Derived.Test.YtopnodadggohiaaGreatDoorTreeTo2
namespace Go.Proofs.YtopnodadggohiaaGreatDoor
open Go.RowKit
set_option linter.unusedVariables false
set_option linter.unusedSimpArgs false
set_option maxRecDepth 100000

def EqV (w : World) (F : Nat) (v u : Value) : Prop :=
 ∀ w1 : World, Below w.heap.size w w1 → Calls Tryz.prog F #[v, u] w1 fun e w' => e = .returned (.bool true) ∧ Below w1.heap.size w1 w'
def EqF (F : Nat) (f : Fl) : Prop := ∀ (w : World) (v u : Value), f.Rd w v → f.Rd w u → EqV w F v u
def EqR (F : Nat) (r : List Fl) : Prop := ∀ (w : World) (vs us : List Value), RdVals w r vs → RdVals w r us → EqV w F (.agg vs.toArray) (.agg us.toArray)

theorem two_blks (w : World) (t : TypeId) (A B : List Value) :
  Blk ((w.alloc (.cells A.toArray t (0, 0))).alloc (.cells B.toArray t (0, 0))) w.heap.size t A ∧ Blk ((w.alloc (.cells A.toArray t (0, 0))).alloc (.cells B.toArray t (0, 0))) (w.heap.size + 1) t B ∧ Below w.heap.size w ((w.alloc (.cells A.toArray t (0, 0))).alloc (.cells B.toArray t (0, 0))) := by
 have h := Blk.new (w.alloc (.cells A.toArray t (0, 0))) t B
 rw [show (w.alloc (.cells A.toArray t (0, 0))).heap.size = w.heap.size + 1 by simp] at h
 exact ⟨(Blk.new w t A).old, h, ((Below.refl _ _).alloc (Nat.le_refl _) _).alloc (by simp) _⟩

set_option maxHeartbeats 4000000 in
theorem eqVar0 (a0 b0 : Option Addr) (n0 c0 d0 : Nat) (p1 : Int) (w : World)
  (H0 : EqV w 32 (.slice a0 n0 c0) (.slice b0 n0 d0)) :
  Calls Tryz.prog 68 #[.agg #[.slice a0 n0 c0, .int .i64 p1], .agg #[.slice b0 n0 d0, .int .i64 p1]] w fun e w' => e = .returned (.bool true) ∧ Below w.heap.size w w' := by
 obtain ⟨x, y, hb⟩ := two_blks w 101 [.slice a0 n0 c0, .int .i64 p1] [.slice b0 n0 d0, .int .i64 p1]
 have hp1 : (p1 != p1) = false := by simp
 go_enter Tryz.func68, Tryz.ntmps68
 go_upto_region 1 with fail
 simp only [List.toArray] at x y hb
 generalize (w.alloc (.cells #[.slice a0 n0 c0, .int .i64 p1] 101 (0, 0))).alloc (.cells #[.slice b0 n0 d0, .int .i64 p1] 101 (0, 0)) = w0 at *
 have q0 := x.cell (i := 0) rfl
 have r0 := y.cell (i := 0) rfl
 have q1 := x.cell (i := 1) rfl
 have r1 := y.cell (i := 1) rfl
 go_wp2_with fail
 refine (H0 w0 hb).mono ?_
 rintro e w1 ⟨rfl, hb1⟩
 clear q0 r0 q1 r1
 replace x := x.below hb1 x.lt
 replace y := y.below hb1 y.lt
 replace hb : Below w.heap.size w w1 := hb.trans (hb1.mono hb.size)
 clear hb1 H0
 have q0 := x.cell (i := 0) rfl
 have r0 := y.cell (i := 0) rfl
 have q1 := x.cell (i := 1) rfl
 have r1 := y.cell (i := 1) rfl
 go_wp2_with fail
 go_ret
 exact ⟨rfl, hb⟩

set_option maxHeartbeats 4000000 in
theorem eqParam0 (a0 b0 : Option Addr) (n0 c0 d0 : Nat) (t1 : Bool) (w : World)
  (H0 : EqV w 32 (.slice a0 n0 c0) (.slice b0 n0 d0)) :
  Calls Tryz.prog 154 #[.agg #[.slice a0 n0 c0, .bool t1], .agg #[.slice b0 n0 d0, .bool t1]] w fun e w' => e = .returned (.bool true) ∧ Below w.heap.size w w' := by
 obtain ⟨x, y, hb⟩ := two_blks w 107 [.slice a0 n0 c0, .bool t1] [.slice b0 n0 d0, .bool t1]
 have ht1 : (t1 != t1) = false := by simp
 go_enter Tryz.func154, Tryz.ntmps154
 go_upto_region 1 with fail
 simp only [List.toArray] at x y hb
 generalize (w.alloc (.cells #[.slice a0 n0 c0, .bool t1] 107 (0, 0))).alloc (.cells #[.slice b0 n0 d0, .bool t1] 107 (0, 0)) = w0 at *
 have q0 := x.cell (i := 0) rfl
 have r0 := y.cell (i := 0) rfl
 have q1 := x.cell (i := 1) rfl
 have r1 := y.cell (i := 1) rfl
 go_wp2_with fail
 refine (H0 w0 hb).mono ?_
 rintro e w1 ⟨rfl, hb1⟩
 clear q0 r0 q1 r1
 replace x := x.below hb1 x.lt
 replace y := y.below hb1 y.lt
 replace hb : Below w.heap.size w w1 := hb.trans (hb1.mono hb.size)
 clear hb1 H0
 have q0 := x.cell (i := 0) rfl
 have r0 := y.cell (i := 0) rfl
 have q1 := x.cell (i := 1) rfl
 have r1 := y.cell (i := 1) rfl
 go_wp2_with fail
 go_ret
 exact ⟨rfl, hb⟩

set_option maxHeartbeats 4000000 in
theorem eqExpr0 (p0 : Int) (p1 : Int) (a2 b2 : Option Addr) (n2 c2 d2 : Nat) (a3 b3 : Option Addr) (n3 c3 d3 : Nat) (a4 b4 : Option Addr) (n4 c4 d4 : Nat) (w : World)
  (H2 : EqV w 32 (.slice a2 n2 c2) (.slice b2 n2 d2)) (H3 : EqV w 32 (.slice a3 n3 c3) (.slice b3 n3 d3)) (H4 : EqV w 191 (.slice a4 n4 c4) (.slice b4 n4 d4)) :
  Calls Tryz.prog 210 #[.agg #[.int .i64 p0, .int .i64 p1, .slice a2 n2 c2, .slice a3 n3 c3, .slice a4 n4 c4], .agg #[.int .i64 p0, .int .i64 p1, .slice b2 n2 d2, .slice b3 n3 d3, .slice b4 n4 d4]] w fun e w' => e = .returned (.bool true) ∧ Below w.heap.size w w' := by
 obtain ⟨x, y, hb⟩ := two_blks w 125 [.int .i64 p0, .int .i64 p1, .slice a2 n2 c2, .slice a3 n3 c3, .slice a4 n4 c4] [.int .i64 p0, .int .i64 p1, .slice b2 n2 d2, .slice b3 n3 d3, .slice b4 n4 d4]
 have hp0 : (p0 != p0) = false := by simp
 have hp1 : (p1 != p1) = false := by simp
 go_enter Tryz.func210, Tryz.ntmps210
 go_upto_region 1 with fail
 simp only [List.toArray] at x y hb
 generalize (w.alloc (.cells #[.int .i64 p0, .int .i64 p1, .slice a2 n2 c2, .slice a3 n3 c3, .slice a4 n4 c4] 125 (0, 0))).alloc (.cells #[.int .i64 p0, .int .i64 p1, .slice b2 n2 d2, .slice b3 n3 d3, .slice b4 n4 d4] 125 (0, 0)) = w0 at *
 have q0 := x.cell (i := 0) rfl
 have r0 := y.cell (i := 0) rfl
 have q1 := x.cell (i := 1) rfl
 have r1 := y.cell (i := 1) rfl
 have q2 := x.cell (i := 2) rfl
 have r2 := y.cell (i := 2) rfl
 have q3 := x.cell (i := 3) rfl
 have r3 := y.cell (i := 3) rfl
 have q4 := x.cell (i := 4) rfl
 have r4 := y.cell (i := 4) rfl
 go_wp2_with fail
 refine (H2 w0 hb).mono ?_
 rintro e w1 ⟨rfl, hb1⟩
 clear q0 r0 q1 r1 q2 r2 q3 r3 q4 r4
 replace x := x.below hb1 x.lt
 replace y := y.below hb1 y.lt
 replace hb : Below w.heap.size w w1 := hb.trans (hb1.mono hb.size)
 clear hb1 H2
 have q0 := x.cell (i := 0) rfl
 have r0 := y.cell (i := 0) rfl
 have q1 := x.cell (i := 1) rfl
 have r1 := y.cell (i := 1) rfl
 have q2 := x.cell (i := 2) rfl
 have r2 := y.cell (i := 2) rfl
 have q3 := x.cell (i := 3) rfl
 have r3 := y.cell (i := 3) rfl
 have q4 := x.cell (i := 4) rfl
 have r4 := y.cell (i := 4) rfl
 go_wp2_with fail
 refine (H3 w1 hb).mono ?_
 rintro e w2 ⟨rfl, hb2⟩
 clear q0 r0 q1 r1 q2 r2 q3 r3 q4 r4
 replace x := x.below hb2 x.lt
 replace y := y.below hb2 y.lt
 replace hb : Below w.heap.size w w2 := hb.trans (hb2.mono hb.size)
 clear hb2 H3
 have q0 := x.cell (i := 0) rfl
 have r0 := y.cell (i := 0) rfl
 have q1 := x.cell (i := 1) rfl
 have r1 := y.cell (i := 1) rfl
 have q2 := x.cell (i := 2) rfl
 have r2 := y.cell (i := 2) rfl
 have q3 := x.cell (i := 3) rfl
 have r3 := y.cell (i := 3) rfl
 have q4 := x.cell (i := 4) rfl
 have r4 := y.cell (i := 4) rfl
 go_wp2_with fail
 refine (H4 w2 hb).mono ?_
 rintro e w3 ⟨rfl, hb3⟩
 clear q0 r0 q1 r1 q2 r2 q3 r3 q4 r4
 replace x := x.below hb3 x.lt
 replace y := y.below hb3 y.lt
 replace hb : Below w.heap.size w w3 := hb.trans (hb3.mono hb.size)
 clear hb3 H4
 have q0 := x.cell (i := 0) rfl
 have r0 := y.cell (i := 0) rfl
 have q1 := x.cell (i := 1) rfl
 have r1 := y.cell (i := 1) rfl
 have q2 := x.cell (i := 2) rfl
 have r2 := y.cell (i := 2) rfl
 have q3 := x.cell (i := 3) rfl
 have r3 := y.cell (i := 3) rfl
 have q4 := x.cell (i := 4) rfl
 have r4 := y.cell (i := 4) rfl
 go_wp2_with fail
 go_ret
 exact ⟨rfl, hb⟩

set_option maxHeartbeats 4000000 in
theorem eqStmt0 (p0 : Int) (p1 : Int) (a2 b2 : Option Addr) (n2 c2 d2 : Nat) (a3 b3 : Option Addr) (n3 c3 d3 : Nat) (a4 b4 : Option Addr) (n4 c4 d4 : Nat) (a5 b5 : Option Addr) (n5 c5 d5 : Nat) (w : World)
  (H2 : EqV w 32 (.slice a2 n2 c2) (.slice b2 n2 d2)) (H3 : EqV w 191 (.slice a3 n3 c3) (.slice b3 n3 d3)) (H4 : EqV w 116 (.slice a4 n4 c4) (.slice b4 n4 d4)) (H5 : EqV w 116 (.slice a5 n5 c5) (.slice b5 n5 d5)) :
  Calls Tryz.prog 155 #[.agg #[.int .i64 p0, .int .i64 p1, .slice a2 n2 c2, .slice a3 n3 c3, .slice a4 n4 c4, .slice a5 n5 c5], .agg #[.int .i64 p0, .int .i64 p1, .slice b2 n2 d2, .slice b3 n3 d3, .slice b4 n4 d4, .slice b5 n5 d5]] w fun e w' => e = .returned (.bool true) ∧ Below w.heap.size w w' := by
 obtain ⟨x, y, hb⟩ := two_blks w 121 [.int .i64 p0, .int .i64 p1, .slice a2 n2 c2, .slice a3 n3 c3, .slice a4 n4 c4, .slice a5 n5 c5] [.int .i64 p0, .int .i64 p1, .slice b2 n2 d2, .slice b3 n3 d3, .slice b4 n4 d4, .slice b5 n5 d5]
 have hp0 : (p0 != p0) = false := by simp
 have hp1 : (p1 != p1) = false := by simp
 go_enter Tryz.func155, Tryz.ntmps155
 go_upto_region 1 with fail
 simp only [List.toArray] at x y hb
 generalize (w.alloc (.cells #[.int .i64 p0, .int .i64 p1, .slice a2 n2 c2, .slice a3 n3 c3, .slice a4 n4 c4, .slice a5 n5 c5] 121 (0, 0))).alloc (.cells #[.int .i64 p0, .int .i64 p1, .slice b2 n2 d2, .slice b3 n3 d3, .slice b4 n4 d4, .slice b5 n5 d5] 121 (0, 0)) = w0 at *
 have q0 := x.cell (i := 0) rfl
 have r0 := y.cell (i := 0) rfl
 have q1 := x.cell (i := 1) rfl
 have r1 := y.cell (i := 1) rfl
 have q2 := x.cell (i := 2) rfl
 have r2 := y.cell (i := 2) rfl
 have q3 := x.cell (i := 3) rfl
 have r3 := y.cell (i := 3) rfl
 have q4 := x.cell (i := 4) rfl
 have r4 := y.cell (i := 4) rfl
 have q5 := x.cell (i := 5) rfl
 have r5 := y.cell (i := 5) rfl
 go_wp2_with fail
 refine (H2 w0 hb).mono ?_
 rintro e w1 ⟨rfl, hb1⟩
 clear q0 r0 q1 r1 q2 r2 q3 r3 q4 r4 q5 r5
 replace x := x.below hb1 x.lt
 replace y := y.below hb1 y.lt
 replace hb : Below w.heap.size w w1 := hb.trans (hb1.mono hb.size)
 clear hb1 H2
 have q0 := x.cell (i := 0) rfl
 have r0 := y.cell (i := 0) rfl
 have q1 := x.cell (i := 1) rfl
 have r1 := y.cell (i := 1) rfl
 have q2 := x.cell (i := 2) rfl
 have r2 := y.cell (i := 2) rfl
 have q3 := x.cell (i := 3) rfl
 have r3 := y.cell (i := 3) rfl
 have q4 := x.cell (i := 4) rfl
 have r4 := y.cell (i := 4) rfl
 have q5 := x.cell (i := 5) rfl
 have r5 := y.cell (i := 5) rfl
 go_wp2_with fail
 refine (H3 w1 hb).mono ?_
 rintro e w2 ⟨rfl, hb2⟩
 clear q0 r0 q1 r1 q2 r2 q3 r3 q4 r4 q5 r5
 replace x := x.below hb2 x.lt
 replace y := y.below hb2 y.lt
 replace hb : Below w.heap.size w w2 := hb.trans (hb2.mono hb.size)
 clear hb2 H3
 have q0 := x.cell (i := 0) rfl
 have r0 := y.cell (i := 0) rfl
 have q1 := x.cell (i := 1) rfl
 have r1 := y.cell (i := 1) rfl
 have q2 := x.cell (i := 2) rfl
 have r2 := y.cell (i := 2) rfl
 have q3 := x.cell (i := 3) rfl
 have r3 := y.cell (i := 3) rfl
 have q4 := x.cell (i := 4) rfl
 have r4 := y.cell (i := 4) rfl
 have q5 := x.cell (i := 5) rfl
 have r5 := y.cell (i := 5) rfl
 go_wp2_with fail
 refine (H4 w2 hb).mono ?_
 rintro e w3 ⟨rfl, hb3⟩
 clear q0 r0 q1 r1 q2 r2 q3 r3 q4 r4 q5 r5
 replace x := x.below hb3 x.lt
 replace y := y.below hb3 y.lt
 replace hb : Below w.heap.size w w3 := hb.trans (hb3.mono hb.size)
 clear hb3 H4
 have q0 := x.cell (i := 0) rfl
 have r0 := y.cell (i := 0) rfl
 have q1 := x.cell (i := 1) rfl
 have r1 := y.cell (i := 1) rfl
 have q2 := x.cell (i := 2) rfl
 have r2 := y.cell (i := 2) rfl
 have q3 := x.cell (i := 3) rfl
 have r3 := y.cell (i := 3) rfl
 have q4 := x.cell (i := 4) rfl
 have r4 := y.cell (i := 4) rfl
 have q5 := x.cell (i := 5) rfl
 have r5 := y.cell (i := 5) rfl
 go_wp2_with fail
 refine (H5 w3 hb).mono ?_
 rintro e w4 ⟨rfl, hb4⟩
 clear q0 r0 q1 r1 q2 r2 q3 r3 q4 r4 q5 r5
 replace x := x.below hb4 x.lt
 replace y := y.below hb4 y.lt
 replace hb : Below w.heap.size w w4 := hb.trans (hb4.mono hb.size)
 clear hb4 H5
 have q0 := x.cell (i := 0) rfl
 have r0 := y.cell (i := 0) rfl
 have q1 := x.cell (i := 1) rfl
 have r1 := y.cell (i := 1) rfl
 have q2 := x.cell (i := 2) rfl
 have r2 := y.cell (i := 2) rfl
 have q3 := x.cell (i := 3) rfl
 have r3 := y.cell (i := 3) rfl
 have q4 := x.cell (i := 4) rfl
 have r4 := y.cell (i := 4) rfl
 have q5 := x.cell (i := 5) rfl
 have r5 := y.cell (i := 5) rfl
 go_wp2_with fail
 go_ret
 exact ⟨rfl, hb⟩

set_option maxHeartbeats 4000000 in
theorem eqProc0 (a0 b0 : Option Addr) (n0 c0 d0 : Nat) (t1 : Bool) (a2 b2 : Option Addr) (n2 c2 d2 : Nat) (a3 b3 : Option Addr) (n3 c3 d3 : Nat) (a4 b4 : Option Addr) (n4 c4 d4 : Nat) (w : World)
  (H0 : EqV w 32 (.slice a0 n0 c0) (.slice b0 n0 d0)) (H2 : EqV w 115 (.slice a2 n2 c2) (.slice b2 n2 d2)) (H3 : EqV w 34 (.slice a3 n3 c3) (.slice b3 n3 d3)) (H4 : EqV w 116 (.slice a4 n4 c4) (.slice b4 n4 d4)) :
  Calls Tryz.prog 69 #[.agg #[.slice a0 n0 c0, .bool t1, .slice a2 n2 c2, .slice a3 n3 c3, .slice a4 n4 c4], .agg #[.slice b0 n0 d0, .bool t1, .slice b2 n2 d2, .slice b3 n3 d3, .slice b4 n4 d4]] w fun e w' => e = .returned (.bool true) ∧ Below w.heap.size w w' := by
 obtain ⟨x, y, hb⟩ := two_blks w 62 [.slice a0 n0 c0, .bool t1, .slice a2 n2 c2, .slice a3 n3 c3, .slice a4 n4 c4] [.slice b0 n0 d0, .bool t1, .slice b2 n2 d2, .slice b3 n3 d3, .slice b4 n4 d4]
 have ht1 : (t1 != t1) = false := by simp
 go_enter Tryz.func69, Tryz.ntmps69
 go_upto_region 1 with fail
 simp only [List.toArray] at x y hb
 generalize (w.alloc (.cells #[.slice a0 n0 c0, .bool t1, .slice a2 n2 c2, .slice a3 n3 c3, .slice a4 n4 c4] 62 (0, 0))).alloc (.cells #[.slice b0 n0 d0, .bool t1, .slice b2 n2 d2, .slice b3 n3 d3, .slice b4 n4 d4] 62 (0, 0)) = w0 at *
 have q0 := x.cell (i := 0) rfl
 have r0 := y.cell (i := 0) rfl
 have q1 := x.cell (i := 1) rfl
 have r1 := y.cell (i := 1) rfl
 have q2 := x.cell (i := 2) rfl
 have r2 := y.cell (i := 2) rfl
 have q3 := x.cell (i := 3) rfl
 have r3 := y.cell (i := 3) rfl
 have q4 := x.cell (i := 4) rfl
 have r4 := y.cell (i := 4) rfl
 go_wp2_with fail
 refine (H0 w0 hb).mono ?_
 rintro e w1 ⟨rfl, hb1⟩
 clear q0 r0 q1 r1 q2 r2 q3 r3 q4 r4
 replace x := x.below hb1 x.lt
 replace y := y.below hb1 y.lt
 replace hb : Below w.heap.size w w1 := hb.trans (hb1.mono hb.size)
 clear hb1 H0
 have q0 := x.cell (i := 0) rfl
 have r0 := y.cell (i := 0) rfl
 have q1 := x.cell (i := 1) rfl
 have r1 := y.cell (i := 1) rfl
 have q2 := x.cell (i := 2) rfl
 have r2 := y.cell (i := 2) rfl
 have q3 := x.cell (i := 3) rfl
 have r3 := y.cell (i := 3) rfl
 have q4 := x.cell (i := 4) rfl
 have r4 := y.cell (i := 4) rfl
 go_wp2_with fail
 refine (H2 w1 hb).mono ?_
 rintro e w2 ⟨rfl, hb2⟩
 clear q0 r0 q1 r1 q2 r2 q3 r3 q4 r4
 replace x := x.below hb2 x.lt
 replace y := y.below hb2 y.lt
 replace hb : Below w.heap.size w w2 := hb.trans (hb2.mono hb.size)
 clear hb2 H2
 have q0 := x.cell (i := 0) rfl
 have r0 := y.cell (i := 0) rfl
 have q1 := x.cell (i := 1) rfl
 have r1 := y.cell (i := 1) rfl
 have q2 := x.cell (i := 2) rfl
 have r2 := y.cell (i := 2) rfl
 have q3 := x.cell (i := 3) rfl
 have r3 := y.cell (i := 3) rfl
 have q4 := x.cell (i := 4) rfl
 have r4 := y.cell (i := 4) rfl
 go_wp2_with fail
 refine (H3 w2 hb).mono ?_
 rintro e w3 ⟨rfl, hb3⟩
 clear q0 r0 q1 r1 q2 r2 q3 r3 q4 r4
 replace x := x.below hb3 x.lt
 replace y := y.below hb3 y.lt
 replace hb : Below w.heap.size w w3 := hb.trans (hb3.mono hb.size)
 clear hb3 H3
 have q0 := x.cell (i := 0) rfl
 have r0 := y.cell (i := 0) rfl
 have q1 := x.cell (i := 1) rfl
 have r1 := y.cell (i := 1) rfl
 have q2 := x.cell (i := 2) rfl
 have r2 := y.cell (i := 2) rfl
 have q3 := x.cell (i := 3) rfl
 have r3 := y.cell (i := 3) rfl
 have q4 := x.cell (i := 4) rfl
 have r4 := y.cell (i := 4) rfl
 go_wp2_with fail
 refine (H4 w3 hb).mono ?_
 rintro e w4 ⟨rfl, hb4⟩
 clear q0 r0 q1 r1 q2 r2 q3 r3 q4 r4
 replace x := x.below hb4 x.lt
 replace y := y.below hb4 y.lt
 replace hb : Below w.heap.size w w4 := hb.trans (hb4.mono hb.size)
 clear hb4 H4
 have q0 := x.cell (i := 0) rfl
 have r0 := y.cell (i := 0) rfl
 have q1 := x.cell (i := 1) rfl
 have r1 := y.cell (i := 1) rfl
 have q2 := x.cell (i := 2) rfl
 have r2 := y.cell (i := 2) rfl
 have q3 := x.cell (i := 3) rfl
 have r3 := y.cell (i := 3) rfl
 have q4 := x.cell (i := 4) rfl
 have r4 := y.cell (i := 4) rfl
 go_wp2_with fail
 go_ret
 exact ⟨rfl, hb⟩

set_option maxHeartbeats 4000000 in
theorem eqFaceProc0 (a0 b0 : Option Addr) (n0 c0 d0 : Nat) (a1 b1 : Option Addr) (n1 c1 d1 : Nat) (w : World)
  (H0 : EqV w 32 (.slice a0 n0 c0) (.slice b0 n0 d0)) (H1 : EqV w 114 (.slice a1 n1 c1) (.slice b1 n1 d1)) :
  Calls Tryz.prog 67 #[.agg #[.slice a0 n0 c0, .slice a1 n1 c1], .agg #[.slice b0 n0 d0, .slice b1 n1 d1]] w fun e w' => e = .returned (.bool true) ∧ Below w.heap.size w w' := by
 obtain ⟨x, y, hb⟩ := two_blks w 66 [.slice a0 n0 c0, .slice a1 n1 c1] [.slice b0 n0 d0, .slice b1 n1 d1]
 go_enter Tryz.func67, Tryz.ntmps67
 go_upto_region 1 with fail
 simp only [List.toArray] at x y hb
 generalize (w.alloc (.cells #[.slice a0 n0 c0, .slice a1 n1 c1] 66 (0, 0))).alloc (.cells #[.slice b0 n0 d0, .slice b1 n1 d1] 66 (0, 0)) = w0 at *
 have q0 := x.cell (i := 0) rfl
 have r0 := y.cell (i := 0) rfl
 have q1 := x.cell (i := 1) rfl
 have r1 := y.cell (i := 1) rfl
 go_wp2_with fail
 refine (H0 w0 hb).mono ?_
 rintro e w1 ⟨rfl, hb1⟩
 clear q0 r0 q1 r1
 replace x := x.below hb1 x.lt
 replace y := y.below hb1 y.lt
 replace hb : Below w.heap.size w w1 := hb.trans (hb1.mono hb.size)
 clear hb1 H0
 have q0 := x.cell (i := 0) rfl
 have r0 := y.cell (i := 0) rfl
 have q1 := x.cell (i := 1) rfl
 have r1 := y.cell (i := 1) rfl
 go_wp2_with fail
 refine (H1 w1 hb).mono ?_
 rintro e w2 ⟨rfl, hb2⟩
 clear q0 r0 q1 r1
 replace x := x.below hb2 x.lt
 replace y := y.below hb2 y.lt
 replace hb : Below w.heap.size w w2 := hb.trans (hb2.mono hb.size)
 clear hb2 H1
 have q0 := x.cell (i := 0) rfl
 have r0 := y.cell (i := 0) rfl
 have q1 := x.cell (i := 1) rfl
 have r1 := y.cell (i := 1) rfl
 go_wp2_with fail
 go_ret
 exact ⟨rfl, hb⟩

set_option maxHeartbeats 4000000 in
theorem eqFace0 (a0 b0 : Option Addr) (n0 c0 d0 : Nat) (a1 b1 : Option Addr) (n1 c1 d1 : Nat) (w : World)
  (H0 : EqV w 32 (.slice a0 n0 c0) (.slice b0 n0 d0)) (H1 : EqV w 33 (.slice a1 n1 c1) (.slice b1 n1 d1)) :
  Calls Tryz.prog 9 #[.agg #[.slice a0 n0 c0, .slice a1 n1 c1], .agg #[.slice b0 n0 d0, .slice b1 n1 d1]] w fun e w' => e = .returned (.bool true) ∧ Below w.heap.size w w' := by
 obtain ⟨x, y, hb⟩ := two_blks w 31 [.slice a0 n0 c0, .slice a1 n1 c1] [.slice b0 n0 d0, .slice b1 n1 d1]
 go_enter Tryz.func9, Tryz.ntmps9
 go_upto_region 1 with fail
 simp only [List.toArray] at x y hb
 generalize (w.alloc (.cells #[.slice a0 n0 c0, .slice a1 n1 c1] 31 (0, 0))).alloc (.cells #[.slice b0 n0 d0, .slice b1 n1 d1] 31 (0, 0)) = w0 at *
 have q0 := x.cell (i := 0) rfl
 have r0 := y.cell (i := 0) rfl
 have q1 := x.cell (i := 1) rfl
 have r1 := y.cell (i := 1) rfl
 go_wp2_with fail
 refine (H0 w0 hb).mono ?_
 rintro e w1 ⟨rfl, hb1⟩
 clear q0 r0 q1 r1
 replace x := x.below hb1 x.lt
 replace y := y.below hb1 y.lt
 replace hb : Below w.heap.size w w1 := hb.trans (hb1.mono hb.size)
 clear hb1 H0
 have q0 := x.cell (i := 0) rfl
 have r0 := y.cell (i := 0) rfl
 have q1 := x.cell (i := 1) rfl
 have r1 := y.cell (i := 1) rfl
 go_wp2_with fail
 refine (H1 w1 hb).mono ?_
 rintro e w2 ⟨rfl, hb2⟩
 clear q0 r0 q1 r1
 replace x := x.below hb2 x.lt
 replace y := y.below hb2 y.lt
 replace hb : Below w.heap.size w w2 := hb.trans (hb2.mono hb.size)
 clear hb2 H1
 have q0 := x.cell (i := 0) rfl
 have r0 := y.cell (i := 0) rfl
 have q1 := x.cell (i := 1) rfl
 have r1 := y.cell (i := 1) rfl
 go_wp2_with fail
 go_ret
 exact ⟨rfl, hb⟩

set_option maxHeartbeats 4000000 in
theorem eqModule0 (a0 b0 : Option Addr) (n0 c0 d0 : Nat) (a1 b1 : Option Addr) (n1 c1 d1 : Nat) (a2 b2 : Option Addr) (n2 c2 d2 : Nat) (a3 b3 : Option Addr) (n3 c3 d3 : Nat) (w : World)
  (H0 : EqV w 32 (.slice a0 n0 c0) (.slice b0 n0 d0)) (H1 : EqV w 34 (.slice a1 n1 c1) (.slice b1 n1 d1)) (H2 : EqV w 35 (.slice a2 n2 c2) (.slice b2 n2 d2)) (H3 : EqV w 36 (.slice a3 n3 c3) (.slice b3 n3 d3)) :
  Calls Tryz.prog 10 #[.agg #[.slice a0 n0 c0, .slice a1 n1 c1, .slice a2 n2 c2, .slice a3 n3 c3], .agg #[.slice b0 n0 d0, .slice b1 n1 d1, .slice b2 n2 d2, .slice b3 n3 d3]] w fun e w' => e = .returned (.bool true) ∧ Below w.heap.size w w' := by
 obtain ⟨x, y, hb⟩ := two_blks w 36 [.slice a0 n0 c0, .slice a1 n1 c1, .slice a2 n2 c2, .slice a3 n3 c3] [.slice b0 n0 d0, .slice b1 n1 d1, .slice b2 n2 d2, .slice b3 n3 d3]
 go_enter Tryz.func10, Tryz.ntmps10
 go_upto_region 1 with fail
 simp only [List.toArray] at x y hb
 generalize (w.alloc (.cells #[.slice a0 n0 c0, .slice a1 n1 c1, .slice a2 n2 c2, .slice a3 n3 c3] 36 (0, 0))).alloc (.cells #[.slice b0 n0 d0, .slice b1 n1 d1, .slice b2 n2 d2, .slice b3 n3 d3] 36 (0, 0)) = w0 at *
 have q0 := x.cell (i := 0) rfl
 have r0 := y.cell (i := 0) rfl
 have q1 := x.cell (i := 1) rfl
 have r1 := y.cell (i := 1) rfl
 have q2 := x.cell (i := 2) rfl
 have r2 := y.cell (i := 2) rfl
 have q3 := x.cell (i := 3) rfl
 have r3 := y.cell (i := 3) rfl
 go_wp2_with fail
 refine (H0 w0 hb).mono ?_
 rintro e w1 ⟨rfl, hb1⟩
 clear q0 r0 q1 r1 q2 r2 q3 r3
 replace x := x.below hb1 x.lt
 replace y := y.below hb1 y.lt
 replace hb : Below w.heap.size w w1 := hb.trans (hb1.mono hb.size)
 clear hb1 H0
 have q0 := x.cell (i := 0) rfl
 have r0 := y.cell (i := 0) rfl
 have q1 := x.cell (i := 1) rfl
 have r1 := y.cell (i := 1) rfl
 have q2 := x.cell (i := 2) rfl
 have r2 := y.cell (i := 2) rfl
 have q3 := x.cell (i := 3) rfl
 have r3 := y.cell (i := 3) rfl
 go_wp2_with fail
 refine (H1 w1 hb).mono ?_
 rintro e w2 ⟨rfl, hb2⟩
 clear q0 r0 q1 r1 q2 r2 q3 r3
 replace x := x.below hb2 x.lt
 replace y := y.below hb2 y.lt
 replace hb : Below w.heap.size w w2 := hb.trans (hb2.mono hb.size)
 clear hb2 H1
 have q0 := x.cell (i := 0) rfl
 have r0 := y.cell (i := 0) rfl
 have q1 := x.cell (i := 1) rfl
 have r1 := y.cell (i := 1) rfl
 have q2 := x.cell (i := 2) rfl
 have r2 := y.cell (i := 2) rfl
 have q3 := x.cell (i := 3) rfl
 have r3 := y.cell (i := 3) rfl
 go_wp2_with fail
 refine (H2 w2 hb).mono ?_
 rintro e w3 ⟨rfl, hb3⟩
 clear q0 r0 q1 r1 q2 r2 q3 r3
 replace x := x.below hb3 x.lt
 replace y := y.below hb3 y.lt
 replace hb : Below w.heap.size w w3 := hb.trans (hb3.mono hb.size)
 clear hb3 H2
 have q0 := x.cell (i := 0) rfl
 have r0 := y.cell (i := 0) rfl
 have q1 := x.cell (i := 1) rfl
 have r1 := y.cell (i := 1) rfl
 have q2 := x.cell (i := 2) rfl
 have r2 := y.cell (i := 2) rfl
 have q3 := x.cell (i := 3) rfl
 have r3 := y.cell (i := 3) rfl
 go_wp2_with fail
 refine (H3 w3 hb).mono ?_
 rintro e w4 ⟨rfl, hb4⟩
 clear q0 r0 q1 r1 q2 r2 q3 r3
 replace x := x.below hb4 x.lt
 replace y := y.below hb4 y.lt
 replace hb : Below w.heap.size w w4 := hb.trans (hb4.mono hb.size)
 clear hb4 H3
 have q0 := x.cell (i := 0) rfl
 have r0 := y.cell (i := 0) rfl
 have q1 := x.cell (i := 1) rfl
 have r1 := y.cell (i := 1) rfl
 have q2 := x.cell (i := 2) rfl
 have r2 := y.cell (i := 2) rfl
 have q3 := x.cell (i := 3) rfl
 have r3 := y.cell (i := 3) rfl
 go_wp2_with fail
 go_ret
 exact ⟨rfl, hb⟩

set_option maxHeartbeats 8000000 in
theorem eqVarSF (l : List Va) (H : ∀ x ∈ l, EqR 68 (Va.fl x)) : EqF 35 (.l 2 (l.map Va.fl)) := by
 intro w0 v u hv hu w hb0
 obtain ⟨a, c, rfl, hl1⟩ := (hv.below hb0).list
 obtain ⟨a2, c2, rfl, hl2⟩ := (hu.below hb0).list
 clear hv hu hb0
 have hm : (l.map Va.fl).length = l.length := by simp [exs_map, sts_map, txts]
 have hat : ∀ j, j < l.length → ∃ x ∈ l, (l.map Va.fl)[j]? = some (Va.fl x) := by
  intro j hj
  exact ⟨l[j], List.getElem_mem hj, by simp [exs_map, sts_map, txts, hj]⟩
 generalize hrs : l.map Va.fl = rs at hl1 hl2 hm hat ⊢
 clear hrs
 rw [← hm] at hat
 generalize hn : rs.length = n at hl1 hl2 hat ⊢
 clear hm
 have hcn : n ≤ 9223372036854775807 := by have h1 := hl1.cap; have h2 := hl1.most; unfold maxLen at h2; omega
 rcases Nat.eq_zero_or_pos n with h0 | hpos
 ·
  subst h0
  clear hl1 hl2 hat H hn
  go_enter Tryz.func35, Tryz.ntmps35
  go_wp2_with fail
  refine wp_loop_rounds 1 ?_
  rw [rounds_succ]
  go_wp2_with fail
  go_ret
  exact ⟨rfl, Below.refl _ _⟩
 ·
  obtain ⟨k1, o1, rfl⟩ := hl1.addr (by rw [hn]; exact hpos)
  obtain ⟨k2, o2, rfl⟩ := hl2.addr (by rw [hn]; exact hpos)
  have HL1 : Hid (LRow w (some ⟨k1, o1, none⟩) c 2 rs) := hl1
  have HL2 : Hid (LRow w (some ⟨k2, o2, none⟩) c2 2 rs) := hl2
  have HA : Hid (∀ j, j < n → ∃ x ∈ l, rs[j]? = some (Va.fl x)) := hat
  have HH : Hid (∀ x ∈ l, EqR 68 (Va.fl x)) := H
  clear hl1 hl2 hat H hn
  go_enter Tryz.func35, Tryz.ntmps35
  go_wp2_with fail
  go_loopw [5] (fun i wr => ∃ j : Nat, j ≤ n ∧ i = .int .i64 j ∧ Below w.heap.size w wr) (fun i _ => n - (intOf i).toNat)
  case atStart => exact ⟨0, Nat.zero_le _, rfl, Below.refl _ _⟩
  case round =>
   obtain ⟨j, hj, rfl, hbr⟩ := hrel
   by_cases hlt : j < n
   ·
    obtain ⟨x, hx, hxj⟩ := HA.out j hlt
    obtain ⟨vs, hvs, hcl⟩ := ((show LRow w (some ⟨k1, o1, none⟩) c 2 rs from HL1.out).below hbr |>.el hxj).vals
    obtain ⟨us, hus, hcl2⟩ := ((show LRow w (some ⟨k2, o2, none⟩) c2 2 rs from HL2.out).below hbr |>.el hxj).vals
    skip
    skip
    have HC := HH.out x hx wr vs us hvs hus wr.drew ((Below.refl _ wr).drew)
    clear hxj
    obtain ⟨x0, x1⟩ := x
    obtain ⟨ya0, _, rfl, ⟨a0, c0, rfl, da0⟩, ya1, _, rfl, rfl, rfl⟩ := hvs
    obtain ⟨yb0, _, rfl, ⟨b0, d0, rfl, db0⟩, yb1, _, rfl, rfl, rfl⟩ := hus
    skip
    have p0 : wr.cell? ⟨k1, o1 + j * 2, none⟩ = some (.slice a0 x0.length c0) := by exact hcl 0 _ rfl
    have q0 : wr.cell? ⟨k2, o2 + j * 2, none⟩ = some (.slice b0 x0.length d0) := by exact hcl2 0 _ rfl
    have p1 : wr.cell? ⟨k1, o1 + j * 2 + 1, none⟩ = some (.int .i64 x1) := by exact hcl 1 _ rfl
    have q1 : wr.cell? ⟨k2, o2 + j * 2 + 1, none⟩ = some (.int .i64 x1) := by exact hcl2 1 _ rfl
    clear hcl hcl2 hx da0 db0
    have HS0 : (wr.drew.cell? ⟨k1, o1 + j * 2, none⟩ = some (.slice a0 x0.length c0) ∧ wr.drew.cell? ⟨k1, o1 + j * 2 + 1, none⟩ = some (.int .i64 x1) ∧ wr.drew.cell? ⟨k2, o2 + j * 2, none⟩ = some (.slice b0 x0.length d0) ∧ wr.drew.cell? ⟨k2, o2 + j * 2 + 1, none⟩ = some (.int .i64 x1)) := ⟨p0, p1, q0, q1⟩
    have hbs : ∀ {wl : World}, Below wr.drew.heap.size wr.drew wl → (wl.cell? ⟨k1, o1 + j * 2, none⟩ = some (.slice a0 x0.length c0) ∧ wl.cell? ⟨k1, o1 + j * 2 + 1, none⟩ = some (.int .i64 x1) ∧ wl.cell? ⟨k2, o2 + j * 2, none⟩ = some (.slice b0 x0.length d0) ∧ wl.cell? ⟨k2, o2 + j * 2 + 1, none⟩ = some (.int .i64 x1)) := by
     intro wl hb
     have e1 : ∀ j, wl.cell? ⟨k1, j, none⟩ = wr.drew.cell? ⟨k1, j, none⟩ := fun j => hb.cell (show k1 < wr.heap.size from World.block_lt_of_cell? wr _ p0)
     have e2 : ∀ j, wl.cell? ⟨k2, j, none⟩ = wr.drew.cell? ⟨k2, j, none⟩ := fun j => hb.cell (show k2 < wr.heap.size from World.block_lt_of_cell? wr _ q0)
     simp only [e1, e2]
     exact HS0
    go_wp2_with fail
    go_region_held3 (fun wx => (wx.cell? ⟨k1, o1 + j * 2, none⟩ = some (.slice a0 x0.length c0) ∧ wx.cell? ⟨k1, o1 + j * 2 + 1, none⟩ = some (.int .i64 x1) ∧ wx.cell? ⟨k2, o2 + j * 2, none⟩ = some (.slice b0 x0.length d0) ∧ wx.cell? ⟨k2, o2 + j * 2 + 1, none⟩ = some (.int .i64 x1))) (first | exact HS0 | exact HSl) (first
     | (go_at_call 68; (with_reducible refine HC.mono ?_); rintro e wl ⟨rfl, hbl⟩; have HSl := hbs hbl))
    have hbw : Below w.heap.size w wl := hbr.drew.trans (hbl.mono hbr.size)
    clear HS0 hbs HC p0 q0 p1 q1
    go_wp2_with fail
    go_roundw
    case rel => exact ⟨j + 1, by omega, by go_num, hbw⟩
    case measure => simp [intOf]; omega
   ·
    go_wp2_with fail
    go_ret
    exact ⟨rfl, hbr⟩

set_option maxHeartbeats 8000000 in
theorem eqParamSF (l : List Pa) (H : ∀ x ∈ l, EqR 154 (Pa.fl x)) : EqF 115 (.l 2 (l.map Pa.fl)) := by
 intro w0 v u hv hu w hb0
 obtain ⟨a, c, rfl, hl1⟩ := (hv.below hb0).list
 obtain ⟨a2, c2, rfl, hl2⟩ := (hu.below hb0).list
 clear hv hu hb0
 have hm : (l.map Pa.fl).length = l.length := by simp [exs_map, sts_map, txts]
 have hat : ∀ j, j < l.length → ∃ x ∈ l, (l.map Pa.fl)[j]? = some (Pa.fl x) := by
  intro j hj
  exact ⟨l[j], List.getElem_mem hj, by simp [exs_map, sts_map, txts, hj]⟩
 generalize hrs : l.map Pa.fl = rs at hl1 hl2 hm hat ⊢
 clear hrs
 rw [← hm] at hat
 generalize hn : rs.length = n at hl1 hl2 hat ⊢
 clear hm
 have hcn : n ≤ 9223372036854775807 := by have h1 := hl1.cap; have h2 := hl1.most; unfold maxLen at h2; omega
 rcases Nat.eq_zero_or_pos n with h0 | hpos
 ·
  subst h0
  clear hl1 hl2 hat H hn
  go_enter Tryz.func115, Tryz.ntmps115
  go_wp2_with fail
  refine wp_loop_rounds 1 ?_
  rw [rounds_succ]
  go_wp2_with fail
  go_ret
  exact ⟨rfl, Below.refl _ _⟩
 ·
  obtain ⟨k1, o1, rfl⟩ := hl1.addr (by rw [hn]; exact hpos)
  obtain ⟨k2, o2, rfl⟩ := hl2.addr (by rw [hn]; exact hpos)
  have HL1 : Hid (LRow w (some ⟨k1, o1, none⟩) c 2 rs) := hl1
  have HL2 : Hid (LRow w (some ⟨k2, o2, none⟩) c2 2 rs) := hl2
  have HA : Hid (∀ j, j < n → ∃ x ∈ l, rs[j]? = some (Pa.fl x)) := hat
  have HH : Hid (∀ x ∈ l, EqR 154 (Pa.fl x)) := H
  clear hl1 hl2 hat H hn
  go_enter Tryz.func115, Tryz.ntmps115
  go_wp2_with fail
  go_loopw [5] (fun i wr => ∃ j : Nat, j ≤ n ∧ i = .int .i64 j ∧ Below w.heap.size w wr) (fun i _ => n - (intOf i).toNat)
  case atStart => exact ⟨0, Nat.zero_le _, rfl, Below.refl _ _⟩
  case round =>
   obtain ⟨j, hj, rfl, hbr⟩ := hrel
   by_cases hlt : j < n
   ·
    obtain ⟨x, hx, hxj⟩ := HA.out j hlt
    obtain ⟨vs, hvs, hcl⟩ := ((show LRow w (some ⟨k1, o1, none⟩) c 2 rs from HL1.out).below hbr |>.el hxj).vals
    obtain ⟨us, hus, hcl2⟩ := ((show LRow w (some ⟨k2, o2, none⟩) c2 2 rs from HL2.out).below hbr |>.el hxj).vals
    skip
    skip
    have HC := HH.out x hx wr vs us hvs hus wr.drew ((Below.refl _ wr).drew)
    clear hxj
    obtain ⟨x0, x1⟩ := x
    obtain ⟨ya0, _, rfl, ⟨a0, c0, rfl, da0⟩, ya1, _, rfl, rfl, rfl⟩ := hvs
    obtain ⟨yb0, _, rfl, ⟨b0, d0, rfl, db0⟩, yb1, _, rfl, rfl, rfl⟩ := hus
    skip
    have p0 : wr.cell? ⟨k1, o1 + j * 2, none⟩ = some (.slice a0 x0.length c0) := by exact hcl 0 _ rfl
    have q0 : wr.cell? ⟨k2, o2 + j * 2, none⟩ = some (.slice b0 x0.length d0) := by exact hcl2 0 _ rfl
    have p1 : wr.cell? ⟨k1, o1 + j * 2 + 1, none⟩ = some (.bool x1) := by exact hcl 1 _ rfl
    have q1 : wr.cell? ⟨k2, o2 + j * 2 + 1, none⟩ = some (.bool x1) := by exact hcl2 1 _ rfl
    clear hcl hcl2 hx da0 db0
    have HS0 : (wr.drew.cell? ⟨k1, o1 + j * 2, none⟩ = some (.slice a0 x0.length c0) ∧ wr.drew.cell? ⟨k1, o1 + j * 2 + 1, none⟩ = some (.bool x1) ∧ wr.drew.cell? ⟨k2, o2 + j * 2, none⟩ = some (.slice b0 x0.length d0) ∧ wr.drew.cell? ⟨k2, o2 + j * 2 + 1, none⟩ = some (.bool x1)) := ⟨p0, p1, q0, q1⟩
    have hbs : ∀ {wl : World}, Below wr.drew.heap.size wr.drew wl → (wl.cell? ⟨k1, o1 + j * 2, none⟩ = some (.slice a0 x0.length c0) ∧ wl.cell? ⟨k1, o1 + j * 2 + 1, none⟩ = some (.bool x1) ∧ wl.cell? ⟨k2, o2 + j * 2, none⟩ = some (.slice b0 x0.length d0) ∧ wl.cell? ⟨k2, o2 + j * 2 + 1, none⟩ = some (.bool x1)) := by
     intro wl hb
     have e1 : ∀ j, wl.cell? ⟨k1, j, none⟩ = wr.drew.cell? ⟨k1, j, none⟩ := fun j => hb.cell (show k1 < wr.heap.size from World.block_lt_of_cell? wr _ p0)
     have e2 : ∀ j, wl.cell? ⟨k2, j, none⟩ = wr.drew.cell? ⟨k2, j, none⟩ := fun j => hb.cell (show k2 < wr.heap.size from World.block_lt_of_cell? wr _ q0)
     simp only [e1, e2]
     exact HS0
    go_wp2_with fail
    go_region_held3 (fun wx => (wx.cell? ⟨k1, o1 + j * 2, none⟩ = some (.slice a0 x0.length c0) ∧ wx.cell? ⟨k1, o1 + j * 2 + 1, none⟩ = some (.bool x1) ∧ wx.cell? ⟨k2, o2 + j * 2, none⟩ = some (.slice b0 x0.length d0) ∧ wx.cell? ⟨k2, o2 + j * 2 + 1, none⟩ = some (.bool x1))) (first | exact HS0 | exact HSl) (first
     | (go_at_call 154; (with_reducible refine HC.mono ?_); rintro e wl ⟨rfl, hbl⟩; have HSl := hbs hbl))
    have hbw : Below w.heap.size w wl := hbr.drew.trans (hbl.mono hbr.size)
    clear HS0 hbs HC p0 q0 p1 q1
    go_wp2_with fail
    go_roundw
    case rel => exact ⟨j + 1, by omega, by go_num, hbw⟩
    case measure => simp [intOf]; omega
   ·
    go_wp2_with fail
    go_ret
    exact ⟨rfl, hbr⟩

set_option maxHeartbeats 8000000 in
theorem eqExprSF (l : List Ex) (H : ∀ x ∈ l, EqR 210 (Ex.fl x)) : EqF 191 (.l 5 (exs l)) := by
 intro w0 v u hv hu w hb0
 obtain ⟨a, c, rfl, hl1⟩ := (hv.below hb0).list
 obtain ⟨a2, c2, rfl, hl2⟩ := (hu.below hb0).list
 clear hv hu hb0
 have hm : (exs l).length = l.length := by simp [exs_map, sts_map, txts]
 have hat : ∀ j, j < l.length → ∃ x ∈ l, (exs l)[j]? = some (Ex.fl x) := by
  intro j hj
  exact ⟨l[j], List.getElem_mem hj, by simp [exs_map, sts_map, txts, hj]⟩
 generalize hrs : exs l = rs at hl1 hl2 hm hat ⊢
 clear hrs
 rw [← hm] at hat
 generalize hn : rs.length = n at hl1 hl2 hat ⊢
 clear hm
 have hcn : n ≤ 9223372036854775807 := by have h1 := hl1.cap; have h2 := hl1.most; unfold maxLen at h2; omega
 rcases Nat.eq_zero_or_pos n with h0 | hpos
 ·
  subst h0
  clear hl1 hl2 hat H hn
  go_enter Tryz.func191, Tryz.ntmps191
  go_wp2_with fail
  refine wp_loop_rounds 1 ?_
  rw [rounds_succ]
  go_wp2_with fail
  go_ret
  exact ⟨rfl, Below.refl _ _⟩
 ·
  obtain ⟨k1, o1, rfl⟩ := hl1.addr (by rw [hn]; exact hpos)
  obtain ⟨k2, o2, rfl⟩ := hl2.addr (by rw [hn]; exact hpos)
  have HL1 : Hid (LRow w (some ⟨k1, o1, none⟩) c 5 rs) := hl1
  have HL2 : Hid (LRow w (some ⟨k2, o2, none⟩) c2 5 rs) := hl2
  have HA : Hid (∀ j, j < n → ∃ x ∈ l, rs[j]? = some (Ex.fl x)) := hat
  have HH : Hid (∀ x ∈ l, EqR 210 (Ex.fl x)) := H
  clear hl1 hl2 hat H hn
  go_enter Tryz.func191, Tryz.ntmps191
  go_wp2_with fail
  go_loopw [5] (fun i wr => ∃ j : Nat, j ≤ n ∧ i = .int .i64 j ∧ Below w.heap.size w wr) (fun i _ => n - (intOf i).toNat)
  case atStart => exact ⟨0, Nat.zero_le _, rfl, Below.refl _ _⟩
  case round =>
   obtain ⟨j, hj, rfl, hbr⟩ := hrel
   by_cases hlt : j < n
   ·
    obtain ⟨x, hx, hxj⟩ := HA.out j hlt
    obtain ⟨vs, hvs, hcl⟩ := ((show LRow w (some ⟨k1, o1, none⟩) c 5 rs from HL1.out).below hbr |>.el hxj).vals
    obtain ⟨us, hus, hcl2⟩ := ((show LRow w (some ⟨k2, o2, none⟩) c2 5 rs from HL2.out).below hbr |>.el hxj).vals
    skip
    skip
    have HC := HH.out x hx wr vs us hvs hus wr.drew ((Below.refl _ wr).drew)
    clear hxj
    obtain ⟨x0, x1, x2, x3, x4⟩ := x
    obtain ⟨ya0, _, rfl, rfl, ya1, _, rfl, rfl, ya2, _, rfl, ⟨a2, c2, rfl, da2⟩, ya3, _, rfl, ⟨a3, c3, rfl, da3⟩, ya4, _, rfl, ⟨a4, c4, rfl, da4⟩, rfl⟩ := hvs
    obtain ⟨yb0, _, rfl, rfl, yb1, _, rfl, rfl, yb2, _, rfl, ⟨b2, d2, rfl, db2⟩, yb3, _, rfl, ⟨b3, d3, rfl, db3⟩, yb4, _, rfl, ⟨b4, d4, rfl, db4⟩, rfl⟩ := hus
    generalize (exs x4).length = m4 at HC hcl hcl2
    have p0 : wr.cell? ⟨k1, o1 + j * 5, none⟩ = some (.int .i64 x0) := by exact hcl 0 _ rfl
    have q0 : wr.cell? ⟨k2, o2 + j * 5, none⟩ = some (.int .i64 x0) := by exact hcl2 0 _ rfl
    have p1 : wr.cell? ⟨k1, o1 + j * 5 + 1, none⟩ = some (.int .i64 x1) := by exact hcl 1 _ rfl
    have q1 : wr.cell? ⟨k2, o2 + j * 5 + 1, none⟩ = some (.int .i64 x1) := by exact hcl2 1 _ rfl
    have p2 : wr.cell? ⟨k1, o1 + j * 5 + 2, none⟩ = some (.slice a2 x2.length c2) := by exact hcl 2 _ rfl
    have q2 : wr.cell? ⟨k2, o2 + j * 5 + 2, none⟩ = some (.slice b2 x2.length d2) := by exact hcl2 2 _ rfl
    have p3 : wr.cell? ⟨k1, o1 + j * 5 + 3, none⟩ = some (.slice a3 x3.length c3) := by exact hcl 3 _ rfl
    have q3 : wr.cell? ⟨k2, o2 + j * 5 + 3, none⟩ = some (.slice b3 x3.length d3) := by exact hcl2 3 _ rfl
    have p4 : wr.cell? ⟨k1, o1 + j * 5 + 4, none⟩ = some (.slice a4 m4 c4) := by exact hcl 4 _ rfl
    have q4 : wr.cell? ⟨k2, o2 + j * 5 + 4, none⟩ = some (.slice b4 m4 d4) := by exact hcl2 4 _ rfl
    clear hcl hcl2 hx da2 db2 da3 db3 da4 db4
    have HS0 : (wr.drew.cell? ⟨k1, o1 + j * 5, none⟩ = some (.int .i64 x0) ∧ wr.drew.cell? ⟨k1, o1 + j * 5 + 1, none⟩ = some (.int .i64 x1) ∧ wr.drew.cell? ⟨k1, o1 + j * 5 + 2, none⟩ = some (.slice a2 x2.length c2) ∧ wr.drew.cell? ⟨k1, o1 + j * 5 + 3, none⟩ = some (.slice a3 x3.length c3) ∧ wr.drew.cell? ⟨k1, o1 + j * 5 + 4, none⟩ = some (.slice a4 m4 c4) ∧ wr.drew.cell? ⟨k2, o2 + j * 5, none⟩ = some (.int .i64 x0) ∧ wr.drew.cell? ⟨k2, o2 + j * 5 + 1, none⟩ = some (.int .i64 x1) ∧ wr.drew.cell? ⟨k2, o2 + j * 5 + 2, none⟩ = some (.slice b2 x2.length d2) ∧ wr.drew.cell? ⟨k2, o2 + j * 5 + 3, none⟩ = some (.slice b3 x3.length d3) ∧ wr.drew.cell? ⟨k2, o2 + j * 5 + 4, none⟩ = some (.slice b4 m4 d4)) := ⟨p0, p1, p2, p3, p4, q0, q1, q2, q3, q4⟩
    have hbs : ∀ {wl : World}, Below wr.drew.heap.size wr.drew wl → (wl.cell? ⟨k1, o1 + j * 5, none⟩ = some (.int .i64 x0) ∧ wl.cell? ⟨k1, o1 + j * 5 + 1, none⟩ = some (.int .i64 x1) ∧ wl.cell? ⟨k1, o1 + j * 5 + 2, none⟩ = some (.slice a2 x2.length c2) ∧ wl.cell? ⟨k1, o1 + j * 5 + 3, none⟩ = some (.slice a3 x3.length c3) ∧ wl.cell? ⟨k1, o1 + j * 5 + 4, none⟩ = some (.slice a4 m4 c4) ∧ wl.cell? ⟨k2, o2 + j * 5, none⟩ = some (.int .i64 x0) ∧ wl.cell? ⟨k2, o2 + j * 5 + 1, none⟩ = some (.int .i64 x1) ∧ wl.cell? ⟨k2, o2 + j * 5 + 2, none⟩ = some (.slice b2 x2.length d2) ∧ wl.cell? ⟨k2, o2 + j * 5 + 3, none⟩ = some (.slice b3 x3.length d3) ∧ wl.cell? ⟨k2, o2 + j * 5 + 4, none⟩ = some (.slice b4 m4 d4)) := by
     intro wl hb
     have e1 : ∀ j, wl.cell? ⟨k1, j, none⟩ = wr.drew.cell? ⟨k1, j, none⟩ := fun j => hb.cell (show k1 < wr.heap.size from World.block_lt_of_cell? wr _ p0)
     have e2 : ∀ j, wl.cell? ⟨k2, j, none⟩ = wr.drew.cell? ⟨k2, j, none⟩ := fun j => hb.cell (show k2 < wr.heap.size from World.block_lt_of_cell? wr _ q0)
     simp only [e1, e2]
     exact HS0
    go_wp2_with fail
    go_region_held3 (fun wx => (wx.cell? ⟨k1, o1 + j * 5, none⟩ = some (.int .i64 x0) ∧ wx.cell? ⟨k1, o1 + j * 5 + 1, none⟩ = some (.int .i64 x1) ∧ wx.cell? ⟨k1, o1 + j * 5 + 2, none⟩ = some (.slice a2 x2.length c2) ∧ wx.cell? ⟨k1, o1 + j * 5 + 3, none⟩ = some (.slice a3 x3.length c3) ∧ wx.cell? ⟨k1, o1 + j * 5 + 4, none⟩ = some (.slice a4 m4 c4) ∧ wx.cell? ⟨k2, o2 + j * 5, none⟩ = some (.int .i64 x0) ∧ wx.cell? ⟨k2, o2 + j * 5 + 1, none⟩ = some (.int .i64 x1) ∧ wx.cell? ⟨k2, o2 + j * 5 + 2, none⟩ = some (.slice b2 x2.length d2) ∧ wx.cell? ⟨k2, o2 + j * 5 + 3, none⟩ = some (.slice b3 x3.length d3) ∧ wx.cell? ⟨k2, o2 + j * 5 + 4, none⟩ = some (.slice b4 m4 d4))) (first | exact HS0 | exact HSl) (first
     | (go_at_call 210; (with_reducible refine HC.mono ?_); rintro e wl ⟨rfl, hbl⟩; have HSl := hbs hbl))
    have hbw : Below w.heap.size w wl := hbr.drew.trans (hbl.mono hbr.size)
    clear HS0 hbs HC p0 q0 p1 q1 p2 q2 p3 q3 p4 q4
    go_wp2_with fail
    go_roundw
    case rel => exact ⟨j + 1, by omega, by go_num, hbw⟩
    case measure => simp [intOf]; omega
   ·
    go_wp2_with fail
    go_ret
    exact ⟨rfl, hbr⟩

set_option maxHeartbeats 8000000 in
theorem eqStmtSF (l : List St) (H : ∀ x ∈ l, EqR 155 (St.fl x)) : EqF 116 (.l 6 (sts l)) := by
 intro w0 v u hv hu w hb0
 obtain ⟨a, c, rfl, hl1⟩ := (hv.below hb0).list
 obtain ⟨a2, c2, rfl, hl2⟩ := (hu.below hb0).list
 clear hv hu hb0
 have hm : (sts l).length = l.length := by simp [exs_map, sts_map, txts]
 have hat : ∀ j, j < l.length → ∃ x ∈ l, (sts l)[j]? = some (St.fl x) := by
  intro j hj
  exact ⟨l[j], List.getElem_mem hj, by simp [exs_map, sts_map, txts, hj]⟩
 generalize hrs : sts l = rs at hl1 hl2 hm hat ⊢
 clear hrs
 rw [← hm] at hat
 generalize hn : rs.length = n at hl1 hl2 hat ⊢
 clear hm
 have hcn : n ≤ 9223372036854775807 := by have h1 := hl1.cap; have h2 := hl1.most; unfold maxLen at h2; omega
 rcases Nat.eq_zero_or_pos n with h0 | hpos
 ·
  subst h0
  clear hl1 hl2 hat H hn
  go_enter Tryz.func116, Tryz.ntmps116
  go_wp2_with fail
  refine wp_loop_rounds 1 ?_
  rw [rounds_succ]
  go_wp2_with fail
  go_ret
  exact ⟨rfl, Below.refl _ _⟩
 ·
  obtain ⟨k1, o1, rfl⟩ := hl1.addr (by rw [hn]; exact hpos)
  obtain ⟨k2, o2, rfl⟩ := hl2.addr (by rw [hn]; exact hpos)
  have HL1 : Hid (LRow w (some ⟨k1, o1, none⟩) c 6 rs) := hl1
  have HL2 : Hid (LRow w (some ⟨k2, o2, none⟩) c2 6 rs) := hl2
  have HA : Hid (∀ j, j < n → ∃ x ∈ l, rs[j]? = some (St.fl x)) := hat
  have HH : Hid (∀ x ∈ l, EqR 155 (St.fl x)) := H
  clear hl1 hl2 hat H hn
  go_enter Tryz.func116, Tryz.ntmps116
  go_wp2_with fail
  go_loopw [5] (fun i wr => ∃ j : Nat, j ≤ n ∧ i = .int .i64 j ∧ Below w.heap.size w wr) (fun i _ => n - (intOf i).toNat)
  case atStart => exact ⟨0, Nat.zero_le _, rfl, Below.refl _ _⟩
  case round =>
   obtain ⟨j, hj, rfl, hbr⟩ := hrel
   by_cases hlt : j < n
   ·
    obtain ⟨x, hx, hxj⟩ := HA.out j hlt
    obtain ⟨vs, hvs, hcl⟩ := ((show LRow w (some ⟨k1, o1, none⟩) c 6 rs from HL1.out).below hbr |>.el hxj).vals
    obtain ⟨us, hus, hcl2⟩ := ((show LRow w (some ⟨k2, o2, none⟩) c2 6 rs from HL2.out).below hbr |>.el hxj).vals
    skip
    skip
    have HC := HH.out x hx wr vs us hvs hus wr.drew ((Below.refl _ wr).drew)
    clear hxj
    obtain ⟨x0, x1, x2, x3, x4, x5⟩ := x
    obtain ⟨ya0, _, rfl, rfl, ya1, _, rfl, rfl, ya2, _, rfl, ⟨a2, c2, rfl, da2⟩, ya3, _, rfl, ⟨a3, c3, rfl, da3⟩, ya4, _, rfl, ⟨a4, c4, rfl, da4⟩, ya5, _, rfl, ⟨a5, c5, rfl, da5⟩, rfl⟩ := hvs
    obtain ⟨yb0, _, rfl, rfl, yb1, _, rfl, rfl, yb2, _, rfl, ⟨b2, d2, rfl, db2⟩, yb3, _, rfl, ⟨b3, d3, rfl, db3⟩, yb4, _, rfl, ⟨b4, d4, rfl, db4⟩, yb5, _, rfl, ⟨b5, d5, rfl, db5⟩, rfl⟩ := hus
    generalize (exs x3).length = m3 at HC hcl hcl2; generalize (sts x4).length = m4 at HC hcl hcl2; generalize (sts x5).length = m5 at HC hcl hcl2
    have p0 : wr.cell? ⟨k1, o1 + j * 6, none⟩ = some (.int .i64 x0) := by exact hcl 0 _ rfl
    have q0 : wr.cell? ⟨k2, o2 + j * 6, none⟩ = some (.int .i64 x0) := by exact hcl2 0 _ rfl
    have p1 : wr.cell? ⟨k1, o1 + j * 6 + 1, none⟩ = some (.int .i64 x1) := by exact hcl 1 _ rfl
    have q1 : wr.cell? ⟨k2, o2 + j * 6 + 1, none⟩ = some (.int .i64 x1) := by exact hcl2 1 _ rfl
    have p2 : wr.cell? ⟨k1, o1 + j * 6 + 2, none⟩ = some (.slice a2 x2.length c2) := by exact hcl 2 _ rfl
    have q2 : wr.cell? ⟨k2, o2 + j * 6 + 2, none⟩ = some (.slice b2 x2.length d2) := by exact hcl2 2 _ rfl
    have p3 : wr.cell? ⟨k1, o1 + j * 6 + 3, none⟩ = some (.slice a3 m3 c3) := by exact hcl 3 _ rfl
    have q3 : wr.cell? ⟨k2, o2 + j * 6 + 3, none⟩ = some (.slice b3 m3 d3) := by exact hcl2 3 _ rfl
    have p4 : wr.cell? ⟨k1, o1 + j * 6 + 4, none⟩ = some (.slice a4 m4 c4) := by exact hcl 4 _ rfl
    have q4 : wr.cell? ⟨k2, o2 + j * 6 + 4, none⟩ = some (.slice b4 m4 d4) := by exact hcl2 4 _ rfl
    have p5 : wr.cell? ⟨k1, o1 + j * 6 + 5, none⟩ = some (.slice a5 m5 c5) := by exact hcl 5 _ rfl
    have q5 : wr.cell? ⟨k2, o2 + j * 6 + 5, none⟩ = some (.slice b5 m5 d5) := by exact hcl2 5 _ rfl
    clear hcl hcl2 hx da2 db2 da3 db3 da4 db4 da5 db5
    have HS0 : (wr.drew.cell? ⟨k1, o1 + j * 6, none⟩ = some (.int .i64 x0) ∧ wr.drew.cell? ⟨k1, o1 + j * 6 + 1, none⟩ = some (.int .i64 x1) ∧ wr.drew.cell? ⟨k1, o1 + j * 6 + 2, none⟩ = some (.slice a2 x2.length c2) ∧ wr.drew.cell? ⟨k1, o1 + j * 6 + 3, none⟩ = some (.slice a3 m3 c3) ∧ wr.drew.cell? ⟨k1, o1 + j * 6 + 4, none⟩ = some (.slice a4 m4 c4) ∧ wr.drew.cell? ⟨k1, o1 + j * 6 + 5, none⟩ = some (.slice a5 m5 c5) ∧ wr.drew.cell? ⟨k2, o2 + j * 6, none⟩ = some (.int .i64 x0) ∧ wr.drew.cell? ⟨k2, o2 + j * 6 + 1, none⟩ = some (.int .i64 x1) ∧ wr.drew.cell? ⟨k2, o2 + j * 6 + 2, none⟩ = some (.slice b2 x2.length d2) ∧ wr.drew.cell? ⟨k2, o2 + j * 6 + 3, none⟩ = some (.slice b3 m3 d3) ∧ wr.drew.cell? ⟨k2, o2 + j * 6 + 4, none⟩ = some (.slice b4 m4 d4) ∧ wr.drew.cell? ⟨k2, o2 + j * 6 + 5, none⟩ = some (.slice b5 m5 d5)) := ⟨p0, p1, p2, p3, p4, p5, q0, q1, q2, q3, q4, q5⟩
    have hbs : ∀ {wl : World}, Below wr.drew.heap.size wr.drew wl → (wl.cell? ⟨k1, o1 + j * 6, none⟩ = some (.int .i64 x0) ∧ wl.cell? ⟨k1, o1 + j * 6 + 1, none⟩ = some (.int .i64 x1) ∧ wl.cell? ⟨k1, o1 + j * 6 + 2, none⟩ = some (.slice a2 x2.length c2) ∧ wl.cell? ⟨k1, o1 + j * 6 + 3, none⟩ = some (.slice a3 m3 c3) ∧ wl.cell? ⟨k1, o1 + j * 6 + 4, none⟩ = some (.slice a4 m4 c4) ∧ wl.cell? ⟨k1, o1 + j * 6 + 5, none⟩ = some (.slice a5 m5 c5) ∧ wl.cell? ⟨k2, o2 + j * 6, none⟩ = some (.int .i64 x0) ∧ wl.cell? ⟨k2, o2 + j * 6 + 1, none⟩ = some (.int .i64 x1) ∧ wl.cell? ⟨k2, o2 + j * 6 + 2, none⟩ = some (.slice b2 x2.length d2) ∧ wl.cell? ⟨k2, o2 + j * 6 + 3, none⟩ = some (.slice b3 m3 d3) ∧ wl.cell? ⟨k2, o2 + j * 6 + 4, none⟩ = some (.slice b4 m4 d4) ∧ wl.cell? ⟨k2, o2 + j * 6 + 5, none⟩ = some (.slice b5 m5 d5)) := by
     intro wl hb
     have e1 : ∀ j, wl.cell? ⟨k1, j, none⟩ = wr.drew.cell? ⟨k1, j, none⟩ := fun j => hb.cell (show k1 < wr.heap.size from World.block_lt_of_cell? wr _ p0)
     have e2 : ∀ j, wl.cell? ⟨k2, j, none⟩ = wr.drew.cell? ⟨k2, j, none⟩ := fun j => hb.cell (show k2 < wr.heap.size from World.block_lt_of_cell? wr _ q0)
     simp only [e1, e2]
     exact HS0
    go_wp2_with fail
    go_region_held3 (fun wx => (wx.cell? ⟨k1, o1 + j * 6, none⟩ = some (.int .i64 x0) ∧ wx.cell? ⟨k1, o1 + j * 6 + 1, none⟩ = some (.int .i64 x1) ∧ wx.cell? ⟨k1, o1 + j * 6 + 2, none⟩ = some (.slice a2 x2.length c2) ∧ wx.cell? ⟨k1, o1 + j * 6 + 3, none⟩ = some (.slice a3 m3 c3) ∧ wx.cell? ⟨k1, o1 + j * 6 + 4, none⟩ = some (.slice a4 m4 c4) ∧ wx.cell? ⟨k1, o1 + j * 6 + 5, none⟩ = some (.slice a5 m5 c5) ∧ wx.cell? ⟨k2, o2 + j * 6, none⟩ = some (.int .i64 x0) ∧ wx.cell? ⟨k2, o2 + j * 6 + 1, none⟩ = some (.int .i64 x1) ∧ wx.cell? ⟨k2, o2 + j * 6 + 2, none⟩ = some (.slice b2 x2.length d2) ∧ wx.cell? ⟨k2, o2 + j * 6 + 3, none⟩ = some (.slice b3 m3 d3) ∧ wx.cell? ⟨k2, o2 + j * 6 + 4, none⟩ = some (.slice b4 m4 d4) ∧ wx.cell? ⟨k2, o2 + j * 6 + 5, none⟩ = some (.slice b5 m5 d5))) (first | exact HS0 | exact HSl) (first
     | (go_at_call 155; (with_reducible refine HC.mono ?_); rintro e wl ⟨rfl, hbl⟩; have HSl := hbs hbl))
    have hbw : Below w.heap.size w wl := hbr.drew.trans (hbl.mono hbr.size)
    clear HS0 hbs HC p0 q0 p1 q1 p2 q2 p3 q3 p4 q4 p5 q5
    go_wp2_with fail
    go_roundw
    case rel => exact ⟨j + 1, by omega, by go_num, hbw⟩
    case measure => simp [intOf]; omega
   ·
    go_wp2_with fail
    go_ret
    exact ⟨rfl, hbr⟩

set_option maxHeartbeats 8000000 in
theorem eqProcSF (l : List Pr) (H : ∀ x ∈ l, EqR 69 (Pr.fl x)) : EqF 36 (.l 5 (l.map Pr.fl)) := by
 intro w0 v u hv hu w hb0
 obtain ⟨a, c, rfl, hl1⟩ := (hv.below hb0).list
 obtain ⟨a2, c2, rfl, hl2⟩ := (hu.below hb0).list
 clear hv hu hb0
 have hm : (l.map Pr.fl).length = l.length := by simp [exs_map, sts_map, txts]
 have hat : ∀ j, j < l.length → ∃ x ∈ l, (l.map Pr.fl)[j]? = some (Pr.fl x) := by
  intro j hj
  exact ⟨l[j], List.getElem_mem hj, by simp [exs_map, sts_map, txts, hj]⟩
 generalize hrs : l.map Pr.fl = rs at hl1 hl2 hm hat ⊢
 clear hrs
 rw [← hm] at hat
 generalize hn : rs.length = n at hl1 hl2 hat ⊢
 clear hm
 have hcn : n ≤ 9223372036854775807 := by have h1 := hl1.cap; have h2 := hl1.most; unfold maxLen at h2; omega
 rcases Nat.eq_zero_or_pos n with h0 | hpos
 ·
  subst h0
  clear hl1 hl2 hat H hn
  go_enter Tryz.func36, Tryz.ntmps36
  go_wp2_with fail
  refine wp_loop_rounds 1 ?_
  rw [rounds_succ]
  go_wp2_with fail
  go_ret
  exact ⟨rfl, Below.refl _ _⟩
 ·
  obtain ⟨k1, o1, rfl⟩ := hl1.addr (by rw [hn]; exact hpos)
  obtain ⟨k2, o2, rfl⟩ := hl2.addr (by rw [hn]; exact hpos)
  have HL1 : Hid (LRow w (some ⟨k1, o1, none⟩) c 5 rs) := hl1
  have HL2 : Hid (LRow w (some ⟨k2, o2, none⟩) c2 5 rs) := hl2
  have HA : Hid (∀ j, j < n → ∃ x ∈ l, rs[j]? = some (Pr.fl x)) := hat
  have HH : Hid (∀ x ∈ l, EqR 69 (Pr.fl x)) := H
  clear hl1 hl2 hat H hn
  go_enter Tryz.func36, Tryz.ntmps36
  go_wp2_with fail
  go_loopw [5] (fun i wr => ∃ j : Nat, j ≤ n ∧ i = .int .i64 j ∧ Below w.heap.size w wr) (fun i _ => n - (intOf i).toNat)
  case atStart => exact ⟨0, Nat.zero_le _, rfl, Below.refl _ _⟩
  case round =>
   obtain ⟨j, hj, rfl, hbr⟩ := hrel
   by_cases hlt : j < n
   ·
    obtain ⟨x, hx, hxj⟩ := HA.out j hlt
    obtain ⟨vs, hvs, hcl⟩ := ((show LRow w (some ⟨k1, o1, none⟩) c 5 rs from HL1.out).below hbr |>.el hxj).vals
    obtain ⟨us, hus, hcl2⟩ := ((show LRow w (some ⟨k2, o2, none⟩) c2 5 rs from HL2.out).below hbr |>.el hxj).vals
    skip
    skip
    have HC := HH.out x hx wr vs us hvs hus wr.drew ((Below.refl _ wr).drew)
    clear hxj
    obtain ⟨x0, x1, x2, x3, x4⟩ := x
    obtain ⟨ya0, _, rfl, ⟨a0, c0, rfl, da0⟩, ya1, _, rfl, rfl, ya2, _, rfl, ⟨a2, c2, rfl, da2⟩, ya3, _, rfl, ⟨a3, c3, rfl, da3⟩, ya4, _, rfl, ⟨a4, c4, rfl, da4⟩, rfl⟩ := hvs
    obtain ⟨yb0, _, rfl, ⟨b0, d0, rfl, db0⟩, yb1, _, rfl, rfl, yb2, _, rfl, ⟨b2, d2, rfl, db2⟩, yb3, _, rfl, ⟨b3, d3, rfl, db3⟩, yb4, _, rfl, ⟨b4, d4, rfl, db4⟩, rfl⟩ := hus
    generalize (List.map Pa.fl x2).length = m2 at HC hcl hcl2; generalize (txts x3).length = m3 at HC hcl hcl2; generalize (sts x4).length = m4 at HC hcl hcl2
    have p0 : wr.cell? ⟨k1, o1 + j * 5, none⟩ = some (.slice a0 x0.length c0) := by exact hcl 0 _ rfl
    have q0 : wr.cell? ⟨k2, o2 + j * 5, none⟩ = some (.slice b0 x0.length d0) := by exact hcl2 0 _ rfl
    have p1 : wr.cell? ⟨k1, o1 + j * 5 + 1, none⟩ = some (.bool x1) := by exact hcl 1 _ rfl
    have q1 : wr.cell? ⟨k2, o2 + j * 5 + 1, none⟩ = some (.bool x1) := by exact hcl2 1 _ rfl
    have p2 : wr.cell? ⟨k1, o1 + j * 5 + 2, none⟩ = some (.slice a2 m2 c2) := by exact hcl 2 _ rfl
    have q2 : wr.cell? ⟨k2, o2 + j * 5 + 2, none⟩ = some (.slice b2 m2 d2) := by exact hcl2 2 _ rfl
    have p3 : wr.cell? ⟨k1, o1 + j * 5 + 3, none⟩ = some (.slice a3 m3 c3) := by exact hcl 3 _ rfl
    have q3 : wr.cell? ⟨k2, o2 + j * 5 + 3, none⟩ = some (.slice b3 m3 d3) := by exact hcl2 3 _ rfl
    have p4 : wr.cell? ⟨k1, o1 + j * 5 + 4, none⟩ = some (.slice a4 m4 c4) := by exact hcl 4 _ rfl
    have q4 : wr.cell? ⟨k2, o2 + j * 5 + 4, none⟩ = some (.slice b4 m4 d4) := by exact hcl2 4 _ rfl
    clear hcl hcl2 hx da0 db0 da2 db2 da3 db3 da4 db4
    have HS0 : (wr.drew.cell? ⟨k1, o1 + j * 5, none⟩ = some (.slice a0 x0.length c0) ∧ wr.drew.cell? ⟨k1, o1 + j * 5 + 1, none⟩ = some (.bool x1) ∧ wr.drew.cell? ⟨k1, o1 + j * 5 + 2, none⟩ = some (.slice a2 m2 c2) ∧ wr.drew.cell? ⟨k1, o1 + j * 5 + 3, none⟩ = some (.slice a3 m3 c3) ∧ wr.drew.cell? ⟨k1, o1 + j * 5 + 4, none⟩ = some (.slice a4 m4 c4) ∧ wr.drew.cell? ⟨k2, o2 + j * 5, none⟩ = some (.slice b0 x0.length d0) ∧ wr.drew.cell? ⟨k2, o2 + j * 5 + 1, none⟩ = some (.bool x1) ∧ wr.drew.cell? ⟨k2, o2 + j * 5 + 2, none⟩ = some (.slice b2 m2 d2) ∧ wr.drew.cell? ⟨k2, o2 + j * 5 + 3, none⟩ = some (.slice b3 m3 d3) ∧ wr.drew.cell? ⟨k2, o2 + j * 5 + 4, none⟩ = some (.slice b4 m4 d4)) := ⟨p0, p1, p2, p3, p4, q0, q1, q2, q3, q4⟩
    have hbs : ∀ {wl : World}, Below wr.drew.heap.size wr.drew wl → (wl.cell? ⟨k1, o1 + j * 5, none⟩ = some (.slice a0 x0.length c0) ∧ wl.cell? ⟨k1, o1 + j * 5 + 1, none⟩ = some (.bool x1) ∧ wl.cell? ⟨k1, o1 + j * 5 + 2, none⟩ = some (.slice a2 m2 c2) ∧ wl.cell? ⟨k1, o1 + j * 5 + 3, none⟩ = some (.slice a3 m3 c3) ∧ wl.cell? ⟨k1, o1 + j * 5 + 4, none⟩ = some (.slice a4 m4 c4) ∧ wl.cell? ⟨k2, o2 + j * 5, none⟩ = some (.slice b0 x0.length d0) ∧ wl.cell? ⟨k2, o2 + j * 5 + 1, none⟩ = some (.bool x1) ∧ wl.cell? ⟨k2, o2 + j * 5 + 2, none⟩ = some (.slice b2 m2 d2) ∧ wl.cell? ⟨k2, o2 + j * 5 + 3, none⟩ = some (.slice b3 m3 d3) ∧ wl.cell? ⟨k2, o2 + j * 5 + 4, none⟩ = some (.slice b4 m4 d4)) := by
     intro wl hb
     have e1 : ∀ j, wl.cell? ⟨k1, j, none⟩ = wr.drew.cell? ⟨k1, j, none⟩ := fun j => hb.cell (show k1 < wr.heap.size from World.block_lt_of_cell? wr _ p0)
     have e2 : ∀ j, wl.cell? ⟨k2, j, none⟩ = wr.drew.cell? ⟨k2, j, none⟩ := fun j => hb.cell (show k2 < wr.heap.size from World.block_lt_of_cell? wr _ q0)
     simp only [e1, e2]
     exact HS0
    go_wp2_with fail
    go_region_held3 (fun wx => (wx.cell? ⟨k1, o1 + j * 5, none⟩ = some (.slice a0 x0.length c0) ∧ wx.cell? ⟨k1, o1 + j * 5 + 1, none⟩ = some (.bool x1) ∧ wx.cell? ⟨k1, o1 + j * 5 + 2, none⟩ = some (.slice a2 m2 c2) ∧ wx.cell? ⟨k1, o1 + j * 5 + 3, none⟩ = some (.slice a3 m3 c3) ∧ wx.cell? ⟨k1, o1 + j * 5 + 4, none⟩ = some (.slice a4 m4 c4) ∧ wx.cell? ⟨k2, o2 + j * 5, none⟩ = some (.slice b0 x0.length d0) ∧ wx.cell? ⟨k2, o2 + j * 5 + 1, none⟩ = some (.bool x1) ∧ wx.cell? ⟨k2, o2 + j * 5 + 2, none⟩ = some (.slice b2 m2 d2) ∧ wx.cell? ⟨k2, o2 + j * 5 + 3, none⟩ = some (.slice b3 m3 d3) ∧ wx.cell? ⟨k2, o2 + j * 5 + 4, none⟩ = some (.slice b4 m4 d4))) (first | exact HS0 | exact HSl) (first
     | (go_at_call 69; (with_reducible refine HC.mono ?_); rintro e wl ⟨rfl, hbl⟩; have HSl := hbs hbl))
    have hbw : Below w.heap.size w wl := hbr.drew.trans (hbl.mono hbr.size)
    clear HS0 hbs HC p0 q0 p1 q1 p2 q2 p3 q3 p4 q4
    go_wp2_with fail
    go_roundw
    case rel => exact ⟨j + 1, by omega, by go_num, hbw⟩
    case measure => simp [intOf]; omega
   ·
    go_wp2_with fail
    go_ret
    exact ⟨rfl, hbr⟩

set_option maxHeartbeats 8000000 in
theorem eqFaceProcSF (l : List Fp) (H : ∀ x ∈ l, EqR 67 (Fp.fl x)) : EqF 33 (.l 2 (l.map Fp.fl)) := by
 intro w0 v u hv hu w hb0
 obtain ⟨a, c, rfl, hl1⟩ := (hv.below hb0).list
 obtain ⟨a2, c2, rfl, hl2⟩ := (hu.below hb0).list
 clear hv hu hb0
 have hm : (l.map Fp.fl).length = l.length := by simp [exs_map, sts_map, txts]
 have hat : ∀ j, j < l.length → ∃ x ∈ l, (l.map Fp.fl)[j]? = some (Fp.fl x) := by
  intro j hj
  exact ⟨l[j], List.getElem_mem hj, by simp [exs_map, sts_map, txts, hj]⟩
 generalize hrs : l.map Fp.fl = rs at hl1 hl2 hm hat ⊢
 clear hrs
 rw [← hm] at hat
 generalize hn : rs.length = n at hl1 hl2 hat ⊢
 clear hm
 have hcn : n ≤ 9223372036854775807 := by have h1 := hl1.cap; have h2 := hl1.most; unfold maxLen at h2; omega
 rcases Nat.eq_zero_or_pos n with h0 | hpos
 ·
  subst h0
  clear hl1 hl2 hat H hn
  go_enter Tryz.func33, Tryz.ntmps33
  go_wp2_with fail
  refine wp_loop_rounds 1 ?_
  rw [rounds_succ]
  go_wp2_with fail
  go_ret
  exact ⟨rfl, Below.refl _ _⟩
 ·
  obtain ⟨k1, o1, rfl⟩ := hl1.addr (by rw [hn]; exact hpos)
  obtain ⟨k2, o2, rfl⟩ := hl2.addr (by rw [hn]; exact hpos)
  have HL1 : Hid (LRow w (some ⟨k1, o1, none⟩) c 2 rs) := hl1
  have HL2 : Hid (LRow w (some ⟨k2, o2, none⟩) c2 2 rs) := hl2
  have HA : Hid (∀ j, j < n → ∃ x ∈ l, rs[j]? = some (Fp.fl x)) := hat
  have HH : Hid (∀ x ∈ l, EqR 67 (Fp.fl x)) := H
  clear hl1 hl2 hat H hn
  go_enter Tryz.func33, Tryz.ntmps33
  go_wp2_with fail
  go_loopw [5] (fun i wr => ∃ j : Nat, j ≤ n ∧ i = .int .i64 j ∧ Below w.heap.size w wr) (fun i _ => n - (intOf i).toNat)
  case atStart => exact ⟨0, Nat.zero_le _, rfl, Below.refl _ _⟩
  case round =>
   obtain ⟨j, hj, rfl, hbr⟩ := hrel
   by_cases hlt : j < n
   ·
    obtain ⟨x, hx, hxj⟩ := HA.out j hlt
    obtain ⟨vs, hvs, hcl⟩ := ((show LRow w (some ⟨k1, o1, none⟩) c 2 rs from HL1.out).below hbr |>.el hxj).vals
    obtain ⟨us, hus, hcl2⟩ := ((show LRow w (some ⟨k2, o2, none⟩) c2 2 rs from HL2.out).below hbr |>.el hxj).vals
    skip
    skip
    have HC := HH.out x hx wr vs us hvs hus wr.drew ((Below.refl _ wr).drew)
    clear hxj
    obtain ⟨x0, x1⟩ := x
    obtain ⟨ya0, _, rfl, ⟨a0, c0, rfl, da0⟩, ya1, _, rfl, ⟨a1, c1, rfl, da1⟩, rfl⟩ := hvs
    obtain ⟨yb0, _, rfl, ⟨b0, d0, rfl, db0⟩, yb1, _, rfl, ⟨b1, d1, rfl, db1⟩, rfl⟩ := hus
    skip
    have p0 : wr.cell? ⟨k1, o1 + j * 2, none⟩ = some (.slice a0 x0.length c0) := by exact hcl 0 _ rfl
    have q0 : wr.cell? ⟨k2, o2 + j * 2, none⟩ = some (.slice b0 x0.length d0) := by exact hcl2 0 _ rfl
    have p1 : wr.cell? ⟨k1, o1 + j * 2 + 1, none⟩ = some (.slice a1 x1.length c1) := by exact hcl 1 _ rfl
    have q1 : wr.cell? ⟨k2, o2 + j * 2 + 1, none⟩ = some (.slice b1 x1.length d1) := by exact hcl2 1 _ rfl
    clear hcl hcl2 hx da0 db0 da1 db1
    have HS0 : (wr.drew.cell? ⟨k1, o1 + j * 2, none⟩ = some (.slice a0 x0.length c0) ∧ wr.drew.cell? ⟨k1, o1 + j * 2 + 1, none⟩ = some (.slice a1 x1.length c1) ∧ wr.drew.cell? ⟨k2, o2 + j * 2, none⟩ = some (.slice b0 x0.length d0) ∧ wr.drew.cell? ⟨k2, o2 + j * 2 + 1, none⟩ = some (.slice b1 x1.length d1)) := ⟨p0, p1, q0, q1⟩
    have hbs : ∀ {wl : World}, Below wr.drew.heap.size wr.drew wl → (wl.cell? ⟨k1, o1 + j * 2, none⟩ = some (.slice a0 x0.length c0) ∧ wl.cell? ⟨k1, o1 + j * 2 + 1, none⟩ = some (.slice a1 x1.length c1) ∧ wl.cell? ⟨k2, o2 + j * 2, none⟩ = some (.slice b0 x0.length d0) ∧ wl.cell? ⟨k2, o2 + j * 2 + 1, none⟩ = some (.slice b1 x1.length d1)) := by
     intro wl hb
     have e1 : ∀ j, wl.cell? ⟨k1, j, none⟩ = wr.drew.cell? ⟨k1, j, none⟩ := fun j => hb.cell (show k1 < wr.heap.size from World.block_lt_of_cell? wr _ p0)
     have e2 : ∀ j, wl.cell? ⟨k2, j, none⟩ = wr.drew.cell? ⟨k2, j, none⟩ := fun j => hb.cell (show k2 < wr.heap.size from World.block_lt_of_cell? wr _ q0)
     simp only [e1, e2]
     exact HS0
    go_wp2_with fail
    go_region_held3 (fun wx => (wx.cell? ⟨k1, o1 + j * 2, none⟩ = some (.slice a0 x0.length c0) ∧ wx.cell? ⟨k1, o1 + j * 2 + 1, none⟩ = some (.slice a1 x1.length c1) ∧ wx.cell? ⟨k2, o2 + j * 2, none⟩ = some (.slice b0 x0.length d0) ∧ wx.cell? ⟨k2, o2 + j * 2 + 1, none⟩ = some (.slice b1 x1.length d1))) (first | exact HS0 | exact HSl) (first
     | (go_at_call 67; (with_reducible refine HC.mono ?_); rintro e wl ⟨rfl, hbl⟩; have HSl := hbs hbl))
    have hbw : Below w.heap.size w wl := hbr.drew.trans (hbl.mono hbr.size)
    clear HS0 hbs HC p0 q0 p1 q1
    go_wp2_with fail
    go_roundw
    case rel => exact ⟨j + 1, by omega, by go_num, hbw⟩
    case measure => simp [intOf]; omega
   ·
    go_wp2_with fail
    go_ret
    exact ⟨rfl, hbr⟩

set_option maxHeartbeats 8000000 in
theorem eqByteSSF (l : List (List Int)) (H : ∀ x ∈ l, EqF 32 (.b x)) : EqF 34 (.l 1 (txts l)) := by
 intro w0 v u hv hu w hb0
 obtain ⟨a, c, rfl, hl1⟩ := (hv.below hb0).list
 obtain ⟨a2, c2, rfl, hl2⟩ := (hu.below hb0).list
 clear hv hu hb0
 have hm : (txts l).length = l.length := by simp [exs_map, sts_map, txts]
 have hat : ∀ j, j < l.length → ∃ x ∈ l, (txts l)[j]? = some [.b x] := by
  intro j hj
  exact ⟨l[j], List.getElem_mem hj, by simp [exs_map, sts_map, txts, hj]⟩
 generalize hrs : txts l = rs at hl1 hl2 hm hat ⊢
 clear hrs
 rw [← hm] at hat
 generalize hn : rs.length = n at hl1 hl2 hat ⊢
 clear hm
 have hcn : n ≤ 9223372036854775807 := by have h1 := hl1.cap; have h2 := hl1.most; unfold maxLen at h2; omega
 rcases Nat.eq_zero_or_pos n with h0 | hpos
 ·
  subst h0
  clear hl1 hl2 hat H hn
  go_enter Tryz.func34, Tryz.ntmps34
  go_wp2_with fail
  refine wp_loop_rounds 1 ?_
  rw [rounds_succ]
  go_wp2_with fail
  go_ret
  exact ⟨rfl, Below.refl _ _⟩
 ·
  obtain ⟨k1, o1, rfl⟩ := hl1.addr (by rw [hn]; exact hpos)
  obtain ⟨k2, o2, rfl⟩ := hl2.addr (by rw [hn]; exact hpos)
  have HL1 : Hid (LRow w (some ⟨k1, o1, none⟩) c 1 rs) := hl1
  have HL2 : Hid (LRow w (some ⟨k2, o2, none⟩) c2 1 rs) := hl2
  have HA : Hid (∀ j, j < n → ∃ x ∈ l, rs[j]? = some [.b x]) := hat
  have HH : Hid (∀ x ∈ l, EqF 32 (.b x)) := H
  clear hl1 hl2 hat H hn
  go_enter Tryz.func34, Tryz.ntmps34
  go_wp2_with fail
  go_loopw [5] (fun i wr => ∃ j : Nat, j ≤ n ∧ i = .int .i64 j ∧ Below w.heap.size w wr) (fun i _ => n - (intOf i).toNat)
  case atStart => exact ⟨0, Nat.zero_le _, rfl, Below.refl _ _⟩
  case round =>
   obtain ⟨j, hj, rfl, hbr⟩ := hrel
   by_cases hlt : j < n
   ·
    obtain ⟨x, hx, hxj⟩ := HA.out j hlt
    obtain ⟨vs, hvs, hcl⟩ := ((show LRow w (some ⟨k1, o1, none⟩) c 1 rs from HL1.out).below hbr |>.el hxj).vals
    obtain ⟨us, hus, hcl2⟩ := ((show LRow w (some ⟨k2, o2, none⟩) c2 1 rs from HL2.out).below hbr |>.el hxj).vals
    obtain ⟨y0, _, rfl, hy0, rfl⟩ := hvs
    obtain ⟨z0, _, rfl, hz0, rfl⟩ := hus
    have HC := HH.out x hx wr y0 z0 hy0 hz0 wr.drew ((Below.refl _ wr).drew)
    clear hxj
    skip
    obtain ⟨a0, c0, rfl, da0⟩ := hy0
    obtain ⟨b0, d0, rfl, db0⟩ := hz0
    skip
    have p0 : wr.cell? ⟨k1, o1 + j, none⟩ = some (.slice a0 x.length c0) := by have := hcl 0 _ rfl; simpa using this
    have q0 : wr.cell? ⟨k2, o2 + j, none⟩ = some (.slice b0 x.length d0) := by have := hcl2 0 _ rfl; simpa using this
    clear hcl hcl2 hx da0 db0
    have HS0 : (wr.drew.cell? ⟨k1, o1 + j, none⟩ = some (.slice a0 x.length c0) ∧ wr.drew.cell? ⟨k2, o2 + j, none⟩ = some (.slice b0 x.length d0)) := ⟨p0, q0⟩
    have hbs : ∀ {wl : World}, Below wr.drew.heap.size wr.drew wl → (wl.cell? ⟨k1, o1 + j, none⟩ = some (.slice a0 x.length c0) ∧ wl.cell? ⟨k2, o2 + j, none⟩ = some (.slice b0 x.length d0)) := by
     intro wl hb
     have e1 : ∀ j, wl.cell? ⟨k1, j, none⟩ = wr.drew.cell? ⟨k1, j, none⟩ := fun j => hb.cell (show k1 < wr.heap.size from World.block_lt_of_cell? wr _ p0)
     have e2 : ∀ j, wl.cell? ⟨k2, j, none⟩ = wr.drew.cell? ⟨k2, j, none⟩ := fun j => hb.cell (show k2 < wr.heap.size from World.block_lt_of_cell? wr _ q0)
     simp only [e1, e2]
     exact HS0
    go_wp2_with fail
    go_region_held3 (fun wx => (wx.cell? ⟨k1, o1 + j, none⟩ = some (.slice a0 x.length c0) ∧ wx.cell? ⟨k2, o2 + j, none⟩ = some (.slice b0 x.length d0))) (first | exact HS0 | exact HSl) (first
     | (go_at_call 32; (with_reducible refine HC.mono ?_); rintro e wl ⟨rfl, hbl⟩; have HSl := hbs hbl))
    have hbw : Below w.heap.size w wl := hbr.drew.trans (hbl.mono hbr.size)
    clear HS0 hbs HC p0 q0
    go_wp2_with fail
    go_roundw
    case rel => exact ⟨j + 1, by omega, by go_num, hbw⟩
    case measure => simp [intOf]; omega
   ·
    go_wp2_with fail
    go_ret
    exact ⟨rfl, hbr⟩

theorem eqByteF (l : List Int) (hl : l.length ≤ 1048576) : EqF 32 (.b l) := by
 rintro w v u hv hu w1 hb
 obtain ⟨a, c, rfl, hr, _⟩ := hv.below hb
 obtain ⟨a2, c2, rfl, hr2, _⟩ := hu.below hb
 exact eqT _ _ _ l _ _ _ _ hr hr2 (by omega)

theorem eqIntF (l : List Int) (hl : l.length ≤ 1048576) : EqF 114 (.i l) := by
 rintro w v u hv hu w1 hb
 obtain ⟨a, c, rfl, hr, _⟩ := hv.below hb
 obtain ⟨a2, c2, rfl, hr2, _⟩ := hu.below hb
 refine (eqI _ _ _ l _ _ _ l _ hr hr2 (by omega)).mono ?_
 rintro e w' ⟨rfl, d, rfl⟩
 exact ⟨by rw [decide_eq_true rfl], below_drewN (Below.refl _ _) d⟩

theorem EqV.on {w w1 : World} {F : Nat} {v u : Value} (h : EqV w F v u) (hb : Below w.heap.size w w1) : EqV w1 F v u :=
 fun w2 hb2 => h w2 (hb.trans (hb2.mono hb.size))

theorem eqVarR (x0 : List Int) (x1 : Int) (S0 : EqF 32 (.b x0)) : EqR 68 (Va.mk x0 x1).fl := by
 intro w vs us hv hu w1 hb
 unfold Va.fl at hv hu
 obtain ⟨yh0, _, rfl, h0, yh1, _, rfl, rfl, rfl⟩ := hv
 obtain ⟨yk0, _, rfl, k0, yk1, _, rfl, rfl, rfl⟩ := hu
 have g0 := (S0 w _ _ h0 k0).on hb
 obtain ⟨a0, c0, rfl, _⟩ := h0
 obtain ⟨b0, d0, rfl, _⟩ := k0
 exact eqVar0 a0 b0 _ c0 d0 x1 w1 g0

theorem eqParamR (x0 : List Int) (x1 : Bool) (S0 : EqF 32 (.b x0)) : EqR 154 (Pa.mk x0 x1).fl := by
 intro w vs us hv hu w1 hb
 unfold Pa.fl at hv hu
 obtain ⟨yh0, _, rfl, h0, yh1, _, rfl, rfl, rfl⟩ := hv
 obtain ⟨yk0, _, rfl, k0, yk1, _, rfl, rfl, rfl⟩ := hu
 have g0 := (S0 w _ _ h0 k0).on hb
 obtain ⟨a0, c0, rfl, _⟩ := h0
 obtain ⟨b0, d0, rfl, _⟩ := k0
 exact eqParam0 a0 b0 _ c0 d0 x1 w1 g0

theorem eqExprR (x0 : Int) (x1 : Int) (x2 : List Int) (x3 : List Int) (x4 : List Ex) (S2 : EqF 32 (.b x2)) (S3 : EqF 32 (.b x3)) (S4 : EqF 191 (.l 5 (exs x4))) : EqR 210 (Ex.mk x0 x1 x2 x3 x4).fl := by
 intro w vs us hv hu w1 hb
 unfold Ex.fl at hv hu
 obtain ⟨yh0, _, rfl, rfl, yh1, _, rfl, rfl, yh2, _, rfl, h2, yh3, _, rfl, h3, yh4, _, rfl, h4, rfl⟩ := hv
 obtain ⟨yk0, _, rfl, rfl, yk1, _, rfl, rfl, yk2, _, rfl, k2, yk3, _, rfl, k3, yk4, _, rfl, k4, rfl⟩ := hu
 have g2 := (S2 w _ _ h2 k2).on hb
 have g3 := (S3 w _ _ h3 k3).on hb
 have g4 := (S4 w _ _ h4 k4).on hb
 obtain ⟨a2, c2, rfl, _⟩ := h2
 obtain ⟨b2, d2, rfl, _⟩ := k2
 obtain ⟨a3, c3, rfl, _⟩ := h3
 obtain ⟨b3, d3, rfl, _⟩ := k3
 obtain ⟨a4, c4, rfl, _⟩ := h4
 obtain ⟨b4, d4, rfl, _⟩ := k4
 exact eqExpr0 x0 x1 a2 b2 _ c2 d2 a3 b3 _ c3 d3 a4 b4 _ c4 d4 w1 g2 g3 g4

theorem eqStmtR (x0 : Int) (x1 : Int) (x2 : List Int) (x3 : List Ex) (x4 : List St) (x5 : List St) (S2 : EqF 32 (.b x2)) (S3 : EqF 191 (.l 5 (exs x3))) (S4 : EqF 116 (.l 6 (sts x4))) (S5 : EqF 116 (.l 6 (sts x5))) : EqR 155 (St.mk x0 x1 x2 x3 x4 x5).fl := by
 intro w vs us hv hu w1 hb
 unfold St.fl at hv hu
 obtain ⟨yh0, _, rfl, rfl, yh1, _, rfl, rfl, yh2, _, rfl, h2, yh3, _, rfl, h3, yh4, _, rfl, h4, yh5, _, rfl, h5, rfl⟩ := hv
 obtain ⟨yk0, _, rfl, rfl, yk1, _, rfl, rfl, yk2, _, rfl, k2, yk3, _, rfl, k3, yk4, _, rfl, k4, yk5, _, rfl, k5, rfl⟩ := hu
 have g2 := (S2 w _ _ h2 k2).on hb
 have g3 := (S3 w _ _ h3 k3).on hb
 have g4 := (S4 w _ _ h4 k4).on hb
 have g5 := (S5 w _ _ h5 k5).on hb
 obtain ⟨a2, c2, rfl, _⟩ := h2
 obtain ⟨b2, d2, rfl, _⟩ := k2
 obtain ⟨a3, c3, rfl, _⟩ := h3
 obtain ⟨b3, d3, rfl, _⟩ := k3
 obtain ⟨a4, c4, rfl, _⟩ := h4
 obtain ⟨b4, d4, rfl, _⟩ := k4
 obtain ⟨a5, c5, rfl, _⟩ := h5
 obtain ⟨b5, d5, rfl, _⟩ := k5
 exact eqStmt0 x0 x1 a2 b2 _ c2 d2 a3 b3 _ c3 d3 a4 b4 _ c4 d4 a5 b5 _ c5 d5 w1 g2 g3 g4 g5

theorem eqProcR (x0 : List Int) (x1 : Bool) (x2 : List Pa) (x3 : List (List Int)) (x4 : List St) (S0 : EqF 32 (.b x0)) (S2 : EqF 115 (.l 2 (x2.map Pa.fl))) (S3 : EqF 34 (.l 1 (txts x3))) (S4 : EqF 116 (.l 6 (sts x4))) : EqR 69 (Pr.mk x0 x1 x2 x3 x4).fl := by
 intro w vs us hv hu w1 hb
 unfold Pr.fl at hv hu
 obtain ⟨yh0, _, rfl, h0, yh1, _, rfl, rfl, yh2, _, rfl, h2, yh3, _, rfl, h3, yh4, _, rfl, h4, rfl⟩ := hv
 obtain ⟨yk0, _, rfl, k0, yk1, _, rfl, rfl, yk2, _, rfl, k2, yk3, _, rfl, k3, yk4, _, rfl, k4, rfl⟩ := hu
 have g0 := (S0 w _ _ h0 k0).on hb
 have g2 := (S2 w _ _ h2 k2).on hb
 have g3 := (S3 w _ _ h3 k3).on hb
 have g4 := (S4 w _ _ h4 k4).on hb
 obtain ⟨a0, c0, rfl, _⟩ := h0
 obtain ⟨b0, d0, rfl, _⟩ := k0
 obtain ⟨a2, c2, rfl, _⟩ := h2
 obtain ⟨b2, d2, rfl, _⟩ := k2
 obtain ⟨a3, c3, rfl, _⟩ := h3
 obtain ⟨b3, d3, rfl, _⟩ := k3
 obtain ⟨a4, c4, rfl, _⟩ := h4
 obtain ⟨b4, d4, rfl, _⟩ := k4
 exact eqProc0 a0 b0 _ c0 d0 x1 a2 b2 _ c2 d2 a3 b3 _ c3 d3 a4 b4 _ c4 d4 w1 g0 g2 g3 g4

theorem eqFaceProcR (x0 : List Int) (x1 : List Int) (S0 : EqF 32 (.b x0)) (S1 : EqF 114 (.i x1)) : EqR 67 (Fp.mk x0 x1).fl := by
 intro w vs us hv hu w1 hb
 unfold Fp.fl at hv hu
 obtain ⟨yh0, _, rfl, h0, yh1, _, rfl, h1, rfl⟩ := hv
 obtain ⟨yk0, _, rfl, k0, yk1, _, rfl, k1, rfl⟩ := hu
 have g0 := (S0 w _ _ h0 k0).on hb
 have g1 := (S1 w _ _ h1 k1).on hb
 obtain ⟨a0, c0, rfl, _⟩ := h0
 obtain ⟨b0, d0, rfl, _⟩ := k0
 obtain ⟨a1, c1, rfl, _⟩ := h1
 obtain ⟨b1, d1, rfl, _⟩ := k1
 exact eqFaceProc0 a0 b0 _ c0 d0 a1 b1 _ c1 d1 w1 g0 g1

theorem eqFaceR (x0 : List Int) (x1 : List Fp) (S0 : EqF 32 (.b x0)) (S1 : EqF 33 (.l 2 (x1.map Fp.fl))) : EqR 9 (Fa.mk x0 x1).fl := by
 intro w vs us hv hu w1 hb
 unfold Fa.fl at hv hu
 obtain ⟨yh0, _, rfl, h0, yh1, _, rfl, h1, rfl⟩ := hv
 obtain ⟨yk0, _, rfl, k0, yk1, _, rfl, k1, rfl⟩ := hu
 have g0 := (S0 w _ _ h0 k0).on hb
 have g1 := (S1 w _ _ h1 k1).on hb
 obtain ⟨a0, c0, rfl, _⟩ := h0
 obtain ⟨b0, d0, rfl, _⟩ := k0
 obtain ⟨a1, c1, rfl, _⟩ := h1
 obtain ⟨b1, d1, rfl, _⟩ := k1
 exact eqFace0 a0 b0 _ c0 d0 a1 b1 _ c1 d1 w1 g0 g1

theorem eqModuleR (x0 : List Int) (x1 : List (List Int)) (x2 : List Va) (x3 : List Pr) (S0 : EqF 32 (.b x0)) (S1 : EqF 34 (.l 1 (txts x1))) (S2 : EqF 35 (.l 2 (x2.map Va.fl))) (S3 : EqF 36 (.l 5 (x3.map Pr.fl))) : EqR 10 (Mo.mk x0 x1 x2 x3).fl := by
 intro w vs us hv hu w1 hb
 unfold Mo.fl at hv hu
 obtain ⟨yh0, _, rfl, h0, yh1, _, rfl, h1, yh2, _, rfl, h2, yh3, _, rfl, h3, rfl⟩ := hv
 obtain ⟨yk0, _, rfl, k0, yk1, _, rfl, k1, yk2, _, rfl, k2, yk3, _, rfl, k3, rfl⟩ := hu
 have g0 := (S0 w _ _ h0 k0).on hb
 have g1 := (S1 w _ _ h1 k1).on hb
 have g2 := (S2 w _ _ h2 k2).on hb
 have g3 := (S3 w _ _ h3 k3).on hb
 obtain ⟨a0, c0, rfl, _⟩ := h0
 obtain ⟨b0, d0, rfl, _⟩ := k0
 obtain ⟨a1, c1, rfl, _⟩ := h1
 obtain ⟨b1, d1, rfl, _⟩ := k1
 obtain ⟨a2, c2, rfl, _⟩ := h2
 obtain ⟨b2, d2, rfl, _⟩ := k2
 obtain ⟨a3, c3, rfl, _⟩ := h3
 obtain ⟨b3, d3, rfl, _⟩ := k3
 exact eqModule0 a0 b0 _ c0 d0 a1 b1 _ c1 d1 a2 b2 _ c2 d2 a3 b3 _ c3 d3 w1 g0 g1 g2 g3

mutual
theorem eqEx : ∀ e : Ex, recLen e.fl ≤ 1048576 → EqR 210 e.fl
 | .mk k n m a ks, h => by
  have e : recLen (Ex.mk k n m a ks).fl = m.length + a.length + ((exs ks).length + rowsLen (exs ks)) := by simp [Ex.fl, recLen, Fl.len] <;> omega
  rw [e] at h
  exact eqExprR k n m a ks (eqByteF m (by omega)) (eqByteF a (by omega)) (eqExprSF ks (eqExs ks (by omega)))
theorem eqExs : ∀ (l : List Ex), rowsLen (exs l) ≤ 1048576 → ∀ e ∈ l, EqR 210 e.fl
 | [], _, e, h => by simp at h
 | x :: l, hl, e, h => by
  simp only [exs, rowsLen] at hl
  rcases List.mem_cons.1 h with h | h
  ·
   rw [h]; exact eqEx x (by omega)
  ·
   exact eqExs l (by omega) e h
end
mutual
theorem eqSt : ∀ e : St, recLen e.fl ≤ 1048576 → EqR 155 e.fl
 | .mk k n a ks bs es, h => by
  have e : recLen (St.mk k n a ks bs es).fl = a.length + ((exs ks).length + rowsLen (exs ks)) + ((sts bs).length + rowsLen (sts bs)) + ((sts es).length + rowsLen (sts es)) := by simp [St.fl, recLen, Fl.len] <;> omega
  rw [e] at h
  exact eqStmtR k n a ks bs es (eqByteF a (by omega)) (eqExprSF ks (eqExs ks (by omega))) (eqStmtSF bs (eqSts bs (by omega))) (eqStmtSF es (eqSts es (by omega)))
theorem eqSts : ∀ (l : List St), rowsLen (sts l) ≤ 1048576 → ∀ e ∈ l, EqR 155 e.fl
 | [], _, e, h => by simp at h
 | x :: l, hl, e, h => by
  simp only [sts, rowsLen] at hl
  rcases List.mem_cons.1 h with h | h
  ·
   rw [h]; exact eqSt x (by omega)
  ·
   exact eqSts l (by omega) e h
end

theorem eqFa (f : Fa) (h : recLen f.fl ≤ 1048576) : EqR 9 f.fl := by
 have e : recLen f.fl = f.name.length + ((f.procs.map Fp.fl).length + rowsLen (f.procs.map Fp.fl)) := by simp [Fa.fl, recLen, Fl.len]
 rw [e] at h
 refine eqFaceR f.name f.procs (eqByteF _ (by omega)) (eqFaceProcSF _ fun q hq => ?_)
 have := rec_le (f := Fp.fl) hq
 simp only [Fp.fl, recLen, Fl.len] at this
 exact eqFaceProcR q.name q.kinds (eqByteF _ (by omega)) (eqIntF _ (by omega))

theorem eqTxts (l : List (List Int)) (h : (txts l).length + rowsLen (txts l) ≤ 1048576) : EqF 34 (.l 1 (txts l)) :=
 eqByteSSF l fun x hx => eqByteF x (by have := rec_le (f := fun x => [Fl.b x]) hx; simp only [recLen, Fl.len] at this; unfold txts at h; omega)

theorem eqMo (m : Mo) (h : recLen m.fl ≤ 1048576) : EqR 10 m.fl := by
 have e : recLen m.fl = m.name.length + ((txts m.uses).length + rowsLen (txts m.uses)) + ((m.vars.map Va.fl).length + rowsLen (m.vars.map Va.fl)) + ((m.procs.map Pr.fl).length + rowsLen (m.procs.map Pr.fl)) := by simp [Mo.fl, recLen, Fl.len] <;> omega
 rw [e] at h
 refine eqModuleR m.name m.uses m.vars m.procs (eqByteF _ (by omega)) (eqTxts _ (by omega)) (eqVarSF _ fun v hv => ?_) (eqProcSF _ fun q hq => ?_)
 ·
  have := rec_le (f := Va.fl) hv
  simp only [Va.fl, recLen, Fl.len] at this
  exact eqVarR v.name v.size (eqByteF _ (by omega))
 ·
  have := rec_le (f := Pr.fl) hq
  have e2 : recLen q.fl = q.name.length + ((q.params.map Pa.fl).length + rowsLen (q.params.map Pa.fl)) + ((txts q.locals).length + rowsLen (txts q.locals)) + ((sts q.body).length + rowsLen (sts q.body)) := by simp [Pr.fl, recLen, Fl.len] <;> omega
  rw [e2] at this
  refine eqProcR q.name q.opn q.params q.locals q.body (eqByteF _ (by omega)) (eqParamSF _ fun p hp => ?_) (eqTxts _ (by omega)) (eqStmtSF _ (eqSts _ (by omega)))
  have h3 := rec_le (f := Pa.fl) hp
  simp only [Pa.fl, recLen, Fl.len] at h3
  exact eqParamR p.name p.arr (eqByteF _ (by omega))


end Go.Proofs.YtopnodadggohiaaGreatDoor

/- Contracts of the laws' own helpers that compare modules: where both read alike, they say so. By mktreeeq.py. -/
import Derived.Test.YtefciaeajlgheaaTreeTo2
namespace Go.Proofs.Ytefciaeajlgheaa
open Go.RowKit
set_option linter.unusedVariables false
set_option linter.unusedSimpArgs false
set_option maxRecDepth 100000

def EqV (w : World) (F : Nat) (v u : Value) : Prop :=
  ∀ w1 : World, Below w.heap.size w w1 → Calls Try.prog F #[v, u] w1 fun e w' => e = .returned (.bool true) ∧ Below w1.heap.size w1 w'
def EqF (F : Nat) (f : Fl) : Prop := ∀ (w : World) (v u : Value), f.Rd w v → f.Rd w u → EqV w F v u
def EqR (F : Nat) (r : List Fl) : Prop := ∀ (w : World) (vs us : List Value), RdVals w r vs → RdVals w r us → EqV w F (.agg vs.toArray) (.agg us.toArray)

theorem two_blks (w : World) (t : TypeId) (A B : List Value) :
    Blk ((w.alloc (.cells A.toArray t (0, 0))).alloc (.cells B.toArray t (0, 0))) w.heap.size t A ∧ Blk ((w.alloc (.cells A.toArray t (0, 0))).alloc (.cells B.toArray t (0, 0))) (w.heap.size + 1) t B ∧ Below w.heap.size w ((w.alloc (.cells A.toArray t (0, 0))).alloc (.cells B.toArray t (0, 0))) := by
  have h := Blk.new (w.alloc (.cells A.toArray t (0, 0))) t B
  rw [show (w.alloc (.cells A.toArray t (0, 0))).heap.size = w.heap.size + 1 by simp] at h
  exact ⟨(Blk.new w t A).old, h, ((Below.refl _ _).alloc (Nat.le_refl _) _).alloc (by simp) _⟩

set_option maxHeartbeats 4000000 in
theorem eqExport0 (a0 b0 : Option Addr) (n0 c0 d0 : Nat) (p1 : Int) (p2 : Int) (w : World)
    (H0 : EqV w 65 (.slice a0 n0 c0) (.slice b0 n0 d0)) :
    Calls Try.prog 83 #[.agg #[.slice a0 n0 c0, .int .i64 p1, .int .i64 p2], .agg #[.slice b0 n0 d0, .int .i64 p1, .int .i64 p2]] w fun e w' => e = .returned (.bool true) ∧ Below w.heap.size w w' := by
  obtain ⟨x, y, hb⟩ := two_blks w 60 [.slice a0 n0 c0, .int .i64 p1, .int .i64 p2] [.slice b0 n0 d0, .int .i64 p1, .int .i64 p2]
  have hp1 : (p1 != p1) = false := by simp
  have hp2 : (p2 != p2) = false := by simp
  go_enter Try.func83, Try.ntmps83
  go_upto_region 1 with fail
  simp only [List.toArray] at x y hb
  generalize (w.alloc (.cells #[.slice a0 n0 c0, .int .i64 p1, .int .i64 p2] 60 (0, 0))).alloc (.cells #[.slice b0 n0 d0, .int .i64 p1, .int .i64 p2] 60 (0, 0)) = w0 at *
  have q0 := x.cell (i := 0) rfl
  have r0 := y.cell (i := 0) rfl
  have q1 := x.cell (i := 1) rfl
  have r1 := y.cell (i := 1) rfl
  have q2 := x.cell (i := 2) rfl
  have r2 := y.cell (i := 2) rfl
  go_wp2_with fail
  refine (H0 w0 hb).mono ?_
  rintro e w1 ⟨rfl, hb1⟩
  clear q0 r0 q1 r1 q2 r2
  replace x := x.below hb1 x.lt
  replace y := y.below hb1 y.lt
  replace hb : Below w.heap.size w w1 := hb.trans (hb1.mono hb.size)
  clear hb1 H0
  have q0 := x.cell (i := 0) rfl
  have r0 := y.cell (i := 0) rfl
  have q1 := x.cell (i := 1) rfl
  have r1 := y.cell (i := 1) rfl
  have q2 := x.cell (i := 2) rfl
  have r2 := y.cell (i := 2) rfl
  go_wp2_with fail
  go_ret
  exact ⟨rfl, hb⟩

set_option maxHeartbeats 4000000 in
theorem eqImport0 (a0 b0 : Option Addr) (n0 c0 d0 : Nat) (a1 b1 : Option Addr) (n1 c1 d1 : Nat) (p2 : Int) (w : World)
    (H0 : EqV w 65 (.slice a0 n0 c0) (.slice b0 n0 d0)) (H1 : EqV w 65 (.slice a1 n1 c1) (.slice b1 n1 d1)) :
    Calls Try.prog 84 #[.agg #[.slice a0 n0 c0, .slice a1 n1 c1, .int .i64 p2], .agg #[.slice b0 n0 d0, .slice b1 n1 d1, .int .i64 p2]] w fun e w' => e = .returned (.bool true) ∧ Below w.heap.size w w' := by
  obtain ⟨x, y, hb⟩ := two_blks w 52 [.slice a0 n0 c0, .slice a1 n1 c1, .int .i64 p2] [.slice b0 n0 d0, .slice b1 n1 d1, .int .i64 p2]
  have hp2 : (p2 != p2) = false := by simp
  go_enter Try.func84, Try.ntmps84
  go_upto_region 1 with fail
  simp only [List.toArray] at x y hb
  generalize (w.alloc (.cells #[.slice a0 n0 c0, .slice a1 n1 c1, .int .i64 p2] 52 (0, 0))).alloc (.cells #[.slice b0 n0 d0, .slice b1 n1 d1, .int .i64 p2] 52 (0, 0)) = w0 at *
  have q0 := x.cell (i := 0) rfl
  have r0 := y.cell (i := 0) rfl
  have q1 := x.cell (i := 1) rfl
  have r1 := y.cell (i := 1) rfl
  have q2 := x.cell (i := 2) rfl
  have r2 := y.cell (i := 2) rfl
  go_wp2_with fail
  refine (H0 w0 hb).mono ?_
  rintro e w1 ⟨rfl, hb1⟩
  clear q0 r0 q1 r1 q2 r2
  replace x := x.below hb1 x.lt
  replace y := y.below hb1 y.lt
  replace hb : Below w.heap.size w w1 := hb.trans (hb1.mono hb.size)
  clear hb1 H0
  have q0 := x.cell (i := 0) rfl
  have r0 := y.cell (i := 0) rfl
  have q1 := x.cell (i := 1) rfl
  have r1 := y.cell (i := 1) rfl
  have q2 := x.cell (i := 2) rfl
  have r2 := y.cell (i := 2) rfl
  go_wp2_with fail
  refine (H1 w1 hb).mono ?_
  rintro e w2 ⟨rfl, hb2⟩
  clear q0 r0 q1 r1 q2 r2
  replace x := x.below hb2 x.lt
  replace y := y.below hb2 y.lt
  replace hb : Below w.heap.size w w2 := hb.trans (hb2.mono hb.size)
  clear hb2 H1
  have q0 := x.cell (i := 0) rfl
  have r0 := y.cell (i := 0) rfl
  have q1 := x.cell (i := 1) rfl
  have r1 := y.cell (i := 1) rfl
  have q2 := x.cell (i := 2) rfl
  have r2 := y.cell (i := 2) rfl
  go_wp2_with fail
  go_ret
  exact ⟨rfl, hb⟩

set_option maxHeartbeats 4000000 in
theorem eqObject0 (a0 b0 : Option Addr) (n0 c0 d0 : Nat) (a1 b1 : Option Addr) (n1 c1 d1 : Nat) (a2 b2 : Option Addr) (n2 c2 d2 : Nat) (p3 : Int) (a4 b4 : Option Addr) (n4 c4 d4 : Nat) (w : World)
    (H0 : EqV w 65 (.slice a0 n0 c0) (.slice b0 n0 d0)) (H1 : EqV w 66 (.slice a1 n1 c1) (.slice b1 n1 d1)) (H2 : EqV w 67 (.slice a2 n2 c2) (.slice b2 n2 d2)) (H4 : EqV w 65 (.slice a4 n4 c4) (.slice b4 n4 d4)) :
    Calls Try.prog 31 #[.agg #[.slice a0 n0 c0, .slice a1 n1 c1, .slice a2 n2 c2, .int .i64 p3, .slice a4 n4 c4], .agg #[.slice b0 n0 d0, .slice b1 n1 d1, .slice b2 n2 d2, .int .i64 p3, .slice b4 n4 d4]] w fun e w' => e = .returned (.bool true) ∧ Below w.heap.size w w' := by
  obtain ⟨x, y, hb⟩ := two_blks w 47 [.slice a0 n0 c0, .slice a1 n1 c1, .slice a2 n2 c2, .int .i64 p3, .slice a4 n4 c4] [.slice b0 n0 d0, .slice b1 n1 d1, .slice b2 n2 d2, .int .i64 p3, .slice b4 n4 d4]
  have hp3 : (p3 != p3) = false := by simp
  go_enter Try.func31, Try.ntmps31
  go_upto_region 1 with fail
  simp only [List.toArray] at x y hb
  generalize (w.alloc (.cells #[.slice a0 n0 c0, .slice a1 n1 c1, .slice a2 n2 c2, .int .i64 p3, .slice a4 n4 c4] 47 (0, 0))).alloc (.cells #[.slice b0 n0 d0, .slice b1 n1 d1, .slice b2 n2 d2, .int .i64 p3, .slice b4 n4 d4] 47 (0, 0)) = w0 at *
  have q0 := x.cell (i := 0) rfl
  have r0 := y.cell (i := 0) rfl
  have q1 := x.cell (i := 1) rfl
  have r1 := y.cell (i := 1) rfl
  have q2 := x.cell (i := 2) rfl
  have r2 := y.cell (i := 2) rfl
  have q3 := x.cell (i := 3) rfl
  have r3 := y.cell (i := 3) rfl
  have q4 := x.cell (i := 4) rfl
  have r4 := y.cell (i := 4) rfl
  go_wp2_with fail
  refine (H0 w0 hb).mono ?_
  rintro e w1 ⟨rfl, hb1⟩
  clear q0 r0 q1 r1 q2 r2 q3 r3 q4 r4
  replace x := x.below hb1 x.lt
  replace y := y.below hb1 y.lt
  replace hb : Below w.heap.size w w1 := hb.trans (hb1.mono hb.size)
  clear hb1 H0
  have q0 := x.cell (i := 0) rfl
  have r0 := y.cell (i := 0) rfl
  have q1 := x.cell (i := 1) rfl
  have r1 := y.cell (i := 1) rfl
  have q2 := x.cell (i := 2) rfl
  have r2 := y.cell (i := 2) rfl
  have q3 := x.cell (i := 3) rfl
  have r3 := y.cell (i := 3) rfl
  have q4 := x.cell (i := 4) rfl
  have r4 := y.cell (i := 4) rfl
  go_wp2_with fail
  refine (H1 w1 hb).mono ?_
  rintro e w2 ⟨rfl, hb2⟩
  clear q0 r0 q1 r1 q2 r2 q3 r3 q4 r4
  replace x := x.below hb2 x.lt
  replace y := y.below hb2 y.lt
  replace hb : Below w.heap.size w w2 := hb.trans (hb2.mono hb.size)
  clear hb2 H1
  have q0 := x.cell (i := 0) rfl
  have r0 := y.cell (i := 0) rfl
  have q1 := x.cell (i := 1) rfl
  have r1 := y.cell (i := 1) rfl
  have q2 := x.cell (i := 2) rfl
  have r2 := y.cell (i := 2) rfl
  have q3 := x.cell (i := 3) rfl
  have r3 := y.cell (i := 3) rfl
  have q4 := x.cell (i := 4) rfl
  have r4 := y.cell (i := 4) rfl
  go_wp2_with fail
  refine (H2 w2 hb).mono ?_
  rintro e w3 ⟨rfl, hb3⟩
  clear q0 r0 q1 r1 q2 r2 q3 r3 q4 r4
  replace x := x.below hb3 x.lt
  replace y := y.below hb3 y.lt
  replace hb : Below w.heap.size w w3 := hb.trans (hb3.mono hb.size)
  clear hb3 H2
  have q0 := x.cell (i := 0) rfl
  have r0 := y.cell (i := 0) rfl
  have q1 := x.cell (i := 1) rfl
  have r1 := y.cell (i := 1) rfl
  have q2 := x.cell (i := 2) rfl
  have r2 := y.cell (i := 2) rfl
  have q3 := x.cell (i := 3) rfl
  have r3 := y.cell (i := 3) rfl
  have q4 := x.cell (i := 4) rfl
  have r4 := y.cell (i := 4) rfl
  go_wp2_with fail
  refine (H4 w3 hb).mono ?_
  rintro e w4 ⟨rfl, hb4⟩
  clear q0 r0 q1 r1 q2 r2 q3 r3 q4 r4
  replace x := x.below hb4 x.lt
  replace y := y.below hb4 y.lt
  replace hb : Below w.heap.size w w4 := hb.trans (hb4.mono hb.size)
  clear hb4 H4
  have q0 := x.cell (i := 0) rfl
  have r0 := y.cell (i := 0) rfl
  have q1 := x.cell (i := 1) rfl
  have r1 := y.cell (i := 1) rfl
  have q2 := x.cell (i := 2) rfl
  have r2 := y.cell (i := 2) rfl
  have q3 := x.cell (i := 3) rfl
  have r3 := y.cell (i := 3) rfl
  have q4 := x.cell (i := 4) rfl
  have r4 := y.cell (i := 4) rfl
  go_wp2_with fail
  go_ret
  exact ⟨rfl, hb⟩

set_option maxHeartbeats 4000000 in
theorem eqRegion0 (p0 : Int) (p1 : Int) (p2 : Int) (a3 b3 : Option Addr) (n3 c3 d3 : Nat) (w : World)
    (H3 : EqV w 65 (.slice a3 n3 c3) (.slice b3 n3 d3)) :
    Calls Try.prog 63 #[.agg #[.int .i64 p0, .int .i64 p1, .int .i64 p2, .slice a3 n3 c3], .agg #[.int .i64 p0, .int .i64 p1, .int .i64 p2, .slice b3 n3 d3]] w fun e w' => e = .returned (.bool true) ∧ Below w.heap.size w w' := by
  obtain ⟨x, y, hb⟩ := two_blks w 50 [.int .i64 p0, .int .i64 p1, .int .i64 p2, .slice a3 n3 c3] [.int .i64 p0, .int .i64 p1, .int .i64 p2, .slice b3 n3 d3]
  have hp0 : (p0 != p0) = false := by simp
  have hp1 : (p1 != p1) = false := by simp
  have hp2 : (p2 != p2) = false := by simp
  go_enter Try.func63, Try.ntmps63
  go_upto_region 1 with fail
  simp only [List.toArray] at x y hb
  generalize (w.alloc (.cells #[.int .i64 p0, .int .i64 p1, .int .i64 p2, .slice a3 n3 c3] 50 (0, 0))).alloc (.cells #[.int .i64 p0, .int .i64 p1, .int .i64 p2, .slice b3 n3 d3] 50 (0, 0)) = w0 at *
  have q0 := x.cell (i := 0) rfl
  have r0 := y.cell (i := 0) rfl
  have q1 := x.cell (i := 1) rfl
  have r1 := y.cell (i := 1) rfl
  have q2 := x.cell (i := 2) rfl
  have r2 := y.cell (i := 2) rfl
  have q3 := x.cell (i := 3) rfl
  have r3 := y.cell (i := 3) rfl
  go_wp2_with fail
  refine (H3 w0 hb).mono ?_
  rintro e w1 ⟨rfl, hb1⟩
  clear q0 r0 q1 r1 q2 r2 q3 r3
  replace x := x.below hb1 x.lt
  replace y := y.below hb1 y.lt
  replace hb : Below w.heap.size w w1 := hb.trans (hb1.mono hb.size)
  clear hb1 H3
  have q0 := x.cell (i := 0) rfl
  have r0 := y.cell (i := 0) rfl
  have q1 := x.cell (i := 1) rfl
  have r1 := y.cell (i := 1) rfl
  have q2 := x.cell (i := 2) rfl
  have r2 := y.cell (i := 2) rfl
  have q3 := x.cell (i := 3) rfl
  have r3 := y.cell (i := 3) rfl
  go_wp2_with fail
  go_ret
  exact ⟨rfl, hb⟩

set_option maxHeartbeats 4000000 in
theorem eqWord0 (t0 : Bool) (p1 : Int) (p2 : Int) (p3 : Int) (p4 : Int) (p5 : Int) (p6 : Int) (w : World)
     :
    Calls Try.prog 64 #[.agg #[.bool t0, .int .i64 p1, .int .i64 p2, .int .i64 p3, .int .i64 p4, .int .i64 p5, .int .i64 p6], .agg #[.bool t0, .int .i64 p1, .int .i64 p2, .int .i64 p3, .int .i64 p4, .int .i64 p5, .int .i64 p6]] w fun e w' => e = .returned (.bool true) ∧ Below w.heap.size w w' := by
  obtain ⟨x, y, hb⟩ := two_blks w 55 [.bool t0, .int .i64 p1, .int .i64 p2, .int .i64 p3, .int .i64 p4, .int .i64 p5, .int .i64 p6] [.bool t0, .int .i64 p1, .int .i64 p2, .int .i64 p3, .int .i64 p4, .int .i64 p5, .int .i64 p6]
  have hp1 : (p1 != p1) = false := by simp
  have hp2 : (p2 != p2) = false := by simp
  have hp3 : (p3 != p3) = false := by simp
  have hp4 : (p4 != p4) = false := by simp
  have hp5 : (p5 != p5) = false := by simp
  have hp6 : (p6 != p6) = false := by simp
  have ht0 : (t0 != t0) = false := by simp
  go_enter Try.func64, Try.ntmps64
  go_upto_region 1 with fail
  simp only [List.toArray] at x y hb
  generalize (w.alloc (.cells #[.bool t0, .int .i64 p1, .int .i64 p2, .int .i64 p3, .int .i64 p4, .int .i64 p5, .int .i64 p6] 55 (0, 0))).alloc (.cells #[.bool t0, .int .i64 p1, .int .i64 p2, .int .i64 p3, .int .i64 p4, .int .i64 p5, .int .i64 p6] 55 (0, 0)) = w0 at *
  have q0 := x.cell (i := 0) rfl
  have r0 := y.cell (i := 0) rfl
  have q1 := x.cell (i := 1) rfl
  have r1 := y.cell (i := 1) rfl
  have q2 := x.cell (i := 2) rfl
  have r2 := y.cell (i := 2) rfl
  have q3 := x.cell (i := 3) rfl
  have r3 := y.cell (i := 3) rfl
  have q4 := x.cell (i := 4) rfl
  have r4 := y.cell (i := 4) rfl
  have q5 := x.cell (i := 5) rfl
  have r5 := y.cell (i := 5) rfl
  have q6 := x.cell (i := 6) rfl
  have r6 := y.cell (i := 6) rfl
  go_wp2_with fail
  go_ret
  exact ⟨rfl, hb⟩

set_option maxHeartbeats 4000000 in
theorem eqImage0 (a0 b0 : Option Addr) (n0 c0 d0 : Nat) (a1 b1 : Option Addr) (n1 c1 d1 : Nat) (p2 : Int) (w : World)
    (H0 : EqV w 29 (.slice a0 n0 c0) (.slice b0 n0 d0)) (H1 : EqV w 30 (.slice a1 n1 c1) (.slice b1 n1 d1)) :
    Calls Try.prog 8 #[.agg #[.slice a0 n0 c0, .slice a1 n1 c1, .int .i64 p2], .agg #[.slice b0 n0 d0, .slice b1 n1 d1, .int .i64 p2]] w fun e w' => e = .returned (.bool true) ∧ Below w.heap.size w w' := by
  obtain ⟨x, y, hb⟩ := two_blks w 27 [.slice a0 n0 c0, .slice a1 n1 c1, .int .i64 p2] [.slice b0 n0 d0, .slice b1 n1 d1, .int .i64 p2]
  have hp2 : (p2 != p2) = false := by simp
  go_enter Try.func8, Try.ntmps8
  go_upto_region 1 with fail
  simp only [List.toArray] at x y hb
  generalize (w.alloc (.cells #[.slice a0 n0 c0, .slice a1 n1 c1, .int .i64 p2] 27 (0, 0))).alloc (.cells #[.slice b0 n0 d0, .slice b1 n1 d1, .int .i64 p2] 27 (0, 0)) = w0 at *
  have q0 := x.cell (i := 0) rfl
  have r0 := y.cell (i := 0) rfl
  have q1 := x.cell (i := 1) rfl
  have r1 := y.cell (i := 1) rfl
  have q2 := x.cell (i := 2) rfl
  have r2 := y.cell (i := 2) rfl
  go_wp2_with fail
  refine (H0 w0 hb).mono ?_
  rintro e w1 ⟨rfl, hb1⟩
  clear q0 r0 q1 r1 q2 r2
  replace x := x.below hb1 x.lt
  replace y := y.below hb1 y.lt
  replace hb : Below w.heap.size w w1 := hb.trans (hb1.mono hb.size)
  clear hb1 H0
  have q0 := x.cell (i := 0) rfl
  have r0 := y.cell (i := 0) rfl
  have q1 := x.cell (i := 1) rfl
  have r1 := y.cell (i := 1) rfl
  have q2 := x.cell (i := 2) rfl
  have r2 := y.cell (i := 2) rfl
  go_wp2_with fail
  refine (H1 w1 hb).mono ?_
  rintro e w2 ⟨rfl, hb2⟩
  clear q0 r0 q1 r1 q2 r2
  replace x := x.below hb2 x.lt
  replace y := y.below hb2 y.lt
  replace hb : Below w.heap.size w w2 := hb.trans (hb2.mono hb.size)
  clear hb2 H1
  have q0 := x.cell (i := 0) rfl
  have r0 := y.cell (i := 0) rfl
  have q1 := x.cell (i := 1) rfl
  have r1 := y.cell (i := 1) rfl
  have q2 := x.cell (i := 2) rfl
  have r2 := y.cell (i := 2) rfl
  go_wp2_with fail
  go_ret
  exact ⟨rfl, hb⟩

set_option maxHeartbeats 8000000 in
theorem eqExportSF (l : List Xp) (H : ∀ x ∈ l, EqR 83 (Xp.fl x)) : EqF 66 (.l 3 (l.map Xp.fl)) := by
  intro w0 v u hv hu w hb0
  obtain ⟨a, c, rfl, hl1⟩ := (hv.below hb0).list
  obtain ⟨a2, c2, rfl, hl2⟩ := (hu.below hb0).list
  clear hv hu hb0
  have hm : (l.map Xp.fl).length = l.length := by simp [exs_map, sts_map, txts]
  have hat : ∀ j, j < l.length → ∃ x ∈ l, (l.map Xp.fl)[j]? = some (Xp.fl x) := by
    intro j hj
    exact ⟨l[j], List.getElem_mem hj, by simp [exs_map, sts_map, txts, hj]⟩
  generalize hrs : l.map Xp.fl = rs at hl1 hl2 hm hat ⊢
  clear hrs
  rw [← hm] at hat
  generalize hn : rs.length = n at hl1 hl2 hat ⊢
  clear hm
  have hcn : n ≤ 9223372036854775807 := by have h1 := hl1.cap; have h2 := hl1.most; unfold maxLen at h2; omega
  rcases Nat.eq_zero_or_pos n with h0 | hpos
  · subst h0
    clear hl1 hl2 hat H hn
    go_enter Try.func66, Try.ntmps66
    go_wp2_with fail
    refine wp_loop_rounds 1 ?_
    rw [rounds_succ]
    go_wp2_with fail
    go_ret
    exact ⟨rfl, Below.refl _ _⟩
  · obtain ⟨k1, o1, rfl⟩ := hl1.addr (by rw [hn]; exact hpos)
    obtain ⟨k2, o2, rfl⟩ := hl2.addr (by rw [hn]; exact hpos)
    have HL1 : Hid (LRow w (some ⟨k1, o1, none⟩) c 3 rs) := hl1
    have HL2 : Hid (LRow w (some ⟨k2, o2, none⟩) c2 3 rs) := hl2
    have HA : Hid (∀ j, j < n → ∃ x ∈ l, rs[j]? = some (Xp.fl x)) := hat
    have HH : Hid (∀ x ∈ l, EqR 83 (Xp.fl x)) := H
    clear hl1 hl2 hat H hn
    go_enter Try.func66, Try.ntmps66
    go_wp2_with fail
    go_loopw [5] (fun i wr => ∃ j : Nat, j ≤ n ∧ i = .int .i64 j ∧ Below w.heap.size w wr) (fun i _ => n - (intOf i).toNat)
    case atStart => exact ⟨0, Nat.zero_le _, rfl, Below.refl _ _⟩
    case round =>
      obtain ⟨j, hj, rfl, hbr⟩ := hrel
      by_cases hlt : j < n
      · obtain ⟨x, hx, hxj⟩ := HA.out j hlt
        obtain ⟨vs, hvs, hcl⟩ := ((show LRow w (some ⟨k1, o1, none⟩) c 3 rs from HL1.out).below hbr |>.el hxj).vals
        obtain ⟨us, hus, hcl2⟩ := ((show LRow w (some ⟨k2, o2, none⟩) c2 3 rs from HL2.out).below hbr |>.el hxj).vals
        skip
        skip
        have HC := HH.out x hx wr vs us hvs hus wr.drew ((Below.refl _ wr).drew)
        clear hxj
        obtain ⟨x0, x1, x2⟩ := x
        obtain ⟨ya0, _, rfl, ⟨a0, c0, rfl, da0⟩, ya1, _, rfl, rfl, ya2, _, rfl, rfl, rfl⟩ := hvs
        obtain ⟨yb0, _, rfl, ⟨b0, d0, rfl, db0⟩, yb1, _, rfl, rfl, yb2, _, rfl, rfl, rfl⟩ := hus
        skip
        have p0 : wr.cell? ⟨k1, o1 + j * 3, none⟩ = some (.slice a0 x0.length c0) := by exact hcl 0 _ rfl
        have q0 : wr.cell? ⟨k2, o2 + j * 3, none⟩ = some (.slice b0 x0.length d0) := by exact hcl2 0 _ rfl
        have p1 : wr.cell? ⟨k1, o1 + j * 3 + 1, none⟩ = some (.int .i64 x1) := by exact hcl 1 _ rfl
        have q1 : wr.cell? ⟨k2, o2 + j * 3 + 1, none⟩ = some (.int .i64 x1) := by exact hcl2 1 _ rfl
        have p2 : wr.cell? ⟨k1, o1 + j * 3 + 2, none⟩ = some (.int .i64 x2) := by exact hcl 2 _ rfl
        have q2 : wr.cell? ⟨k2, o2 + j * 3 + 2, none⟩ = some (.int .i64 x2) := by exact hcl2 2 _ rfl
        clear hcl hcl2 hx da0 db0
        have HS0 : (wr.drew.cell? ⟨k1, o1 + j * 3, none⟩ = some (.slice a0 x0.length c0) ∧ wr.drew.cell? ⟨k1, o1 + j * 3 + 1, none⟩ = some (.int .i64 x1) ∧ wr.drew.cell? ⟨k1, o1 + j * 3 + 2, none⟩ = some (.int .i64 x2) ∧ wr.drew.cell? ⟨k2, o2 + j * 3, none⟩ = some (.slice b0 x0.length d0) ∧ wr.drew.cell? ⟨k2, o2 + j * 3 + 1, none⟩ = some (.int .i64 x1) ∧ wr.drew.cell? ⟨k2, o2 + j * 3 + 2, none⟩ = some (.int .i64 x2)) := ⟨p0, p1, p2, q0, q1, q2⟩
        have hbs : ∀ {wl : World}, Below wr.drew.heap.size wr.drew wl → (wl.cell? ⟨k1, o1 + j * 3, none⟩ = some (.slice a0 x0.length c0) ∧ wl.cell? ⟨k1, o1 + j * 3 + 1, none⟩ = some (.int .i64 x1) ∧ wl.cell? ⟨k1, o1 + j * 3 + 2, none⟩ = some (.int .i64 x2) ∧ wl.cell? ⟨k2, o2 + j * 3, none⟩ = some (.slice b0 x0.length d0) ∧ wl.cell? ⟨k2, o2 + j * 3 + 1, none⟩ = some (.int .i64 x1) ∧ wl.cell? ⟨k2, o2 + j * 3 + 2, none⟩ = some (.int .i64 x2)) := by
          intro wl hb
          have e1 : ∀ j, wl.cell? ⟨k1, j, none⟩ = wr.drew.cell? ⟨k1, j, none⟩ := fun j => hb.cell (show k1 < wr.heap.size from World.block_lt_of_cell? wr _ p0)
          have e2 : ∀ j, wl.cell? ⟨k2, j, none⟩ = wr.drew.cell? ⟨k2, j, none⟩ := fun j => hb.cell (show k2 < wr.heap.size from World.block_lt_of_cell? wr _ q0)
          simp only [e1, e2]
          exact HS0
        go_wp2_with fail
        go_region_held3 (fun wx => (wx.cell? ⟨k1, o1 + j * 3, none⟩ = some (.slice a0 x0.length c0) ∧ wx.cell? ⟨k1, o1 + j * 3 + 1, none⟩ = some (.int .i64 x1) ∧ wx.cell? ⟨k1, o1 + j * 3 + 2, none⟩ = some (.int .i64 x2) ∧ wx.cell? ⟨k2, o2 + j * 3, none⟩ = some (.slice b0 x0.length d0) ∧ wx.cell? ⟨k2, o2 + j * 3 + 1, none⟩ = some (.int .i64 x1) ∧ wx.cell? ⟨k2, o2 + j * 3 + 2, none⟩ = some (.int .i64 x2))) (first | exact HS0 | exact HSl) (first
          | (go_at_call 83; (with_reducible refine HC.mono ?_); rintro e wl ⟨rfl, hbl⟩; have HSl := hbs hbl))
        have hbw : Below w.heap.size w wl := hbr.drew.trans (hbl.mono hbr.size)
        clear HS0 hbs HC p0 q0 p1 q1 p2 q2
        go_wp2_with fail
        go_roundw
        case rel => exact ⟨j + 1, by omega, by go_num, hbw⟩
        case measure => simp [intOf]; omega
      · go_wp2_with fail
        go_ret
        exact ⟨rfl, hbr⟩

set_option maxHeartbeats 8000000 in
theorem eqImportSF (l : List Ip) (H : ∀ x ∈ l, EqR 84 (Ip.fl x)) : EqF 67 (.l 3 (l.map Ip.fl)) := by
  intro w0 v u hv hu w hb0
  obtain ⟨a, c, rfl, hl1⟩ := (hv.below hb0).list
  obtain ⟨a2, c2, rfl, hl2⟩ := (hu.below hb0).list
  clear hv hu hb0
  have hm : (l.map Ip.fl).length = l.length := by simp [exs_map, sts_map, txts]
  have hat : ∀ j, j < l.length → ∃ x ∈ l, (l.map Ip.fl)[j]? = some (Ip.fl x) := by
    intro j hj
    exact ⟨l[j], List.getElem_mem hj, by simp [exs_map, sts_map, txts, hj]⟩
  generalize hrs : l.map Ip.fl = rs at hl1 hl2 hm hat ⊢
  clear hrs
  rw [← hm] at hat
  generalize hn : rs.length = n at hl1 hl2 hat ⊢
  clear hm
  have hcn : n ≤ 9223372036854775807 := by have h1 := hl1.cap; have h2 := hl1.most; unfold maxLen at h2; omega
  rcases Nat.eq_zero_or_pos n with h0 | hpos
  · subst h0
    clear hl1 hl2 hat H hn
    go_enter Try.func67, Try.ntmps67
    go_wp2_with fail
    refine wp_loop_rounds 1 ?_
    rw [rounds_succ]
    go_wp2_with fail
    go_ret
    exact ⟨rfl, Below.refl _ _⟩
  · obtain ⟨k1, o1, rfl⟩ := hl1.addr (by rw [hn]; exact hpos)
    obtain ⟨k2, o2, rfl⟩ := hl2.addr (by rw [hn]; exact hpos)
    have HL1 : Hid (LRow w (some ⟨k1, o1, none⟩) c 3 rs) := hl1
    have HL2 : Hid (LRow w (some ⟨k2, o2, none⟩) c2 3 rs) := hl2
    have HA : Hid (∀ j, j < n → ∃ x ∈ l, rs[j]? = some (Ip.fl x)) := hat
    have HH : Hid (∀ x ∈ l, EqR 84 (Ip.fl x)) := H
    clear hl1 hl2 hat H hn
    go_enter Try.func67, Try.ntmps67
    go_wp2_with fail
    go_loopw [5] (fun i wr => ∃ j : Nat, j ≤ n ∧ i = .int .i64 j ∧ Below w.heap.size w wr) (fun i _ => n - (intOf i).toNat)
    case atStart => exact ⟨0, Nat.zero_le _, rfl, Below.refl _ _⟩
    case round =>
      obtain ⟨j, hj, rfl, hbr⟩ := hrel
      by_cases hlt : j < n
      · obtain ⟨x, hx, hxj⟩ := HA.out j hlt
        obtain ⟨vs, hvs, hcl⟩ := ((show LRow w (some ⟨k1, o1, none⟩) c 3 rs from HL1.out).below hbr |>.el hxj).vals
        obtain ⟨us, hus, hcl2⟩ := ((show LRow w (some ⟨k2, o2, none⟩) c2 3 rs from HL2.out).below hbr |>.el hxj).vals
        skip
        skip
        have HC := HH.out x hx wr vs us hvs hus wr.drew ((Below.refl _ wr).drew)
        clear hxj
        obtain ⟨x0, x1, x2⟩ := x
        obtain ⟨ya0, _, rfl, ⟨a0, c0, rfl, da0⟩, ya1, _, rfl, ⟨a1, c1, rfl, da1⟩, ya2, _, rfl, rfl, rfl⟩ := hvs
        obtain ⟨yb0, _, rfl, ⟨b0, d0, rfl, db0⟩, yb1, _, rfl, ⟨b1, d1, rfl, db1⟩, yb2, _, rfl, rfl, rfl⟩ := hus
        skip
        have p0 : wr.cell? ⟨k1, o1 + j * 3, none⟩ = some (.slice a0 x0.length c0) := by exact hcl 0 _ rfl
        have q0 : wr.cell? ⟨k2, o2 + j * 3, none⟩ = some (.slice b0 x0.length d0) := by exact hcl2 0 _ rfl
        have p1 : wr.cell? ⟨k1, o1 + j * 3 + 1, none⟩ = some (.slice a1 x1.length c1) := by exact hcl 1 _ rfl
        have q1 : wr.cell? ⟨k2, o2 + j * 3 + 1, none⟩ = some (.slice b1 x1.length d1) := by exact hcl2 1 _ rfl
        have p2 : wr.cell? ⟨k1, o1 + j * 3 + 2, none⟩ = some (.int .i64 x2) := by exact hcl 2 _ rfl
        have q2 : wr.cell? ⟨k2, o2 + j * 3 + 2, none⟩ = some (.int .i64 x2) := by exact hcl2 2 _ rfl
        clear hcl hcl2 hx da0 db0 da1 db1
        have HS0 : (wr.drew.cell? ⟨k1, o1 + j * 3, none⟩ = some (.slice a0 x0.length c0) ∧ wr.drew.cell? ⟨k1, o1 + j * 3 + 1, none⟩ = some (.slice a1 x1.length c1) ∧ wr.drew.cell? ⟨k1, o1 + j * 3 + 2, none⟩ = some (.int .i64 x2) ∧ wr.drew.cell? ⟨k2, o2 + j * 3, none⟩ = some (.slice b0 x0.length d0) ∧ wr.drew.cell? ⟨k2, o2 + j * 3 + 1, none⟩ = some (.slice b1 x1.length d1) ∧ wr.drew.cell? ⟨k2, o2 + j * 3 + 2, none⟩ = some (.int .i64 x2)) := ⟨p0, p1, p2, q0, q1, q2⟩
        have hbs : ∀ {wl : World}, Below wr.drew.heap.size wr.drew wl → (wl.cell? ⟨k1, o1 + j * 3, none⟩ = some (.slice a0 x0.length c0) ∧ wl.cell? ⟨k1, o1 + j * 3 + 1, none⟩ = some (.slice a1 x1.length c1) ∧ wl.cell? ⟨k1, o1 + j * 3 + 2, none⟩ = some (.int .i64 x2) ∧ wl.cell? ⟨k2, o2 + j * 3, none⟩ = some (.slice b0 x0.length d0) ∧ wl.cell? ⟨k2, o2 + j * 3 + 1, none⟩ = some (.slice b1 x1.length d1) ∧ wl.cell? ⟨k2, o2 + j * 3 + 2, none⟩ = some (.int .i64 x2)) := by
          intro wl hb
          have e1 : ∀ j, wl.cell? ⟨k1, j, none⟩ = wr.drew.cell? ⟨k1, j, none⟩ := fun j => hb.cell (show k1 < wr.heap.size from World.block_lt_of_cell? wr _ p0)
          have e2 : ∀ j, wl.cell? ⟨k2, j, none⟩ = wr.drew.cell? ⟨k2, j, none⟩ := fun j => hb.cell (show k2 < wr.heap.size from World.block_lt_of_cell? wr _ q0)
          simp only [e1, e2]
          exact HS0
        go_wp2_with fail
        go_region_held3 (fun wx => (wx.cell? ⟨k1, o1 + j * 3, none⟩ = some (.slice a0 x0.length c0) ∧ wx.cell? ⟨k1, o1 + j * 3 + 1, none⟩ = some (.slice a1 x1.length c1) ∧ wx.cell? ⟨k1, o1 + j * 3 + 2, none⟩ = some (.int .i64 x2) ∧ wx.cell? ⟨k2, o2 + j * 3, none⟩ = some (.slice b0 x0.length d0) ∧ wx.cell? ⟨k2, o2 + j * 3 + 1, none⟩ = some (.slice b1 x1.length d1) ∧ wx.cell? ⟨k2, o2 + j * 3 + 2, none⟩ = some (.int .i64 x2))) (first | exact HS0 | exact HSl) (first
          | (go_at_call 84; (with_reducible refine HC.mono ?_); rintro e wl ⟨rfl, hbl⟩; have HSl := hbs hbl))
        have hbw : Below w.heap.size w wl := hbr.drew.trans (hbl.mono hbr.size)
        clear HS0 hbs HC p0 q0 p1 q1 p2 q2
        go_wp2_with fail
        go_roundw
        case rel => exact ⟨j + 1, by omega, by go_num, hbw⟩
        case measure => simp [intOf]; omega
      · go_wp2_with fail
        go_ret
        exact ⟨rfl, hbr⟩

set_option maxHeartbeats 8000000 in
theorem eqObjectSF (l : List Oj) (H : ∀ x ∈ l, EqR 31 (Oj.fl x)) : EqF 9 (.l 5 (l.map Oj.fl)) := by
  intro w0 v u hv hu w hb0
  obtain ⟨a, c, rfl, hl1⟩ := (hv.below hb0).list
  obtain ⟨a2, c2, rfl, hl2⟩ := (hu.below hb0).list
  clear hv hu hb0
  have hm : (l.map Oj.fl).length = l.length := by simp [exs_map, sts_map, txts]
  have hat : ∀ j, j < l.length → ∃ x ∈ l, (l.map Oj.fl)[j]? = some (Oj.fl x) := by
    intro j hj
    exact ⟨l[j], List.getElem_mem hj, by simp [exs_map, sts_map, txts, hj]⟩
  generalize hrs : l.map Oj.fl = rs at hl1 hl2 hm hat ⊢
  clear hrs
  rw [← hm] at hat
  generalize hn : rs.length = n at hl1 hl2 hat ⊢
  clear hm
  have hcn : n ≤ 9223372036854775807 := by have h1 := hl1.cap; have h2 := hl1.most; unfold maxLen at h2; omega
  rcases Nat.eq_zero_or_pos n with h0 | hpos
  · subst h0
    clear hl1 hl2 hat H hn
    go_enter Try.func9, Try.ntmps9
    go_wp2_with fail
    refine wp_loop_rounds 1 ?_
    rw [rounds_succ]
    go_wp2_with fail
    go_ret
    exact ⟨rfl, Below.refl _ _⟩
  · obtain ⟨k1, o1, rfl⟩ := hl1.addr (by rw [hn]; exact hpos)
    obtain ⟨k2, o2, rfl⟩ := hl2.addr (by rw [hn]; exact hpos)
    have HL1 : Hid (LRow w (some ⟨k1, o1, none⟩) c 5 rs) := hl1
    have HL2 : Hid (LRow w (some ⟨k2, o2, none⟩) c2 5 rs) := hl2
    have HA : Hid (∀ j, j < n → ∃ x ∈ l, rs[j]? = some (Oj.fl x)) := hat
    have HH : Hid (∀ x ∈ l, EqR 31 (Oj.fl x)) := H
    clear hl1 hl2 hat H hn
    go_enter Try.func9, Try.ntmps9
    go_wp2_with fail
    go_loopw [5] (fun i wr => ∃ j : Nat, j ≤ n ∧ i = .int .i64 j ∧ Below w.heap.size w wr) (fun i _ => n - (intOf i).toNat)
    case atStart => exact ⟨0, Nat.zero_le _, rfl, Below.refl _ _⟩
    case round =>
      obtain ⟨j, hj, rfl, hbr⟩ := hrel
      by_cases hlt : j < n
      · obtain ⟨x, hx, hxj⟩ := HA.out j hlt
        obtain ⟨vs, hvs, hcl⟩ := ((show LRow w (some ⟨k1, o1, none⟩) c 5 rs from HL1.out).below hbr |>.el hxj).vals
        obtain ⟨us, hus, hcl2⟩ := ((show LRow w (some ⟨k2, o2, none⟩) c2 5 rs from HL2.out).below hbr |>.el hxj).vals
        skip
        skip
        have HC := HH.out x hx wr vs us hvs hus wr.drew ((Below.refl _ wr).drew)
        clear hxj
        obtain ⟨x0, x1, x2, x3, x4⟩ := x
        obtain ⟨ya0, _, rfl, ⟨a0, c0, rfl, da0⟩, ya1, _, rfl, ⟨a1, c1, rfl, da1⟩, ya2, _, rfl, ⟨a2, c2, rfl, da2⟩, ya3, _, rfl, rfl, ya4, _, rfl, ⟨a4, c4, rfl, da4⟩, rfl⟩ := hvs
        obtain ⟨yb0, _, rfl, ⟨b0, d0, rfl, db0⟩, yb1, _, rfl, ⟨b1, d1, rfl, db1⟩, yb2, _, rfl, ⟨b2, d2, rfl, db2⟩, yb3, _, rfl, rfl, yb4, _, rfl, ⟨b4, d4, rfl, db4⟩, rfl⟩ := hus
        generalize (List.map Xp.fl x1).length = m1 at HC hcl hcl2; generalize (List.map Ip.fl x2).length = m2 at HC hcl hcl2
        have p0 : wr.cell? ⟨k1, o1 + j * 5, none⟩ = some (.slice a0 x0.length c0) := by exact hcl 0 _ rfl
        have q0 : wr.cell? ⟨k2, o2 + j * 5, none⟩ = some (.slice b0 x0.length d0) := by exact hcl2 0 _ rfl
        have p1 : wr.cell? ⟨k1, o1 + j * 5 + 1, none⟩ = some (.slice a1 m1 c1) := by exact hcl 1 _ rfl
        have q1 : wr.cell? ⟨k2, o2 + j * 5 + 1, none⟩ = some (.slice b1 m1 d1) := by exact hcl2 1 _ rfl
        have p2 : wr.cell? ⟨k1, o1 + j * 5 + 2, none⟩ = some (.slice a2 m2 c2) := by exact hcl 2 _ rfl
        have q2 : wr.cell? ⟨k2, o2 + j * 5 + 2, none⟩ = some (.slice b2 m2 d2) := by exact hcl2 2 _ rfl
        have p3 : wr.cell? ⟨k1, o1 + j * 5 + 3, none⟩ = some (.int .i64 x3) := by exact hcl 3 _ rfl
        have q3 : wr.cell? ⟨k2, o2 + j * 5 + 3, none⟩ = some (.int .i64 x3) := by exact hcl2 3 _ rfl
        have p4 : wr.cell? ⟨k1, o1 + j * 5 + 4, none⟩ = some (.slice a4 x4.length c4) := by exact hcl 4 _ rfl
        have q4 : wr.cell? ⟨k2, o2 + j * 5 + 4, none⟩ = some (.slice b4 x4.length d4) := by exact hcl2 4 _ rfl
        clear hcl hcl2 hx da0 db0 da1 db1 da2 db2 da4 db4
        have HS0 : (wr.drew.cell? ⟨k1, o1 + j * 5, none⟩ = some (.slice a0 x0.length c0) ∧ wr.drew.cell? ⟨k1, o1 + j * 5 + 1, none⟩ = some (.slice a1 m1 c1) ∧ wr.drew.cell? ⟨k1, o1 + j * 5 + 2, none⟩ = some (.slice a2 m2 c2) ∧ wr.drew.cell? ⟨k1, o1 + j * 5 + 3, none⟩ = some (.int .i64 x3) ∧ wr.drew.cell? ⟨k1, o1 + j * 5 + 4, none⟩ = some (.slice a4 x4.length c4) ∧ wr.drew.cell? ⟨k2, o2 + j * 5, none⟩ = some (.slice b0 x0.length d0) ∧ wr.drew.cell? ⟨k2, o2 + j * 5 + 1, none⟩ = some (.slice b1 m1 d1) ∧ wr.drew.cell? ⟨k2, o2 + j * 5 + 2, none⟩ = some (.slice b2 m2 d2) ∧ wr.drew.cell? ⟨k2, o2 + j * 5 + 3, none⟩ = some (.int .i64 x3) ∧ wr.drew.cell? ⟨k2, o2 + j * 5 + 4, none⟩ = some (.slice b4 x4.length d4)) := ⟨p0, p1, p2, p3, p4, q0, q1, q2, q3, q4⟩
        have hbs : ∀ {wl : World}, Below wr.drew.heap.size wr.drew wl → (wl.cell? ⟨k1, o1 + j * 5, none⟩ = some (.slice a0 x0.length c0) ∧ wl.cell? ⟨k1, o1 + j * 5 + 1, none⟩ = some (.slice a1 m1 c1) ∧ wl.cell? ⟨k1, o1 + j * 5 + 2, none⟩ = some (.slice a2 m2 c2) ∧ wl.cell? ⟨k1, o1 + j * 5 + 3, none⟩ = some (.int .i64 x3) ∧ wl.cell? ⟨k1, o1 + j * 5 + 4, none⟩ = some (.slice a4 x4.length c4) ∧ wl.cell? ⟨k2, o2 + j * 5, none⟩ = some (.slice b0 x0.length d0) ∧ wl.cell? ⟨k2, o2 + j * 5 + 1, none⟩ = some (.slice b1 m1 d1) ∧ wl.cell? ⟨k2, o2 + j * 5 + 2, none⟩ = some (.slice b2 m2 d2) ∧ wl.cell? ⟨k2, o2 + j * 5 + 3, none⟩ = some (.int .i64 x3) ∧ wl.cell? ⟨k2, o2 + j * 5 + 4, none⟩ = some (.slice b4 x4.length d4)) := by
          intro wl hb
          have e1 : ∀ j, wl.cell? ⟨k1, j, none⟩ = wr.drew.cell? ⟨k1, j, none⟩ := fun j => hb.cell (show k1 < wr.heap.size from World.block_lt_of_cell? wr _ p0)
          have e2 : ∀ j, wl.cell? ⟨k2, j, none⟩ = wr.drew.cell? ⟨k2, j, none⟩ := fun j => hb.cell (show k2 < wr.heap.size from World.block_lt_of_cell? wr _ q0)
          simp only [e1, e2]
          exact HS0
        go_wp2_with fail
        go_region_held3 (fun wx => (wx.cell? ⟨k1, o1 + j * 5, none⟩ = some (.slice a0 x0.length c0) ∧ wx.cell? ⟨k1, o1 + j * 5 + 1, none⟩ = some (.slice a1 m1 c1) ∧ wx.cell? ⟨k1, o1 + j * 5 + 2, none⟩ = some (.slice a2 m2 c2) ∧ wx.cell? ⟨k1, o1 + j * 5 + 3, none⟩ = some (.int .i64 x3) ∧ wx.cell? ⟨k1, o1 + j * 5 + 4, none⟩ = some (.slice a4 x4.length c4) ∧ wx.cell? ⟨k2, o2 + j * 5, none⟩ = some (.slice b0 x0.length d0) ∧ wx.cell? ⟨k2, o2 + j * 5 + 1, none⟩ = some (.slice b1 m1 d1) ∧ wx.cell? ⟨k2, o2 + j * 5 + 2, none⟩ = some (.slice b2 m2 d2) ∧ wx.cell? ⟨k2, o2 + j * 5 + 3, none⟩ = some (.int .i64 x3) ∧ wx.cell? ⟨k2, o2 + j * 5 + 4, none⟩ = some (.slice b4 x4.length d4))) (first | exact HS0 | exact HSl) (first
          | (go_at_call 31; (with_reducible refine HC.mono ?_); rintro e wl ⟨rfl, hbl⟩; have HSl := hbs hbl))
        have hbw : Below w.heap.size w wl := hbr.drew.trans (hbl.mono hbr.size)
        clear HS0 hbs HC p0 q0 p1 q1 p2 q2 p3 q3 p4 q4
        go_wp2_with fail
        go_roundw
        case rel => exact ⟨j + 1, by omega, by go_num, hbw⟩
        case measure => simp [intOf]; omega
      · go_wp2_with fail
        go_ret
        exact ⟨rfl, hbr⟩

set_option maxHeartbeats 8000000 in
theorem eqRegionSF (l : List Rg) (H : ∀ x ∈ l, EqR 63 (Rg.fl x)) : EqF 29 (.l 4 (l.map Rg.fl)) := by
  intro w0 v u hv hu w hb0
  obtain ⟨a, c, rfl, hl1⟩ := (hv.below hb0).list
  obtain ⟨a2, c2, rfl, hl2⟩ := (hu.below hb0).list
  clear hv hu hb0
  have hm : (l.map Rg.fl).length = l.length := by simp [exs_map, sts_map, txts]
  have hat : ∀ j, j < l.length → ∃ x ∈ l, (l.map Rg.fl)[j]? = some (Rg.fl x) := by
    intro j hj
    exact ⟨l[j], List.getElem_mem hj, by simp [exs_map, sts_map, txts, hj]⟩
  generalize hrs : l.map Rg.fl = rs at hl1 hl2 hm hat ⊢
  clear hrs
  rw [← hm] at hat
  generalize hn : rs.length = n at hl1 hl2 hat ⊢
  clear hm
  have hcn : n ≤ 9223372036854775807 := by have h1 := hl1.cap; have h2 := hl1.most; unfold maxLen at h2; omega
  rcases Nat.eq_zero_or_pos n with h0 | hpos
  · subst h0
    clear hl1 hl2 hat H hn
    go_enter Try.func29, Try.ntmps29
    go_wp2_with fail
    refine wp_loop_rounds 1 ?_
    rw [rounds_succ]
    go_wp2_with fail
    go_ret
    exact ⟨rfl, Below.refl _ _⟩
  · obtain ⟨k1, o1, rfl⟩ := hl1.addr (by rw [hn]; exact hpos)
    obtain ⟨k2, o2, rfl⟩ := hl2.addr (by rw [hn]; exact hpos)
    have HL1 : Hid (LRow w (some ⟨k1, o1, none⟩) c 4 rs) := hl1
    have HL2 : Hid (LRow w (some ⟨k2, o2, none⟩) c2 4 rs) := hl2
    have HA : Hid (∀ j, j < n → ∃ x ∈ l, rs[j]? = some (Rg.fl x)) := hat
    have HH : Hid (∀ x ∈ l, EqR 63 (Rg.fl x)) := H
    clear hl1 hl2 hat H hn
    go_enter Try.func29, Try.ntmps29
    go_wp2_with fail
    go_loopw [5] (fun i wr => ∃ j : Nat, j ≤ n ∧ i = .int .i64 j ∧ Below w.heap.size w wr) (fun i _ => n - (intOf i).toNat)
    case atStart => exact ⟨0, Nat.zero_le _, rfl, Below.refl _ _⟩
    case round =>
      obtain ⟨j, hj, rfl, hbr⟩ := hrel
      by_cases hlt : j < n
      · obtain ⟨x, hx, hxj⟩ := HA.out j hlt
        obtain ⟨vs, hvs, hcl⟩ := ((show LRow w (some ⟨k1, o1, none⟩) c 4 rs from HL1.out).below hbr |>.el hxj).vals
        obtain ⟨us, hus, hcl2⟩ := ((show LRow w (some ⟨k2, o2, none⟩) c2 4 rs from HL2.out).below hbr |>.el hxj).vals
        skip
        skip
        have HC := HH.out x hx wr vs us hvs hus wr.drew ((Below.refl _ wr).drew)
        clear hxj
        obtain ⟨x0, x1, x2, x3⟩ := x
        obtain ⟨ya0, _, rfl, rfl, ya1, _, rfl, rfl, ya2, _, rfl, rfl, ya3, _, rfl, ⟨a3, c3, rfl, da3⟩, rfl⟩ := hvs
        obtain ⟨yb0, _, rfl, rfl, yb1, _, rfl, rfl, yb2, _, rfl, rfl, yb3, _, rfl, ⟨b3, d3, rfl, db3⟩, rfl⟩ := hus
        skip
        have p0 : wr.cell? ⟨k1, o1 + j * 4, none⟩ = some (.int .i64 x0) := by exact hcl 0 _ rfl
        have q0 : wr.cell? ⟨k2, o2 + j * 4, none⟩ = some (.int .i64 x0) := by exact hcl2 0 _ rfl
        have p1 : wr.cell? ⟨k1, o1 + j * 4 + 1, none⟩ = some (.int .i64 x1) := by exact hcl 1 _ rfl
        have q1 : wr.cell? ⟨k2, o2 + j * 4 + 1, none⟩ = some (.int .i64 x1) := by exact hcl2 1 _ rfl
        have p2 : wr.cell? ⟨k1, o1 + j * 4 + 2, none⟩ = some (.int .i64 x2) := by exact hcl 2 _ rfl
        have q2 : wr.cell? ⟨k2, o2 + j * 4 + 2, none⟩ = some (.int .i64 x2) := by exact hcl2 2 _ rfl
        have p3 : wr.cell? ⟨k1, o1 + j * 4 + 3, none⟩ = some (.slice a3 x3.length c3) := by exact hcl 3 _ rfl
        have q3 : wr.cell? ⟨k2, o2 + j * 4 + 3, none⟩ = some (.slice b3 x3.length d3) := by exact hcl2 3 _ rfl
        clear hcl hcl2 hx da3 db3
        have HS0 : (wr.drew.cell? ⟨k1, o1 + j * 4, none⟩ = some (.int .i64 x0) ∧ wr.drew.cell? ⟨k1, o1 + j * 4 + 1, none⟩ = some (.int .i64 x1) ∧ wr.drew.cell? ⟨k1, o1 + j * 4 + 2, none⟩ = some (.int .i64 x2) ∧ wr.drew.cell? ⟨k1, o1 + j * 4 + 3, none⟩ = some (.slice a3 x3.length c3) ∧ wr.drew.cell? ⟨k2, o2 + j * 4, none⟩ = some (.int .i64 x0) ∧ wr.drew.cell? ⟨k2, o2 + j * 4 + 1, none⟩ = some (.int .i64 x1) ∧ wr.drew.cell? ⟨k2, o2 + j * 4 + 2, none⟩ = some (.int .i64 x2) ∧ wr.drew.cell? ⟨k2, o2 + j * 4 + 3, none⟩ = some (.slice b3 x3.length d3)) := ⟨p0, p1, p2, p3, q0, q1, q2, q3⟩
        have hbs : ∀ {wl : World}, Below wr.drew.heap.size wr.drew wl → (wl.cell? ⟨k1, o1 + j * 4, none⟩ = some (.int .i64 x0) ∧ wl.cell? ⟨k1, o1 + j * 4 + 1, none⟩ = some (.int .i64 x1) ∧ wl.cell? ⟨k1, o1 + j * 4 + 2, none⟩ = some (.int .i64 x2) ∧ wl.cell? ⟨k1, o1 + j * 4 + 3, none⟩ = some (.slice a3 x3.length c3) ∧ wl.cell? ⟨k2, o2 + j * 4, none⟩ = some (.int .i64 x0) ∧ wl.cell? ⟨k2, o2 + j * 4 + 1, none⟩ = some (.int .i64 x1) ∧ wl.cell? ⟨k2, o2 + j * 4 + 2, none⟩ = some (.int .i64 x2) ∧ wl.cell? ⟨k2, o2 + j * 4 + 3, none⟩ = some (.slice b3 x3.length d3)) := by
          intro wl hb
          have e1 : ∀ j, wl.cell? ⟨k1, j, none⟩ = wr.drew.cell? ⟨k1, j, none⟩ := fun j => hb.cell (show k1 < wr.heap.size from World.block_lt_of_cell? wr _ p0)
          have e2 : ∀ j, wl.cell? ⟨k2, j, none⟩ = wr.drew.cell? ⟨k2, j, none⟩ := fun j => hb.cell (show k2 < wr.heap.size from World.block_lt_of_cell? wr _ q0)
          simp only [e1, e2]
          exact HS0
        go_wp2_with fail
        go_region_held3 (fun wx => (wx.cell? ⟨k1, o1 + j * 4, none⟩ = some (.int .i64 x0) ∧ wx.cell? ⟨k1, o1 + j * 4 + 1, none⟩ = some (.int .i64 x1) ∧ wx.cell? ⟨k1, o1 + j * 4 + 2, none⟩ = some (.int .i64 x2) ∧ wx.cell? ⟨k1, o1 + j * 4 + 3, none⟩ = some (.slice a3 x3.length c3) ∧ wx.cell? ⟨k2, o2 + j * 4, none⟩ = some (.int .i64 x0) ∧ wx.cell? ⟨k2, o2 + j * 4 + 1, none⟩ = some (.int .i64 x1) ∧ wx.cell? ⟨k2, o2 + j * 4 + 2, none⟩ = some (.int .i64 x2) ∧ wx.cell? ⟨k2, o2 + j * 4 + 3, none⟩ = some (.slice b3 x3.length d3))) (first | exact HS0 | exact HSl) (first
          | (go_at_call 63; (with_reducible refine HC.mono ?_); rintro e wl ⟨rfl, hbl⟩; have HSl := hbs hbl))
        have hbw : Below w.heap.size w wl := hbr.drew.trans (hbl.mono hbr.size)
        clear HS0 hbs HC p0 q0 p1 q1 p2 q2 p3 q3
        go_wp2_with fail
        go_roundw
        case rel => exact ⟨j + 1, by omega, by go_num, hbw⟩
        case measure => simp [intOf]; omega
      · go_wp2_with fail
        go_ret
        exact ⟨rfl, hbr⟩

set_option maxHeartbeats 8000000 in
theorem eqWordSF (l : List Wo) (H : ∀ x ∈ l, EqR 64 (Wo.fl x)) : EqF 30 (.l 7 (l.map Wo.fl)) := by
  intro w0 v u hv hu w hb0
  obtain ⟨a, c, rfl, hl1⟩ := (hv.below hb0).list
  obtain ⟨a2, c2, rfl, hl2⟩ := (hu.below hb0).list
  clear hv hu hb0
  have hm : (l.map Wo.fl).length = l.length := by simp [exs_map, sts_map, txts]
  have hat : ∀ j, j < l.length → ∃ x ∈ l, (l.map Wo.fl)[j]? = some (Wo.fl x) := by
    intro j hj
    exact ⟨l[j], List.getElem_mem hj, by simp [exs_map, sts_map, txts, hj]⟩
  generalize hrs : l.map Wo.fl = rs at hl1 hl2 hm hat ⊢
  clear hrs
  rw [← hm] at hat
  generalize hn : rs.length = n at hl1 hl2 hat ⊢
  clear hm
  have hcn : n ≤ 9223372036854775807 := by have h1 := hl1.cap; have h2 := hl1.most; unfold maxLen at h2; omega
  rcases Nat.eq_zero_or_pos n with h0 | hpos
  · subst h0
    clear hl1 hl2 hat H hn
    go_enter Try.func30, Try.ntmps30
    go_wp2_with fail
    refine wp_loop_rounds 1 ?_
    rw [rounds_succ]
    go_wp2_with fail
    go_ret
    exact ⟨rfl, Below.refl _ _⟩
  · obtain ⟨k1, o1, rfl⟩ := hl1.addr (by rw [hn]; exact hpos)
    obtain ⟨k2, o2, rfl⟩ := hl2.addr (by rw [hn]; exact hpos)
    have HL1 : Hid (LRow w (some ⟨k1, o1, none⟩) c 7 rs) := hl1
    have HL2 : Hid (LRow w (some ⟨k2, o2, none⟩) c2 7 rs) := hl2
    have HA : Hid (∀ j, j < n → ∃ x ∈ l, rs[j]? = some (Wo.fl x)) := hat
    have HH : Hid (∀ x ∈ l, EqR 64 (Wo.fl x)) := H
    clear hl1 hl2 hat H hn
    go_enter Try.func30, Try.ntmps30
    go_wp2_with fail
    go_loopw [5] (fun i wr => ∃ j : Nat, j ≤ n ∧ i = .int .i64 j ∧ Below w.heap.size w wr) (fun i _ => n - (intOf i).toNat)
    case atStart => exact ⟨0, Nat.zero_le _, rfl, Below.refl _ _⟩
    case round =>
      obtain ⟨j, hj, rfl, hbr⟩ := hrel
      by_cases hlt : j < n
      · obtain ⟨x, hx, hxj⟩ := HA.out j hlt
        obtain ⟨vs, hvs, hcl⟩ := ((show LRow w (some ⟨k1, o1, none⟩) c 7 rs from HL1.out).below hbr |>.el hxj).vals
        obtain ⟨us, hus, hcl2⟩ := ((show LRow w (some ⟨k2, o2, none⟩) c2 7 rs from HL2.out).below hbr |>.el hxj).vals
        skip
        skip
        have HC := HH.out x hx wr vs us hvs hus wr.drew ((Below.refl _ wr).drew)
        clear hxj
        obtain ⟨x0, x1, x2, x3, x4, x5, x6⟩ := x
        obtain ⟨ya0, _, rfl, rfl, ya1, _, rfl, rfl, ya2, _, rfl, rfl, ya3, _, rfl, rfl, ya4, _, rfl, rfl, ya5, _, rfl, rfl, ya6, _, rfl, rfl, rfl⟩ := hvs
        obtain ⟨yb0, _, rfl, rfl, yb1, _, rfl, rfl, yb2, _, rfl, rfl, yb3, _, rfl, rfl, yb4, _, rfl, rfl, yb5, _, rfl, rfl, yb6, _, rfl, rfl, rfl⟩ := hus
        skip
        have p0 : wr.cell? ⟨k1, o1 + j * 7, none⟩ = some (.bool x0) := by exact hcl 0 _ rfl
        have q0 : wr.cell? ⟨k2, o2 + j * 7, none⟩ = some (.bool x0) := by exact hcl2 0 _ rfl
        have p1 : wr.cell? ⟨k1, o1 + j * 7 + 1, none⟩ = some (.int .i64 x1) := by exact hcl 1 _ rfl
        have q1 : wr.cell? ⟨k2, o2 + j * 7 + 1, none⟩ = some (.int .i64 x1) := by exact hcl2 1 _ rfl
        have p2 : wr.cell? ⟨k1, o1 + j * 7 + 2, none⟩ = some (.int .i64 x2) := by exact hcl 2 _ rfl
        have q2 : wr.cell? ⟨k2, o2 + j * 7 + 2, none⟩ = some (.int .i64 x2) := by exact hcl2 2 _ rfl
        have p3 : wr.cell? ⟨k1, o1 + j * 7 + 3, none⟩ = some (.int .i64 x3) := by exact hcl 3 _ rfl
        have q3 : wr.cell? ⟨k2, o2 + j * 7 + 3, none⟩ = some (.int .i64 x3) := by exact hcl2 3 _ rfl
        have p4 : wr.cell? ⟨k1, o1 + j * 7 + 4, none⟩ = some (.int .i64 x4) := by exact hcl 4 _ rfl
        have q4 : wr.cell? ⟨k2, o2 + j * 7 + 4, none⟩ = some (.int .i64 x4) := by exact hcl2 4 _ rfl
        have p5 : wr.cell? ⟨k1, o1 + j * 7 + 5, none⟩ = some (.int .i64 x5) := by exact hcl 5 _ rfl
        have q5 : wr.cell? ⟨k2, o2 + j * 7 + 5, none⟩ = some (.int .i64 x5) := by exact hcl2 5 _ rfl
        have p6 : wr.cell? ⟨k1, o1 + j * 7 + 6, none⟩ = some (.int .i64 x6) := by exact hcl 6 _ rfl
        have q6 : wr.cell? ⟨k2, o2 + j * 7 + 6, none⟩ = some (.int .i64 x6) := by exact hcl2 6 _ rfl
        clear hcl hcl2 hx 
        have HS0 : (wr.drew.cell? ⟨k1, o1 + j * 7, none⟩ = some (.bool x0) ∧ wr.drew.cell? ⟨k1, o1 + j * 7 + 1, none⟩ = some (.int .i64 x1) ∧ wr.drew.cell? ⟨k1, o1 + j * 7 + 2, none⟩ = some (.int .i64 x2) ∧ wr.drew.cell? ⟨k1, o1 + j * 7 + 3, none⟩ = some (.int .i64 x3) ∧ wr.drew.cell? ⟨k1, o1 + j * 7 + 4, none⟩ = some (.int .i64 x4) ∧ wr.drew.cell? ⟨k1, o1 + j * 7 + 5, none⟩ = some (.int .i64 x5) ∧ wr.drew.cell? ⟨k1, o1 + j * 7 + 6, none⟩ = some (.int .i64 x6) ∧ wr.drew.cell? ⟨k2, o2 + j * 7, none⟩ = some (.bool x0) ∧ wr.drew.cell? ⟨k2, o2 + j * 7 + 1, none⟩ = some (.int .i64 x1) ∧ wr.drew.cell? ⟨k2, o2 + j * 7 + 2, none⟩ = some (.int .i64 x2) ∧ wr.drew.cell? ⟨k2, o2 + j * 7 + 3, none⟩ = some (.int .i64 x3) ∧ wr.drew.cell? ⟨k2, o2 + j * 7 + 4, none⟩ = some (.int .i64 x4) ∧ wr.drew.cell? ⟨k2, o2 + j * 7 + 5, none⟩ = some (.int .i64 x5) ∧ wr.drew.cell? ⟨k2, o2 + j * 7 + 6, none⟩ = some (.int .i64 x6)) := ⟨p0, p1, p2, p3, p4, p5, p6, q0, q1, q2, q3, q4, q5, q6⟩
        have hbs : ∀ {wl : World}, Below wr.drew.heap.size wr.drew wl → (wl.cell? ⟨k1, o1 + j * 7, none⟩ = some (.bool x0) ∧ wl.cell? ⟨k1, o1 + j * 7 + 1, none⟩ = some (.int .i64 x1) ∧ wl.cell? ⟨k1, o1 + j * 7 + 2, none⟩ = some (.int .i64 x2) ∧ wl.cell? ⟨k1, o1 + j * 7 + 3, none⟩ = some (.int .i64 x3) ∧ wl.cell? ⟨k1, o1 + j * 7 + 4, none⟩ = some (.int .i64 x4) ∧ wl.cell? ⟨k1, o1 + j * 7 + 5, none⟩ = some (.int .i64 x5) ∧ wl.cell? ⟨k1, o1 + j * 7 + 6, none⟩ = some (.int .i64 x6) ∧ wl.cell? ⟨k2, o2 + j * 7, none⟩ = some (.bool x0) ∧ wl.cell? ⟨k2, o2 + j * 7 + 1, none⟩ = some (.int .i64 x1) ∧ wl.cell? ⟨k2, o2 + j * 7 + 2, none⟩ = some (.int .i64 x2) ∧ wl.cell? ⟨k2, o2 + j * 7 + 3, none⟩ = some (.int .i64 x3) ∧ wl.cell? ⟨k2, o2 + j * 7 + 4, none⟩ = some (.int .i64 x4) ∧ wl.cell? ⟨k2, o2 + j * 7 + 5, none⟩ = some (.int .i64 x5) ∧ wl.cell? ⟨k2, o2 + j * 7 + 6, none⟩ = some (.int .i64 x6)) := by
          intro wl hb
          have e1 : ∀ j, wl.cell? ⟨k1, j, none⟩ = wr.drew.cell? ⟨k1, j, none⟩ := fun j => hb.cell (show k1 < wr.heap.size from World.block_lt_of_cell? wr _ p0)
          have e2 : ∀ j, wl.cell? ⟨k2, j, none⟩ = wr.drew.cell? ⟨k2, j, none⟩ := fun j => hb.cell (show k2 < wr.heap.size from World.block_lt_of_cell? wr _ q0)
          simp only [e1, e2]
          exact HS0
        go_wp2_with fail
        go_region_held3 (fun wx => (wx.cell? ⟨k1, o1 + j * 7, none⟩ = some (.bool x0) ∧ wx.cell? ⟨k1, o1 + j * 7 + 1, none⟩ = some (.int .i64 x1) ∧ wx.cell? ⟨k1, o1 + j * 7 + 2, none⟩ = some (.int .i64 x2) ∧ wx.cell? ⟨k1, o1 + j * 7 + 3, none⟩ = some (.int .i64 x3) ∧ wx.cell? ⟨k1, o1 + j * 7 + 4, none⟩ = some (.int .i64 x4) ∧ wx.cell? ⟨k1, o1 + j * 7 + 5, none⟩ = some (.int .i64 x5) ∧ wx.cell? ⟨k1, o1 + j * 7 + 6, none⟩ = some (.int .i64 x6) ∧ wx.cell? ⟨k2, o2 + j * 7, none⟩ = some (.bool x0) ∧ wx.cell? ⟨k2, o2 + j * 7 + 1, none⟩ = some (.int .i64 x1) ∧ wx.cell? ⟨k2, o2 + j * 7 + 2, none⟩ = some (.int .i64 x2) ∧ wx.cell? ⟨k2, o2 + j * 7 + 3, none⟩ = some (.int .i64 x3) ∧ wx.cell? ⟨k2, o2 + j * 7 + 4, none⟩ = some (.int .i64 x4) ∧ wx.cell? ⟨k2, o2 + j * 7 + 5, none⟩ = some (.int .i64 x5) ∧ wx.cell? ⟨k2, o2 + j * 7 + 6, none⟩ = some (.int .i64 x6))) (first | exact HS0 | exact HSl) (first
          | (go_at_call 64; (with_reducible refine HC.mono ?_); rintro e wl ⟨rfl, hbl⟩; have HSl := hbs hbl))
        have hbw : Below w.heap.size w wl := hbr.drew.trans (hbl.mono hbr.size)
        clear HS0 hbs HC p0 q0 p1 q1 p2 q2 p3 q3 p4 q4 p5 q5 p6 q6
        go_wp2_with fail
        go_roundw
        case rel => exact ⟨j + 1, by omega, by go_num, hbw⟩
        case measure => simp [intOf]; omega
      · go_wp2_with fail
        go_ret
        exact ⟨rfl, hbr⟩

theorem eqByteF (l : List Int) (hl : l.length ≤ 1048576) : EqF 65 (.b l) := by
  rintro w v u hv hu w1 hb
  obtain ⟨a, c, rfl, hr, _⟩ := hv.below hb
  obtain ⟨a2, c2, rfl, hr2, _⟩ := hu.below hb
  exact eqT _ _ _ l _ _ _ _ hr hr2 (by omega)

theorem EqV.on {w w1 : World} {F : Nat} {v u : Value} (h : EqV w F v u) (hb : Below w.heap.size w w1) : EqV w1 F v u :=
  fun w2 hb2 => h w2 (hb.trans (hb2.mono hb.size))

theorem eqExportR (x0 : List Int) (x1 : Int) (x2 : Int) (S0 : EqF 65 (.b x0)) : EqR 83 (Xp.mk x0 x1 x2).fl := by
  intro w vs us hv hu w1 hb
  unfold Xp.fl at hv hu
  obtain ⟨yh0, _, rfl, h0, yh1, _, rfl, rfl, yh2, _, rfl, rfl, rfl⟩ := hv
  obtain ⟨yk0, _, rfl, k0, yk1, _, rfl, rfl, yk2, _, rfl, rfl, rfl⟩ := hu
  have g0 := (S0 w _ _ h0 k0).on hb
  obtain ⟨a0, c0, rfl, _⟩ := h0
  obtain ⟨b0, d0, rfl, _⟩ := k0
  exact eqExport0 a0 b0 _ c0 d0 x1 x2 w1 g0

theorem eqImportR (x0 : List Int) (x1 : List Int) (x2 : Int) (S0 : EqF 65 (.b x0)) (S1 : EqF 65 (.b x1)) : EqR 84 (Ip.mk x0 x1 x2).fl := by
  intro w vs us hv hu w1 hb
  unfold Ip.fl at hv hu
  obtain ⟨yh0, _, rfl, h0, yh1, _, rfl, h1, yh2, _, rfl, rfl, rfl⟩ := hv
  obtain ⟨yk0, _, rfl, k0, yk1, _, rfl, k1, yk2, _, rfl, rfl, rfl⟩ := hu
  have g0 := (S0 w _ _ h0 k0).on hb
  have g1 := (S1 w _ _ h1 k1).on hb
  obtain ⟨a0, c0, rfl, _⟩ := h0
  obtain ⟨b0, d0, rfl, _⟩ := k0
  obtain ⟨a1, c1, rfl, _⟩ := h1
  obtain ⟨b1, d1, rfl, _⟩ := k1
  exact eqImport0 a0 b0 _ c0 d0 a1 b1 _ c1 d1 x2 w1 g0 g1

theorem eqObjectR (x0 : List Int) (x1 : List Xp) (x2 : List Ip) (x3 : Int) (x4 : List Int) (S0 : EqF 65 (.b x0)) (S1 : EqF 66 (.l 3 (x1.map Xp.fl))) (S2 : EqF 67 (.l 3 (x2.map Ip.fl))) (S4 : EqF 65 (.b x4)) : EqR 31 (Oj.mk x0 x1 x2 x3 x4).fl := by
  intro w vs us hv hu w1 hb
  unfold Oj.fl at hv hu
  obtain ⟨yh0, _, rfl, h0, yh1, _, rfl, h1, yh2, _, rfl, h2, yh3, _, rfl, rfl, yh4, _, rfl, h4, rfl⟩ := hv
  obtain ⟨yk0, _, rfl, k0, yk1, _, rfl, k1, yk2, _, rfl, k2, yk3, _, rfl, rfl, yk4, _, rfl, k4, rfl⟩ := hu
  have g0 := (S0 w _ _ h0 k0).on hb
  have g1 := (S1 w _ _ h1 k1).on hb
  have g2 := (S2 w _ _ h2 k2).on hb
  have g4 := (S4 w _ _ h4 k4).on hb
  obtain ⟨a0, c0, rfl, _⟩ := h0
  obtain ⟨b0, d0, rfl, _⟩ := k0
  obtain ⟨a1, c1, rfl, _⟩ := h1
  obtain ⟨b1, d1, rfl, _⟩ := k1
  obtain ⟨a2, c2, rfl, _⟩ := h2
  obtain ⟨b2, d2, rfl, _⟩ := k2
  obtain ⟨a4, c4, rfl, _⟩ := h4
  obtain ⟨b4, d4, rfl, _⟩ := k4
  exact eqObject0 a0 b0 _ c0 d0 a1 b1 _ c1 d1 a2 b2 _ c2 d2 x3 a4 b4 _ c4 d4 w1 g0 g1 g2 g4

theorem eqRegionR (x0 : Int) (x1 : Int) (x2 : Int) (x3 : List Int) (S3 : EqF 65 (.b x3)) : EqR 63 (Rg.mk x0 x1 x2 x3).fl := by
  intro w vs us hv hu w1 hb
  unfold Rg.fl at hv hu
  obtain ⟨yh0, _, rfl, rfl, yh1, _, rfl, rfl, yh2, _, rfl, rfl, yh3, _, rfl, h3, rfl⟩ := hv
  obtain ⟨yk0, _, rfl, rfl, yk1, _, rfl, rfl, yk2, _, rfl, rfl, yk3, _, rfl, k3, rfl⟩ := hu
  have g3 := (S3 w _ _ h3 k3).on hb
  obtain ⟨a3, c3, rfl, _⟩ := h3
  obtain ⟨b3, d3, rfl, _⟩ := k3
  exact eqRegion0 x0 x1 x2 a3 b3 _ c3 d3 w1 g3

theorem eqWordR (x0 : Bool) (x1 : Int) (x2 : Int) (x3 : Int) (x4 : Int) (x5 : Int) (x6 : Int)  : EqR 64 (Wo.mk x0 x1 x2 x3 x4 x5 x6).fl := by
  intro w vs us hv hu w1 hb
  unfold Wo.fl at hv hu
  obtain ⟨yh0, _, rfl, rfl, yh1, _, rfl, rfl, yh2, _, rfl, rfl, yh3, _, rfl, rfl, yh4, _, rfl, rfl, yh5, _, rfl, rfl, yh6, _, rfl, rfl, rfl⟩ := hv
  obtain ⟨yk0, _, rfl, rfl, yk1, _, rfl, rfl, yk2, _, rfl, rfl, yk3, _, rfl, rfl, yk4, _, rfl, rfl, yk5, _, rfl, rfl, yk6, _, rfl, rfl, rfl⟩ := hu
  exact eqWord0 x0 x1 x2 x3 x4 x5 x6 w1 

theorem eqImageR (x0 : List Rg) (x1 : List Wo) (x2 : Int) (S0 : EqF 29 (.l 4 (x0.map Rg.fl))) (S1 : EqF 30 (.l 7 (x1.map Wo.fl))) : EqR 8 (Ig.mk x0 x1 x2).fl := by
  intro w vs us hv hu w1 hb
  unfold Ig.fl at hv hu
  obtain ⟨yh0, _, rfl, h0, yh1, _, rfl, h1, yh2, _, rfl, rfl, rfl⟩ := hv
  obtain ⟨yk0, _, rfl, k0, yk1, _, rfl, k1, yk2, _, rfl, rfl, rfl⟩ := hu
  have g0 := (S0 w _ _ h0 k0).on hb
  have g1 := (S1 w _ _ h1 k1).on hb
  obtain ⟨a0, c0, rfl, _⟩ := h0
  obtain ⟨b0, d0, rfl, _⟩ := k0
  obtain ⟨a1, c1, rfl, _⟩ := h1
  obtain ⟨b1, d1, rfl, _⟩ := k1
  exact eqImage0 a0 b0 _ c0 d0 a1 b1 _ c1 d1 x2 w1 g0 g1

theorem eqOj (x : Oj) (h : recLen x.fl ≤ 1048576) : EqR 31 x.fl := by
  have e : recLen x.fl = x.name.length + ((x.ex.map Xp.fl).length + rowsLen (x.ex.map Xp.fl)) + ((x.im.map Ip.fl).length + rowsLen (x.im.map Ip.fl)) + x.code.length := by simp [Oj.fl, recLen, Fl.len] <;> omega
  rw [e] at h
  refine eqObjectR x.name x.ex x.im x.data x.code (eqByteF _ (by omega)) (eqExportSF _ fun q hq => ?_) (eqImportSF _ fun q hq => ?_) (eqByteF _ (by omega))
  · have := rec_le (f := Xp.fl) hq
    simp only [Xp.fl, recLen, Fl.len] at this
    exact eqExportR q.name q.print q.pos (eqByteF _ (by omega))
  · have := rec_le (f := Ip.fl) hq
    simp only [Ip.fl, recLen, Fl.len] at this
    exact eqImportR q.mod q.name q.print (eqByteF _ (by omega)) (eqByteF _ (by omega))

theorem eqOjs (l : List Oj) (h : (l.map Oj.fl).length + rowsLen (l.map Oj.fl) ≤ 1048576) : EqF 9 (.l 5 (l.map Oj.fl)) :=
  eqObjectSF l fun x hx => eqOj x (by have := rec_le (f := Oj.fl) hx; omega)


theorem eqIg (x : Ig) (h : ∀ r ∈ x.mods, r.code.length ≤ 1048576) : EqR 8 x.fl :=
  eqImageR x.mods x.words x.start (eqRegionSF x.mods fun r hr => eqRegionR r.lo r.hi r.own r.code (eqByteF _ (h r hr))) (eqWordSF x.words fun u _ => eqWordR u.t u.n u.l u.h u.a u.p u.s)

end Go.Proofs.Ytefciaeajlgheaa

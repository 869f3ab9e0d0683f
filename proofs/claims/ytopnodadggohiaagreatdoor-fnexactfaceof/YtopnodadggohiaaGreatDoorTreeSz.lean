/- Contracts of the laws' own helpers that count how large a module is. By mktreesz.py. -/
import Derived.Test.YtopnodadggohiaaGreatDoorPackL
import Derived.Deep.Cut
import Derived.Deep.CutRange
namespace Go.Proofs.YtopnodadggohiaaGreatDoor
open Go.RowKit
set_option linter.unusedVariables false
set_option linter.unusedSimpArgs false
set_option maxRecDepth 100000

theorem szByteM (a : Option Addr) (n c : Nat) (k : Int) (w : World) (hk : 0 ≤ k) (hk2 : k ≤ 1048576) (hn : n ≤ 9223372036854775807) :
  Calls Tryz.prog 19 #[.slice a n c, .int .i64 k] w fun e w' => e = .returned (.int .i64 (szL k n)) ∧ w' = w := by
 by_cases h : (n : Int) ≤ k
 ·
  rw [szL_yes h]
  have h' : ¬ (k - (n : Int) < 0) := by omega
  go_enter Tryz.func19, Tryz.ntmps19
  go_wp2
  go_ret
  exact ⟨rfl, rfl⟩
 ·
  rw [szL_no h]
  have h' : k - (n : Int) < 0 := by omega
  go_enter Tryz.func19, Tryz.ntmps19
  go_wp2
  go_ret
  exact ⟨rfl, rfl⟩

/-- Whatever is left, the helper F counts N for this value, in w and behind it. -/
def SzV (w : World) (F : Nat) (v : Value) (N : Nat) : Prop :=
 ∀ (w1 : World) (k : Int), Below w.heap.size w w1 → 0 ≤ k → k ≤ 1048576 → Calls Tryz.prog F #[v, .int .i64 k] w1 fun e w' => e = .returned (.int .i64 (szL k N)) ∧ Below w1.heap.size w1 w'

def SzF (F : Nat) (f : Fl) : Prop := ∀ (w : World) (v : Value), f.Rd w v → SzV w F v f.len
def SzR (F : Nat) (r : List Fl) : Prop := ∀ (w : World) (vs : List Value), RdVals w r vs → SzV w F (.agg vs.toArray) (recLen r)

theorem szByteF (l : List Int) : SzF 19 (.b l) := by
 rintro w v ⟨a, c, rfl, _, h1, h2, _⟩ w1 k hb hk hk2
 unfold maxLen at h2
 refine (szByteM a l.length c k w1 hk hk2 (by omega)).mono ?_
 rintro e w' ⟨rfl, rfl⟩
 exact ⟨rfl, Below.refl _ _⟩

/-- Cells of a block that stays. -/
theorem cell_on {w w' : World} {g i : Nat} {v : Value} (h : w.cell? ⟨g, i, none⟩ = some v) (hb : Below w.heap.size w w') : w'.cell? ⟨g, i, none⟩ = some v := by
 rw [hb.cell (World.block_lt_of_cell? w _ h)]; exact h
theorem cell_new (w : World) (t : TypeId) (vs : Array Value) (i : Nat) (v : Value) (h : vs[i]? = some v) : (w.alloc (.cells vs t (0, 0))).cell? ⟨w.heap.size, i, none⟩ = some v := by
 rw [cell_of_row _ w.heap.size i vs t (0, 0) (heap_alloc_new w _)]; exact h

theorem RdRec.vals {w : World} {b : Nat} {r : List Fl} : ∀ {off : Nat}, RdRec w b off r → ∃ vs, RdVals w r vs ∧ ∀ i v, vs[i]? = some v → w.cell? ⟨b, off + i, none⟩ = some v := by
 induction r with
 | nil => intro off _; exact ⟨[], rfl, by simp⟩
 | cons f r ih =>
  intro off h
  obtain ⟨⟨v, hc, hv⟩, h2⟩ := h
  obtain ⟨vs, h3, h4⟩ := ih h2
  refine ⟨v :: vs, ⟨v, vs, rfl, hv, h3⟩, fun i u hu => ?_⟩
  cases i with
  | zero => simp only [List.getElem?_cons_zero, Option.some.injEq] at hu; subst hu; exact hc
  | succ i =>
   rw [List.getElem?_cons_succ] at hu
   have := h4 i u hu
   rw [show off + (i + 1) = off + 1 + i by omega]; exact this

set_option maxHeartbeats 4000000 in
theorem szVar0 (a0 : Option Addr) (n0 c0 : Nat) (p1 : Int) (N0 : Nat) (k : Int) (w : World) (hk : 0 ≤ k) (hk2 : k ≤ 1048576)
  (H0 : SzV w 19 (.slice a0 n0 c0) N0) :
  Calls Tryz.prog 58 #[.agg #[.slice a0 n0 c0, .int .i64 p1], .int .i64 k] w fun e w' => e = .returned (.int .i64 (szL k (N0))) ∧ Below w.heap.size w w' := by
 have hB : Below w.heap.size w (w.alloc (.cells #[.slice a0 n0 c0, .int .i64 p1] 93 (0, 0))) := (Below.refl _ _).alloc (Nat.le_refl _) _
 have q0 := cell_new w 93 #[.slice a0 n0 c0, .int .i64 p1] 0 _ rfl
 by_cases e0 : (N0 : Int) ≤ k
 ·
  have g0 : ¬ (k - (N0 : Int) < 0) := by omega
  have G0 := H0 _ (k) hB hk hk2
  simp only [szL_yes (show (N0 : Int) ≤ k by omega)] at G0
  clear H0
  go_enter Tryz.func58, Tryz.ntmps58
  go_wp2_with fail
  refine G0.mono ?_
  rintro e w1 ⟨rfl, hb1⟩
  have hB1 : Below w.heap.size w w1 := hB.trans (hb1.mono hB.size)
  clear hb1 G0 q0
  go_wp2_with fail
  go_ret
  exact ⟨ret_int (szL_yes (by omega)).symm, hB1⟩
 ·
  have G0 := H0 _ (k) hB hk hk2
  simp only [szL_no (show ¬ (N0 : Int) ≤ k by omega)] at G0
  clear H0
  go_enter Tryz.func58, Tryz.ntmps58
  go_wp2_with fail
  refine G0.mono ?_
  rintro e w1 ⟨rfl, hb1⟩
  have hB1 : Below w.heap.size w w1 := hB.trans (hb1.mono hB.size)
  clear hb1 G0 q0
  go_wp2_with fail
  go_ret
  exact ⟨ret_int (szL_no (by omega)).symm, hB1⟩

set_option maxHeartbeats 4000000 in
theorem szParam0 (a0 : Option Addr) (n0 c0 : Nat) (t1 : Bool) (N0 : Nat) (k : Int) (w : World) (hk : 0 ≤ k) (hk2 : k ≤ 1048576)
  (H0 : SzV w 19 (.slice a0 n0 c0) N0) :
  Calls Tryz.prog 141 #[.agg #[.slice a0 n0 c0, .bool t1], .int .i64 k] w fun e w' => e = .returned (.int .i64 (szL k (N0))) ∧ Below w.heap.size w w' := by
 have hB : Below w.heap.size w (w.alloc (.cells #[.slice a0 n0 c0, .bool t1] 180 (0, 0))) := (Below.refl _ _).alloc (Nat.le_refl _) _
 have q0 := cell_new w 180 #[.slice a0 n0 c0, .bool t1] 0 _ rfl
 by_cases e0 : (N0 : Int) ≤ k
 ·
  have g0 : ¬ (k - (N0 : Int) < 0) := by omega
  have G0 := H0 _ (k) hB hk hk2
  simp only [szL_yes (show (N0 : Int) ≤ k by omega)] at G0
  clear H0
  go_enter Tryz.func141, Tryz.ntmps141
  go_wp2_with fail
  refine G0.mono ?_
  rintro e w1 ⟨rfl, hb1⟩
  have hB1 : Below w.heap.size w w1 := hB.trans (hb1.mono hB.size)
  clear hb1 G0 q0
  go_wp2_with fail
  go_ret
  exact ⟨ret_int (szL_yes (by omega)).symm, hB1⟩
 ·
  have G0 := H0 _ (k) hB hk hk2
  simp only [szL_no (show ¬ (N0 : Int) ≤ k by omega)] at G0
  clear H0
  go_enter Tryz.func141, Tryz.ntmps141
  go_wp2_with fail
  refine G0.mono ?_
  rintro e w1 ⟨rfl, hb1⟩
  have hB1 : Below w.heap.size w w1 := hB.trans (hb1.mono hB.size)
  clear hb1 G0 q0
  go_wp2_with fail
  go_ret
  exact ⟨ret_int (szL_no (by omega)).symm, hB1⟩

set_option maxHeartbeats 4000000 in
theorem szExpr0 (p0 : Int) (p1 : Int) (a2 : Option Addr) (n2 c2 : Nat) (a3 : Option Addr) (n3 c3 : Nat) (a4 : Option Addr) (n4 c4 : Nat) (N2 : Nat) (N3 : Nat) (N4 : Nat) (k : Int) (w : World) (hk : 0 ≤ k) (hk2 : k ≤ 1048576)
  (H2 : SzV w 19 (.slice a2 n2 c2) N2) (H3 : SzV w 19 (.slice a3 n3 c3) N3) (H4 : SzV w 178 (.slice a4 n4 c4) N4) :
  Calls Tryz.prog 200 #[.agg #[.int .i64 p0, .int .i64 p1, .slice a2 n2 c2, .slice a3 n3 c3, .slice a4 n4 c4], .int .i64 k] w fun e w' => e = .returned (.int .i64 (szL k (N2 + N3 + N4))) ∧ Below w.heap.size w w' := by
 have hB : Below w.heap.size w (w.alloc (.cells #[.int .i64 p0, .int .i64 p1, .slice a2 n2 c2, .slice a3 n3 c3, .slice a4 n4 c4] 230 (0, 0))) := (Below.refl _ _).alloc (Nat.le_refl _) _
 have q2 := cell_new w 230 #[.int .i64 p0, .int .i64 p1, .slice a2 n2 c2, .slice a3 n3 c3, .slice a4 n4 c4] 2 _ rfl
 have q3 := cell_new w 230 #[.int .i64 p0, .int .i64 p1, .slice a2 n2 c2, .slice a3 n3 c3, .slice a4 n4 c4] 3 _ rfl
 have q4 := cell_new w 230 #[.int .i64 p0, .int .i64 p1, .slice a2 n2 c2, .slice a3 n3 c3, .slice a4 n4 c4] 4 _ rfl
 by_cases e0 : (N2 : Int) ≤ k
 ·
  by_cases e1 : (N3 : Int) ≤ k - (N2 : Int)
  ·
   by_cases e2 : (N4 : Int) ≤ k - (N2 : Int) - (N3 : Int)
   ·
    have g0 : ¬ (k - (N2 : Int) < 0) := by omega
    have g1 : ¬ (k - (N2 : Int) - (N3 : Int) < 0) := by omega
    have g2 : ¬ (k - (N2 : Int) - (N3 : Int) - (N4 : Int) < 0) := by omega
    have G0 := H2 _ (k) hB hk hk2
    simp only [szL_yes (show (N2 : Int) ≤ k by omega)] at G0
    clear H2
    have HE : Hid (k - (N2 : Int) - (N3 : Int) - (N4 : Int) = k - ((N2 + N3 + N4 : Nat) : Int)) := by show _ = _; omega
    go_enter Tryz.func200, Tryz.ntmps200
    go_wp2_with fail
    refine G0.mono ?_
    rintro e w1 ⟨rfl, hb1⟩
    have hB1 : Below w.heap.size w w1 := hB.trans (hb1.mono hB.size)
    replace q3 := cell_on q3 hb1
    replace q4 := cell_on q4 hb1
    clear hb1 G0 q2
    have G1 := H3 w1 (k - (N2 : Int)) hB1 (by omega) (by omega)
    simp only [szL_yes (show (N3 : Int) ≤ k - (N2 : Int) by omega)] at G1
    clear H3
    go_wp2_with fail
    refine G1.mono ?_
    rintro e w2 ⟨rfl, hb2⟩
    have hB2 : Below w.heap.size w w2 := hB1.trans (hb2.mono hB1.size)
    replace q4 := cell_on q4 hb2
    clear hb2 G1 q3
    have G2 := H4 w2 (k - (N2 : Int) - (N3 : Int)) hB2 (by omega) (by omega)
    simp only [szL_yes (show (N4 : Int) ≤ k - (N2 : Int) - (N3 : Int) by omega)] at G2
    clear H4
    go_wp2_with fail
    refine G2.mono ?_
    rintro e w3 ⟨rfl, hb3⟩
    have hB3 : Below w.heap.size w w3 := hB2.trans (hb3.mono hB2.size)
    clear hb3 G2 q4
    go_wp2_with fail
    go_ret
    exact ⟨ret_int (HE.out.trans (szL_yes (by omega)).symm), hB3⟩
   ·
    have g0 : ¬ (k - (N2 : Int) < 0) := by omega
    have g1 : ¬ (k - (N2 : Int) - (N3 : Int) < 0) := by omega
    have G0 := H2 _ (k) hB hk hk2
    simp only [szL_yes (show (N2 : Int) ≤ k by omega)] at G0
    clear H2
    go_enter Tryz.func200, Tryz.ntmps200
    go_wp2_with fail
    refine G0.mono ?_
    rintro e w1 ⟨rfl, hb1⟩
    have hB1 : Below w.heap.size w w1 := hB.trans (hb1.mono hB.size)
    replace q3 := cell_on q3 hb1
    replace q4 := cell_on q4 hb1
    clear hb1 G0 q2
    have G1 := H3 w1 (k - (N2 : Int)) hB1 (by omega) (by omega)
    simp only [szL_yes (show (N3 : Int) ≤ k - (N2 : Int) by omega)] at G1
    clear H3
    go_wp2_with fail
    refine G1.mono ?_
    rintro e w2 ⟨rfl, hb2⟩
    have hB2 : Below w.heap.size w w2 := hB1.trans (hb2.mono hB1.size)
    replace q4 := cell_on q4 hb2
    clear hb2 G1 q3
    have G2 := H4 w2 (k - (N2 : Int) - (N3 : Int)) hB2 (by omega) (by omega)
    simp only [szL_no (show ¬ (N4 : Int) ≤ k - (N2 : Int) - (N3 : Int) by omega)] at G2
    clear H4
    go_wp2_with fail
    refine G2.mono ?_
    rintro e w3 ⟨rfl, hb3⟩
    have hB3 : Below w.heap.size w w3 := hB2.trans (hb3.mono hB2.size)
    clear hb3 G2 q4
    go_wp2_with fail
    go_ret
    exact ⟨ret_int (szL_no (by omega)).symm, hB3⟩
  ·
   have g0 : ¬ (k - (N2 : Int) < 0) := by omega
   have G0 := H2 _ (k) hB hk hk2
   simp only [szL_yes (show (N2 : Int) ≤ k by omega)] at G0
   clear H2
   go_enter Tryz.func200, Tryz.ntmps200
   go_wp2_with fail
   refine G0.mono ?_
   rintro e w1 ⟨rfl, hb1⟩
   have hB1 : Below w.heap.size w w1 := hB.trans (hb1.mono hB.size)
   replace q3 := cell_on q3 hb1
   replace q4 := cell_on q4 hb1
   clear hb1 G0 q2
   have G1 := H3 w1 (k - (N2 : Int)) hB1 (by omega) (by omega)
   simp only [szL_no (show ¬ (N3 : Int) ≤ k - (N2 : Int) by omega)] at G1
   clear H3
   go_wp2_with fail
   refine G1.mono ?_
   rintro e w2 ⟨rfl, hb2⟩
   have hB2 : Below w.heap.size w w2 := hB1.trans (hb2.mono hB1.size)
   replace q4 := cell_on q4 hb2
   clear hb2 G1 q3
   go_wp2_with fail
   go_ret
   exact ⟨ret_int (szL_no (by omega)).symm, hB2⟩
 ·
  have G0 := H2 _ (k) hB hk hk2
  simp only [szL_no (show ¬ (N2 : Int) ≤ k by omega)] at G0
  clear H2
  go_enter Tryz.func200, Tryz.ntmps200
  go_wp2_with fail
  refine G0.mono ?_
  rintro e w1 ⟨rfl, hb1⟩
  have hB1 : Below w.heap.size w w1 := hB.trans (hb1.mono hB.size)
  replace q3 := cell_on q3 hb1
  replace q4 := cell_on q4 hb1
  clear hb1 G0 q2
  go_wp2_with fail
  go_ret
  exact ⟨ret_int (szL_no (by omega)).symm, hB1⟩

set_option maxHeartbeats 4000000 in
theorem szStmt0 (p0 : Int) (p1 : Int) (a2 : Option Addr) (n2 c2 : Nat) (a3 : Option Addr) (n3 c3 : Nat) (a4 : Option Addr) (n4 c4 : Nat) (a5 : Option Addr) (n5 c5 : Nat) (N2 : Nat) (N3 : Nat) (N4 : Nat) (N5 : Nat) (k : Int) (w : World) (hk : 0 ≤ k) (hk2 : k ≤ 1048576)
  (H2 : SzV w 19 (.slice a2 n2 c2) N2) (H3 : SzV w 178 (.slice a3 n3 c3) N3) (H4 : SzV w 104 (.slice a4 n4 c4) N4) (H5 : SzV w 104 (.slice a5 n5 c5) N5) :
  Calls Tryz.prog 142 #[.agg #[.int .i64 p0, .int .i64 p1, .slice a2 n2 c2, .slice a3 n3 c3, .slice a4 n4 c4, .slice a5 n5 c5], .int .i64 k] w fun e w' => e = .returned (.int .i64 (szL k (N2 + N3 + N4 + N5))) ∧ Below w.heap.size w w' := by
 have hB : Below w.heap.size w (w.alloc (.cells #[.int .i64 p0, .int .i64 p1, .slice a2 n2 c2, .slice a3 n3 c3, .slice a4 n4 c4, .slice a5 n5 c5] 184 (0, 0))) := (Below.refl _ _).alloc (Nat.le_refl _) _
 have q2 := cell_new w 184 #[.int .i64 p0, .int .i64 p1, .slice a2 n2 c2, .slice a3 n3 c3, .slice a4 n4 c4, .slice a5 n5 c5] 2 _ rfl
 have q3 := cell_new w 184 #[.int .i64 p0, .int .i64 p1, .slice a2 n2 c2, .slice a3 n3 c3, .slice a4 n4 c4, .slice a5 n5 c5] 3 _ rfl
 have q4 := cell_new w 184 #[.int .i64 p0, .int .i64 p1, .slice a2 n2 c2, .slice a3 n3 c3, .slice a4 n4 c4, .slice a5 n5 c5] 4 _ rfl
 have q5 := cell_new w 184 #[.int .i64 p0, .int .i64 p1, .slice a2 n2 c2, .slice a3 n3 c3, .slice a4 n4 c4, .slice a5 n5 c5] 5 _ rfl
 by_cases e0 : (N2 : Int) ≤ k
 ·
  by_cases e1 : (N3 : Int) ≤ k - (N2 : Int)
  ·
   by_cases e2 : (N4 : Int) ≤ k - (N2 : Int) - (N3 : Int)
   ·
    by_cases e3 : (N5 : Int) ≤ k - (N2 : Int) - (N3 : Int) - (N4 : Int)
    ·
     have g0 : ¬ (k - (N2 : Int) < 0) := by omega
     have g1 : ¬ (k - (N2 : Int) - (N3 : Int) < 0) := by omega
     have g2 : ¬ (k - (N2 : Int) - (N3 : Int) - (N4 : Int) < 0) := by omega
     have g3 : ¬ (k - (N2 : Int) - (N3 : Int) - (N4 : Int) - (N5 : Int) < 0) := by omega
     have G0 := H2 _ (k) hB hk hk2
     simp only [szL_yes (show (N2 : Int) ≤ k by omega)] at G0
     clear H2
     have HE : Hid (k - (N2 : Int) - (N3 : Int) - (N4 : Int) - (N5 : Int) = k - ((N2 + N3 + N4 + N5 : Nat) : Int)) := by show _ = _; omega
     go_enter Tryz.func142, Tryz.ntmps142
     go_wp2_with fail
     refine G0.mono ?_
     rintro e w1 ⟨rfl, hb1⟩
     have hB1 : Below w.heap.size w w1 := hB.trans (hb1.mono hB.size)
     replace q3 := cell_on q3 hb1
     replace q4 := cell_on q4 hb1
     replace q5 := cell_on q5 hb1
     clear hb1 G0 q2
     have G1 := H3 w1 (k - (N2 : Int)) hB1 (by omega) (by omega)
     simp only [szL_yes (show (N3 : Int) ≤ k - (N2 : Int) by omega)] at G1
     clear H3
     go_wp2_with fail
     refine G1.mono ?_
     rintro e w2 ⟨rfl, hb2⟩
     have hB2 : Below w.heap.size w w2 := hB1.trans (hb2.mono hB1.size)
     replace q4 := cell_on q4 hb2
     replace q5 := cell_on q5 hb2
     clear hb2 G1 q3
     have G2 := H4 w2 (k - (N2 : Int) - (N3 : Int)) hB2 (by omega) (by omega)
     simp only [szL_yes (show (N4 : Int) ≤ k - (N2 : Int) - (N3 : Int) by omega)] at G2
     clear H4
     go_wp2_with fail
     refine G2.mono ?_
     rintro e w3 ⟨rfl, hb3⟩
     have hB3 : Below w.heap.size w w3 := hB2.trans (hb3.mono hB2.size)
     replace q5 := cell_on q5 hb3
     clear hb3 G2 q4
     have G3 := H5 w3 (k - (N2 : Int) - (N3 : Int) - (N4 : Int)) hB3 (by omega) (by omega)
     simp only [szL_yes (show (N5 : Int) ≤ k - (N2 : Int) - (N3 : Int) - (N4 : Int) by omega)] at G3
     clear H5
     go_wp2_with fail
     refine G3.mono ?_
     rintro e w4 ⟨rfl, hb4⟩
     have hB4 : Below w.heap.size w w4 := hB3.trans (hb4.mono hB3.size)
     clear hb4 G3 q5
     go_wp2_with fail
     go_ret
     exact ⟨ret_int (HE.out.trans (szL_yes (by omega)).symm), hB4⟩
    ·
     have g0 : ¬ (k - (N2 : Int) < 0) := by omega
     have g1 : ¬ (k - (N2 : Int) - (N3 : Int) < 0) := by omega
     have g2 : ¬ (k - (N2 : Int) - (N3 : Int) - (N4 : Int) < 0) := by omega
     have G0 := H2 _ (k) hB hk hk2
     simp only [szL_yes (show (N2 : Int) ≤ k by omega)] at G0
     clear H2
     go_enter Tryz.func142, Tryz.ntmps142
     go_wp2_with fail
     refine G0.mono ?_
     rintro e w1 ⟨rfl, hb1⟩
     have hB1 : Below w.heap.size w w1 := hB.trans (hb1.mono hB.size)
     replace q3 := cell_on q3 hb1
     replace q4 := cell_on q4 hb1
     replace q5 := cell_on q5 hb1
     clear hb1 G0 q2
     have G1 := H3 w1 (k - (N2 : Int)) hB1 (by omega) (by omega)
     simp only [szL_yes (show (N3 : Int) ≤ k - (N2 : Int) by omega)] at G1
     clear H3
     go_wp2_with fail
     refine G1.mono ?_
     rintro e w2 ⟨rfl, hb2⟩
     have hB2 : Below w.heap.size w w2 := hB1.trans (hb2.mono hB1.size)
     replace q4 := cell_on q4 hb2
     replace q5 := cell_on q5 hb2
     clear hb2 G1 q3
     have G2 := H4 w2 (k - (N2 : Int) - (N3 : Int)) hB2 (by omega) (by omega)
     simp only [szL_yes (show (N4 : Int) ≤ k - (N2 : Int) - (N3 : Int) by omega)] at G2
     clear H4
     go_wp2_with fail
     refine G2.mono ?_
     rintro e w3 ⟨rfl, hb3⟩
     have hB3 : Below w.heap.size w w3 := hB2.trans (hb3.mono hB2.size)
     replace q5 := cell_on q5 hb3
     clear hb3 G2 q4
     have G3 := H5 w3 (k - (N2 : Int) - (N3 : Int) - (N4 : Int)) hB3 (by omega) (by omega)
     simp only [szL_no (show ¬ (N5 : Int) ≤ k - (N2 : Int) - (N3 : Int) - (N4 : Int) by omega)] at G3
     clear H5
     go_wp2_with fail
     refine G3.mono ?_
     rintro e w4 ⟨rfl, hb4⟩
     have hB4 : Below w.heap.size w w4 := hB3.trans (hb4.mono hB3.size)
     clear hb4 G3 q5
     go_wp2_with fail
     go_ret
     exact ⟨ret_int (szL_no (by omega)).symm, hB4⟩
   ·
    have g0 : ¬ (k - (N2 : Int) < 0) := by omega
    have g1 : ¬ (k - (N2 : Int) - (N3 : Int) < 0) := by omega
    have G0 := H2 _ (k) hB hk hk2
    simp only [szL_yes (show (N2 : Int) ≤ k by omega)] at G0
    clear H2
    go_enter Tryz.func142, Tryz.ntmps142
    go_wp2_with fail
    refine G0.mono ?_
    rintro e w1 ⟨rfl, hb1⟩
    have hB1 : Below w.heap.size w w1 := hB.trans (hb1.mono hB.size)
    replace q3 := cell_on q3 hb1
    replace q4 := cell_on q4 hb1
    replace q5 := cell_on q5 hb1
    clear hb1 G0 q2
    have G1 := H3 w1 (k - (N2 : Int)) hB1 (by omega) (by omega)
    simp only [szL_yes (show (N3 : Int) ≤ k - (N2 : Int) by omega)] at G1
    clear H3
    go_wp2_with fail
    refine G1.mono ?_
    rintro e w2 ⟨rfl, hb2⟩
    have hB2 : Below w.heap.size w w2 := hB1.trans (hb2.mono hB1.size)
    replace q4 := cell_on q4 hb2
    replace q5 := cell_on q5 hb2
    clear hb2 G1 q3
    have G2 := H4 w2 (k - (N2 : Int) - (N3 : Int)) hB2 (by omega) (by omega)
    simp only [szL_no (show ¬ (N4 : Int) ≤ k - (N2 : Int) - (N3 : Int) by omega)] at G2
    clear H4
    go_wp2_with fail
    refine G2.mono ?_
    rintro e w3 ⟨rfl, hb3⟩
    have hB3 : Below w.heap.size w w3 := hB2.trans (hb3.mono hB2.size)
    replace q5 := cell_on q5 hb3
    clear hb3 G2 q4
    go_wp2_with fail
    go_ret
    exact ⟨ret_int (szL_no (by omega)).symm, hB3⟩
  ·
   have g0 : ¬ (k - (N2 : Int) < 0) := by omega
   have G0 := H2 _ (k) hB hk hk2
   simp only [szL_yes (show (N2 : Int) ≤ k by omega)] at G0
   clear H2
   go_enter Tryz.func142, Tryz.ntmps142
   go_wp2_with fail
   refine G0.mono ?_
   rintro e w1 ⟨rfl, hb1⟩
   have hB1 : Below w.heap.size w w1 := hB.trans (hb1.mono hB.size)
   replace q3 := cell_on q3 hb1
   replace q4 := cell_on q4 hb1
   replace q5 := cell_on q5 hb1
   clear hb1 G0 q2
   have G1 := H3 w1 (k - (N2 : Int)) hB1 (by omega) (by omega)
   simp only [szL_no (show ¬ (N3 : Int) ≤ k - (N2 : Int) by omega)] at G1
   clear H3
   go_wp2_with fail
   refine G1.mono ?_
   rintro e w2 ⟨rfl, hb2⟩
   have hB2 : Below w.heap.size w w2 := hB1.trans (hb2.mono hB1.size)
   replace q4 := cell_on q4 hb2
   replace q5 := cell_on q5 hb2
   clear hb2 G1 q3
   go_wp2_with fail
   go_ret
   exact ⟨ret_int (szL_no (by omega)).symm, hB2⟩
 ·
  have G0 := H2 _ (k) hB hk hk2
  simp only [szL_no (show ¬ (N2 : Int) ≤ k by omega)] at G0
  clear H2
  go_enter Tryz.func142, Tryz.ntmps142
  go_wp2_with fail
  refine G0.mono ?_
  rintro e w1 ⟨rfl, hb1⟩
  have hB1 : Below w.heap.size w w1 := hB.trans (hb1.mono hB.size)
  replace q3 := cell_on q3 hb1
  replace q4 := cell_on q4 hb1
  replace q5 := cell_on q5 hb1
  clear hb1 G0 q2
  go_wp2_with fail
  go_ret
  exact ⟨ret_int (szL_no (by omega)).symm, hB1⟩

set_option maxHeartbeats 4000000 in
theorem szProc0 (a0 : Option Addr) (n0 c0 : Nat) (t1 : Bool) (a2 : Option Addr) (n2 c2 : Nat) (a3 : Option Addr) (n3 c3 : Nat) (a4 : Option Addr) (n4 c4 : Nat) (N0 : Nat) (N2 : Nat) (N3 : Nat) (N4 : Nat) (k : Int) (w : World) (hk : 0 ≤ k) (hk2 : k ≤ 1048576)
  (H0 : SzV w 19 (.slice a0 n0 c0) N0) (H2 : SzV w 103 (.slice a2 n2 c2) N2) (H3 : SzV w 20 (.slice a3 n3 c3) N3) (H4 : SzV w 104 (.slice a4 n4 c4) N4) :
  Calls Tryz.prog 59 #[.agg #[.slice a0 n0 c0, .bool t1, .slice a2 n2 c2, .slice a3 n3 c3, .slice a4 n4 c4], .int .i64 k] w fun e w' => e = .returned (.int .i64 (szL k (N0 + N2 + N3 + N4))) ∧ Below w.heap.size w w' := by
 have hB : Below w.heap.size w (w.alloc (.cells #[.slice a0 n0 c0, .bool t1, .slice a2 n2 c2, .slice a3 n3 c3, .slice a4 n4 c4] 98 (0, 0))) := (Below.refl _ _).alloc (Nat.le_refl _) _
 have q0 := cell_new w 98 #[.slice a0 n0 c0, .bool t1, .slice a2 n2 c2, .slice a3 n3 c3, .slice a4 n4 c4] 0 _ rfl
 have q2 := cell_new w 98 #[.slice a0 n0 c0, .bool t1, .slice a2 n2 c2, .slice a3 n3 c3, .slice a4 n4 c4] 2 _ rfl
 have q3 := cell_new w 98 #[.slice a0 n0 c0, .bool t1, .slice a2 n2 c2, .slice a3 n3 c3, .slice a4 n4 c4] 3 _ rfl
 have q4 := cell_new w 98 #[.slice a0 n0 c0, .bool t1, .slice a2 n2 c2, .slice a3 n3 c3, .slice a4 n4 c4] 4 _ rfl
 by_cases e0 : (N0 : Int) ≤ k
 ·
  by_cases e1 : (N2 : Int) ≤ k - (N0 : Int)
  ·
   by_cases e2 : (N3 : Int) ≤ k - (N0 : Int) - (N2 : Int)
   ·
    by_cases e3 : (N4 : Int) ≤ k - (N0 : Int) - (N2 : Int) - (N3 : Int)
    ·
     have g0 : ¬ (k - (N0 : Int) < 0) := by omega
     have g1 : ¬ (k - (N0 : Int) - (N2 : Int) < 0) := by omega
     have g2 : ¬ (k - (N0 : Int) - (N2 : Int) - (N3 : Int) < 0) := by omega
     have g3 : ¬ (k - (N0 : Int) - (N2 : Int) - (N3 : Int) - (N4 : Int) < 0) := by omega
     have G0 := H0 _ (k) hB hk hk2
     simp only [szL_yes (show (N0 : Int) ≤ k by omega)] at G0
     clear H0
     have HE : Hid (k - (N0 : Int) - (N2 : Int) - (N3 : Int) - (N4 : Int) = k - ((N0 + N2 + N3 + N4 : Nat) : Int)) := by show _ = _; omega
     go_enter Tryz.func59, Tryz.ntmps59
     go_wp2_with fail
     refine G0.mono ?_
     rintro e w1 ⟨rfl, hb1⟩
     have hB1 : Below w.heap.size w w1 := hB.trans (hb1.mono hB.size)
     replace q2 := cell_on q2 hb1
     replace q3 := cell_on q3 hb1
     replace q4 := cell_on q4 hb1
     clear hb1 G0 q0
     have G1 := H2 w1 (k - (N0 : Int)) hB1 (by omega) (by omega)
     simp only [szL_yes (show (N2 : Int) ≤ k - (N0 : Int) by omega)] at G1
     clear H2
     go_wp2_with fail
     refine G1.mono ?_
     rintro e w2 ⟨rfl, hb2⟩
     have hB2 : Below w.heap.size w w2 := hB1.trans (hb2.mono hB1.size)
     replace q3 := cell_on q3 hb2
     replace q4 := cell_on q4 hb2
     clear hb2 G1 q2
     have G2 := H3 w2 (k - (N0 : Int) - (N2 : Int)) hB2 (by omega) (by omega)
     simp only [szL_yes (show (N3 : Int) ≤ k - (N0 : Int) - (N2 : Int) by omega)] at G2
     clear H3
     go_wp2_with fail
     refine G2.mono ?_
     rintro e w3 ⟨rfl, hb3⟩
     have hB3 : Below w.heap.size w w3 := hB2.trans (hb3.mono hB2.size)
     replace q4 := cell_on q4 hb3
     clear hb3 G2 q3
     have G3 := H4 w3 (k - (N0 : Int) - (N2 : Int) - (N3 : Int)) hB3 (by omega) (by omega)
     simp only [szL_yes (show (N4 : Int) ≤ k - (N0 : Int) - (N2 : Int) - (N3 : Int) by omega)] at G3
     clear H4
     go_wp2_with fail
     refine G3.mono ?_
     rintro e w4 ⟨rfl, hb4⟩
     have hB4 : Below w.heap.size w w4 := hB3.trans (hb4.mono hB3.size)
     clear hb4 G3 q4
     go_wp2_with fail
     go_ret
     exact ⟨ret_int (HE.out.trans (szL_yes (by omega)).symm), hB4⟩
    ·
     have g0 : ¬ (k - (N0 : Int) < 0) := by omega
     have g1 : ¬ (k - (N0 : Int) - (N2 : Int) < 0) := by omega
     have g2 : ¬ (k - (N0 : Int) - (N2 : Int) - (N3 : Int) < 0) := by omega
     have G0 := H0 _ (k) hB hk hk2
     simp only [szL_yes (show (N0 : Int) ≤ k by omega)] at G0
     clear H0
     go_enter Tryz.func59, Tryz.ntmps59
     go_wp2_with fail
     refine G0.mono ?_
     rintro e w1 ⟨rfl, hb1⟩
     have hB1 : Below w.heap.size w w1 := hB.trans (hb1.mono hB.size)
     replace q2 := cell_on q2 hb1
     replace q3 := cell_on q3 hb1
     replace q4 := cell_on q4 hb1
     clear hb1 G0 q0
     have G1 := H2 w1 (k - (N0 : Int)) hB1 (by omega) (by omega)
     simp only [szL_yes (show (N2 : Int) ≤ k - (N0 : Int) by omega)] at G1
     clear H2
     go_wp2_with fail
     refine G1.mono ?_
     rintro e w2 ⟨rfl, hb2⟩
     have hB2 : Below w.heap.size w w2 := hB1.trans (hb2.mono hB1.size)
     replace q3 := cell_on q3 hb2
     replace q4 := cell_on q4 hb2
     clear hb2 G1 q2
     have G2 := H3 w2 (k - (N0 : Int) - (N2 : Int)) hB2 (by omega) (by omega)
     simp only [szL_yes (show (N3 : Int) ≤ k - (N0 : Int) - (N2 : Int) by omega)] at G2
     clear H3
     go_wp2_with fail
     refine G2.mono ?_
     rintro e w3 ⟨rfl, hb3⟩
     have hB3 : Below w.heap.size w w3 := hB2.trans (hb3.mono hB2.size)
     replace q4 := cell_on q4 hb3
     clear hb3 G2 q3
     have G3 := H4 w3 (k - (N0 : Int) - (N2 : Int) - (N3 : Int)) hB3 (by omega) (by omega)
     simp only [szL_no (show ¬ (N4 : Int) ≤ k - (N0 : Int) - (N2 : Int) - (N3 : Int) by omega)] at G3
     clear H4
     go_wp2_with fail
     refine G3.mono ?_
     rintro e w4 ⟨rfl, hb4⟩
     have hB4 : Below w.heap.size w w4 := hB3.trans (hb4.mono hB3.size)
     clear hb4 G3 q4
     go_wp2_with fail
     go_ret
     exact ⟨ret_int (szL_no (by omega)).symm, hB4⟩
   ·
    have g0 : ¬ (k - (N0 : Int) < 0) := by omega
    have g1 : ¬ (k - (N0 : Int) - (N2 : Int) < 0) := by omega
    have G0 := H0 _ (k) hB hk hk2
    simp only [szL_yes (show (N0 : Int) ≤ k by omega)] at G0
    clear H0
    go_enter Tryz.func59, Tryz.ntmps59
    go_wp2_with fail
    refine G0.mono ?_
    rintro e w1 ⟨rfl, hb1⟩
    have hB1 : Below w.heap.size w w1 := hB.trans (hb1.mono hB.size)
    replace q2 := cell_on q2 hb1
    replace q3 := cell_on q3 hb1
    replace q4 := cell_on q4 hb1
    clear hb1 G0 q0
    have G1 := H2 w1 (k - (N0 : Int)) hB1 (by omega) (by omega)
    simp only [szL_yes (show (N2 : Int) ≤ k - (N0 : Int) by omega)] at G1
    clear H2
    go_wp2_with fail
    refine G1.mono ?_
    rintro e w2 ⟨rfl, hb2⟩
    have hB2 : Below w.heap.size w w2 := hB1.trans (hb2.mono hB1.size)
    replace q3 := cell_on q3 hb2
    replace q4 := cell_on q4 hb2
    clear hb2 G1 q2
    have G2 := H3 w2 (k - (N0 : Int) - (N2 : Int)) hB2 (by omega) (by omega)
    simp only [szL_no (show ¬ (N3 : Int) ≤ k - (N0 : Int) - (N2 : Int) by omega)] at G2
    clear H3
    go_wp2_with fail
    refine G2.mono ?_
    rintro e w3 ⟨rfl, hb3⟩
    have hB3 : Below w.heap.size w w3 := hB2.trans (hb3.mono hB2.size)
    replace q4 := cell_on q4 hb3
    clear hb3 G2 q3
    go_wp2_with fail
    go_ret
    exact ⟨ret_int (szL_no (by omega)).symm, hB3⟩
  ·
   have g0 : ¬ (k - (N0 : Int) < 0) := by omega
   have G0 := H0 _ (k) hB hk hk2
   simp only [szL_yes (show (N0 : Int) ≤ k by omega)] at G0
   clear H0
   go_enter Tryz.func59, Tryz.ntmps59
   go_wp2_with fail
   refine G0.mono ?_
   rintro e w1 ⟨rfl, hb1⟩
   have hB1 : Below w.heap.size w w1 := hB.trans (hb1.mono hB.size)
   replace q2 := cell_on q2 hb1
   replace q3 := cell_on q3 hb1
   replace q4 := cell_on q4 hb1
   clear hb1 G0 q0
   have G1 := H2 w1 (k - (N0 : Int)) hB1 (by omega) (by omega)
   simp only [szL_no (show ¬ (N2 : Int) ≤ k - (N0 : Int) by omega)] at G1
   clear H2
   go_wp2_with fail
   refine G1.mono ?_
   rintro e w2 ⟨rfl, hb2⟩
   have hB2 : Below w.heap.size w w2 := hB1.trans (hb2.mono hB1.size)
   replace q3 := cell_on q3 hb2
   replace q4 := cell_on q4 hb2
   clear hb2 G1 q2
   go_wp2_with fail
   go_ret
   exact ⟨ret_int (szL_no (by omega)).symm, hB2⟩
 ·
  have G0 := H0 _ (k) hB hk hk2
  simp only [szL_no (show ¬ (N0 : Int) ≤ k by omega)] at G0
  clear H0
  go_enter Tryz.func59, Tryz.ntmps59
  go_wp2_with fail
  refine G0.mono ?_
  rintro e w1 ⟨rfl, hb1⟩
  have hB1 : Below w.heap.size w w1 := hB.trans (hb1.mono hB.size)
  replace q2 := cell_on q2 hb1
  replace q3 := cell_on q3 hb1
  replace q4 := cell_on q4 hb1
  clear hb1 G0 q0
  go_wp2_with fail
  go_ret
  exact ⟨ret_int (szL_no (by omega)).symm, hB1⟩

set_option maxHeartbeats 4000000 in
theorem szModule0 (a0 : Option Addr) (n0 c0 : Nat) (a1 : Option Addr) (n1 c1 : Nat) (a2 : Option Addr) (n2 c2 : Nat) (a3 : Option Addr) (n3 c3 : Nat) (N0 : Nat) (N1 : Nat) (N2 : Nat) (N3 : Nat) (k : Int) (w : World) (hk : 0 ≤ k) (hk2 : k ≤ 1048576)
  (H0 : SzV w 19 (.slice a0 n0 c0) N0) (H1 : SzV w 20 (.slice a1 n1 c1) N1) (H2 : SzV w 21 (.slice a2 n2 c2) N2) (H3 : SzV w 22 (.slice a3 n3 c3) N3) :
  Calls Tryz.prog 5 #[.agg #[.slice a0 n0 c0, .slice a1 n1 c1, .slice a2 n2 c2, .slice a3 n3 c3], .int .i64 k] w fun e w' => e = .returned (.int .i64 (szL k (N0 + N1 + N2 + N3))) ∧ Below w.heap.size w w' := by
 have hB : Below w.heap.size w (w.alloc (.cells #[.slice a0 n0 c0, .slice a1 n1 c1, .slice a2 n2 c2, .slice a3 n3 c3] 27 (0, 0))) := (Below.refl _ _).alloc (Nat.le_refl _) _
 have q0 := cell_new w 27 #[.slice a0 n0 c0, .slice a1 n1 c1, .slice a2 n2 c2, .slice a3 n3 c3] 0 _ rfl
 have q1 := cell_new w 27 #[.slice a0 n0 c0, .slice a1 n1 c1, .slice a2 n2 c2, .slice a3 n3 c3] 1 _ rfl
 have q2 := cell_new w 27 #[.slice a0 n0 c0, .slice a1 n1 c1, .slice a2 n2 c2, .slice a3 n3 c3] 2 _ rfl
 have q3 := cell_new w 27 #[.slice a0 n0 c0, .slice a1 n1 c1, .slice a2 n2 c2, .slice a3 n3 c3] 3 _ rfl
 by_cases e0 : (N0 : Int) ≤ k
 ·
  by_cases e1 : (N1 : Int) ≤ k - (N0 : Int)
  ·
   by_cases e2 : (N2 : Int) ≤ k - (N0 : Int) - (N1 : Int)
   ·
    by_cases e3 : (N3 : Int) ≤ k - (N0 : Int) - (N1 : Int) - (N2 : Int)
    ·
     have g0 : ¬ (k - (N0 : Int) < 0) := by omega
     have g1 : ¬ (k - (N0 : Int) - (N1 : Int) < 0) := by omega
     have g2 : ¬ (k - (N0 : Int) - (N1 : Int) - (N2 : Int) < 0) := by omega
     have g3 : ¬ (k - (N0 : Int) - (N1 : Int) - (N2 : Int) - (N3 : Int) < 0) := by omega
     have G0 := H0 _ (k) hB hk hk2
     simp only [szL_yes (show (N0 : Int) ≤ k by omega)] at G0
     clear H0
     have HE : Hid (k - (N0 : Int) - (N1 : Int) - (N2 : Int) - (N3 : Int) = k - ((N0 + N1 + N2 + N3 : Nat) : Int)) := by show _ = _; omega
     go_enter Tryz.func5, Tryz.ntmps5
     go_wp2_with fail
     refine G0.mono ?_
     rintro e w1 ⟨rfl, hb1⟩
     have hB1 : Below w.heap.size w w1 := hB.trans (hb1.mono hB.size)
     replace q1 := cell_on q1 hb1
     replace q2 := cell_on q2 hb1
     replace q3 := cell_on q3 hb1
     clear hb1 G0 q0
     have G1 := H1 w1 (k - (N0 : Int)) hB1 (by omega) (by omega)
     simp only [szL_yes (show (N1 : Int) ≤ k - (N0 : Int) by omega)] at G1
     clear H1
     go_wp2_with fail
     refine G1.mono ?_
     rintro e w2 ⟨rfl, hb2⟩
     have hB2 : Below w.heap.size w w2 := hB1.trans (hb2.mono hB1.size)
     replace q2 := cell_on q2 hb2
     replace q3 := cell_on q3 hb2
     clear hb2 G1 q1
     have G2 := H2 w2 (k - (N0 : Int) - (N1 : Int)) hB2 (by omega) (by omega)
     simp only [szL_yes (show (N2 : Int) ≤ k - (N0 : Int) - (N1 : Int) by omega)] at G2
     clear H2
     go_wp2_with fail
     refine G2.mono ?_
     rintro e w3 ⟨rfl, hb3⟩
     have hB3 : Below w.heap.size w w3 := hB2.trans (hb3.mono hB2.size)
     replace q3 := cell_on q3 hb3
     clear hb3 G2 q2
     have G3 := H3 w3 (k - (N0 : Int) - (N1 : Int) - (N2 : Int)) hB3 (by omega) (by omega)
     simp only [szL_yes (show (N3 : Int) ≤ k - (N0 : Int) - (N1 : Int) - (N2 : Int) by omega)] at G3
     clear H3
     go_wp2_with fail
     refine G3.mono ?_
     rintro e w4 ⟨rfl, hb4⟩
     have hB4 : Below w.heap.size w w4 := hB3.trans (hb4.mono hB3.size)
     clear hb4 G3 q3
     go_wp2_with fail
     go_ret
     exact ⟨ret_int (HE.out.trans (szL_yes (by omega)).symm), hB4⟩
    ·
     have g0 : ¬ (k - (N0 : Int) < 0) := by omega
     have g1 : ¬ (k - (N0 : Int) - (N1 : Int) < 0) := by omega
     have g2 : ¬ (k - (N0 : Int) - (N1 : Int) - (N2 : Int) < 0) := by omega
     have G0 := H0 _ (k) hB hk hk2
     simp only [szL_yes (show (N0 : Int) ≤ k by omega)] at G0
     clear H0
     go_enter Tryz.func5, Tryz.ntmps5
     go_wp2_with fail
     refine G0.mono ?_
     rintro e w1 ⟨rfl, hb1⟩
     have hB1 : Below w.heap.size w w1 := hB.trans (hb1.mono hB.size)
     replace q1 := cell_on q1 hb1
     replace q2 := cell_on q2 hb1
     replace q3 := cell_on q3 hb1
     clear hb1 G0 q0
     have G1 := H1 w1 (k - (N0 : Int)) hB1 (by omega) (by omega)
     simp only [szL_yes (show (N1 : Int) ≤ k - (N0 : Int) by omega)] at G1
     clear H1
     go_wp2_with fail
     refine G1.mono ?_
     rintro e w2 ⟨rfl, hb2⟩
     have hB2 : Below w.heap.size w w2 := hB1.trans (hb2.mono hB1.size)
     replace q2 := cell_on q2 hb2
     replace q3 := cell_on q3 hb2
     clear hb2 G1 q1
     have G2 := H2 w2 (k - (N0 : Int) - (N1 : Int)) hB2 (by omega) (by omega)
     simp only [szL_yes (show (N2 : Int) ≤ k - (N0 : Int) - (N1 : Int) by omega)] at G2
     clear H2
     go_wp2_with fail
     refine G2.mono ?_
     rintro e w3 ⟨rfl, hb3⟩
     have hB3 : Below w.heap.size w w3 := hB2.trans (hb3.mono hB2.size)
     replace q3 := cell_on q3 hb3
     clear hb3 G2 q2
     have G3 := H3 w3 (k - (N0 : Int) - (N1 : Int) - (N2 : Int)) hB3 (by omega) (by omega)
     simp only [szL_no (show ¬ (N3 : Int) ≤ k - (N0 : Int) - (N1 : Int) - (N2 : Int) by omega)] at G3
     clear H3
     go_wp2_with fail
     refine G3.mono ?_
     rintro e w4 ⟨rfl, hb4⟩
     have hB4 : Below w.heap.size w w4 := hB3.trans (hb4.mono hB3.size)
     clear hb4 G3 q3
     go_wp2_with fail
     go_ret
     exact ⟨ret_int (szL_no (by omega)).symm, hB4⟩
   ·
    have g0 : ¬ (k - (N0 : Int) < 0) := by omega
    have g1 : ¬ (k - (N0 : Int) - (N1 : Int) < 0) := by omega
    have G0 := H0 _ (k) hB hk hk2
    simp only [szL_yes (show (N0 : Int) ≤ k by omega)] at G0
    clear H0
    go_enter Tryz.func5, Tryz.ntmps5
    go_wp2_with fail
    refine G0.mono ?_
    rintro e w1 ⟨rfl, hb1⟩
    have hB1 : Below w.heap.size w w1 := hB.trans (hb1.mono hB.size)
    replace q1 := cell_on q1 hb1
    replace q2 := cell_on q2 hb1
    replace q3 := cell_on q3 hb1
    clear hb1 G0 q0
    have G1 := H1 w1 (k - (N0 : Int)) hB1 (by omega) (by omega)
    simp only [szL_yes (show (N1 : Int) ≤ k - (N0 : Int) by omega)] at G1
    clear H1
    go_wp2_with fail
    refine G1.mono ?_
    rintro e w2 ⟨rfl, hb2⟩
    have hB2 : Below w.heap.size w w2 := hB1.trans (hb2.mono hB1.size)
    replace q2 := cell_on q2 hb2
    replace q3 := cell_on q3 hb2
    clear hb2 G1 q1
    have G2 := H2 w2 (k - (N0 : Int) - (N1 : Int)) hB2 (by omega) (by omega)
    simp only [szL_no (show ¬ (N2 : Int) ≤ k - (N0 : Int) - (N1 : Int) by omega)] at G2
    clear H2
    go_wp2_with fail
    refine G2.mono ?_
    rintro e w3 ⟨rfl, hb3⟩
    have hB3 : Below w.heap.size w w3 := hB2.trans (hb3.mono hB2.size)
    replace q3 := cell_on q3 hb3
    clear hb3 G2 q2
    go_wp2_with fail
    go_ret
    exact ⟨ret_int (szL_no (by omega)).symm, hB3⟩
  ·
   have g0 : ¬ (k - (N0 : Int) < 0) := by omega
   have G0 := H0 _ (k) hB hk hk2
   simp only [szL_yes (show (N0 : Int) ≤ k by omega)] at G0
   clear H0
   go_enter Tryz.func5, Tryz.ntmps5
   go_wp2_with fail
   refine G0.mono ?_
   rintro e w1 ⟨rfl, hb1⟩
   have hB1 : Below w.heap.size w w1 := hB.trans (hb1.mono hB.size)
   replace q1 := cell_on q1 hb1
   replace q2 := cell_on q2 hb1
   replace q3 := cell_on q3 hb1
   clear hb1 G0 q0
   have G1 := H1 w1 (k - (N0 : Int)) hB1 (by omega) (by omega)
   simp only [szL_no (show ¬ (N1 : Int) ≤ k - (N0 : Int) by omega)] at G1
   clear H1
   go_wp2_with fail
   refine G1.mono ?_
   rintro e w2 ⟨rfl, hb2⟩
   have hB2 : Below w.heap.size w w2 := hB1.trans (hb2.mono hB1.size)
   replace q2 := cell_on q2 hb2
   replace q3 := cell_on q3 hb2
   clear hb2 G1 q1
   go_wp2_with fail
   go_ret
   exact ⟨ret_int (szL_no (by omega)).symm, hB2⟩
 ·
  have G0 := H0 _ (k) hB hk hk2
  simp only [szL_no (show ¬ (N0 : Int) ≤ k by omega)] at G0
  clear H0
  go_enter Tryz.func5, Tryz.ntmps5
  go_wp2_with fail
  refine G0.mono ?_
  rintro e w1 ⟨rfl, hb1⟩
  have hB1 : Below w.heap.size w w1 := hB.trans (hb1.mono hB.size)
  replace q1 := cell_on q1 hb1
  replace q2 := cell_on q2 hb1
  replace q3 := cell_on q3 hb1
  clear hb1 G0 q0
  go_wp2_with fail
  go_ret
  exact ⟨ret_int (szL_no (by omega)).symm, hB1⟩

set_option maxHeartbeats 8000000 in
theorem szVarSF (l : List Va) (H : ∀ x ∈ l, SzR 58 x.fl) : SzF 21 (.l 2 (l.map Va.fl)) := by
 intro w0 v hv w k hb0 hk hk2
 obtain ⟨a, c, rfl, hl0⟩ := (hv.below hb0).list
 clear hv hb0
 have hm : (l.map Va.fl).length = l.length := by simp [exs_map, sts_map, txts]
 have hat : ∀ j, j < l.length → ∃ x ∈ l, (l.map Va.fl)[j]? = some (Va.fl x) := by
  intro j hj
  exact ⟨l[j], List.getElem_mem hj, by simp [exs_map, sts_map, txts, hj]⟩
 generalize hrs : l.map Va.fl = rs at hl0 hm hat ⊢
 clear hrs
 have hlen : (Fl.l 2 rs).len = rs.length + rowsLen rs := by simp [Fl.len]
 rw [hlen]
 clear hlen
 rw [← hm] at hat
 generalize hn : rs.length = n at hl0 hat ⊢
 clear hm
 have hcn : n ≤ 9223372036854775807 := by have h1 := hl0.cap; have h2 := hl0.most; unfold maxLen at h2; omega
 by_cases hnk : (n : Int) ≤ k
 ·
  have h' : ¬ (k - (n : Int) < 0) := by omega
  have Hd : Hid (rs.length = n) := hn
  have HL : Hid (LRow w a c 2 rs) := hl0
  have HA : Hid (∀ j, j < n → ∃ x ∈ l, rs[j]? = some (Va.fl x)) := hat
  have HH : Hid (∀ x ∈ l, SzR 58 x.fl) := H
  clear hat H
  rcases Nat.eq_zero_or_pos n with h0 | hpos
  ·
   subst h0
   have e0 : rs = [] := List.eq_nil_of_length_eq_zero Hd.out
   subst e0
   rw [szL_yes (by simpa [rowsLen] using hk)]
   clear hl0 hn
   have h1 : ¬ (k < 0) := by omega
   go_enter Tryz.func21, Tryz.ntmps21
   go_wp2_with fail
   refine wp_loop_rounds 1 ?_
   rw [rounds_succ]
   go_wp2_with fail
   go_ret
   exact ⟨ret_int (by simp [rowsLen]), Below.refl _ _⟩
  ·
   obtain ⟨b, off, rfl⟩ := hl0.addr (by rw [hn]; exact hpos)
   clear hl0 hn
   go_enter Tryz.func21, Tryz.ntmps21
   go_wp2_with fail
   go_loopw [1, 5] (fun r i wr => ∃ j : Nat, j ≤ n ∧ i = .int .i64 j ∧ ∃ rr : Int, r = .int .i64 rr ∧ 0 ≤ rr ∧ rr ≤ k ∧ Hid (rr = k - (n : Int) - (rowsLen (rs.take j) : Int)) ∧ Below w.heap.size w wr) (fun _ i _ => n - (intOf i).toNat)
   case atStart => exact ⟨0, Nat.zero_le _, rfl, k - (n : Int), rfl, by omega, by omega, by show _ = _; simp [rowsLen], Below.refl _ _⟩
   case round =>
    obtain ⟨j, hj, rfl, rr, rfl, hr0, hrk, hrr, hbr⟩ := hrel
    by_cases hlt : j < n
    ·
     obtain ⟨x, hx, hxj⟩ := HA.out j hlt
     have HN : Hid _ := rowsLen_next hxj
     have HT : Hid _ := rowsLen_take rs (j + 1)
     obtain ⟨vs, hvs, hcl⟩ := ((show LRow w (some ⟨b, off, none⟩) c 2 rs from HL.out).below hbr |>.el hxj).vals
     have HC := HH.out x hx wr vs hvs
     clear hxj
     generalize hN : recLen x.fl = N at HC HN
     obtain ⟨x0, x1⟩ := x
     obtain ⟨y0, _, rfl, ⟨a0, c0, rfl, d0⟩, y1, _, rfl, rfl, rfl⟩ := hvs
     skip
     skip
     skip
     skip
     have q0 : wr.cell? ⟨b, off + j * 2, none⟩ = some _ := hcl 0 _ rfl
     have q1 : wr.cell? ⟨b, off + j * 2 + 1, none⟩ = some _ := hcl 1 _ rfl
     clear hcl d0 hx
     clear hN
     replace HC := HC wr rr (Below.refl _ _) hr0 (by omega)
     by_cases hxr : (N : Int) ≤ rr
     ·
      simp only [szL_yes hxr] at HC
      have hx' : ¬ (rr - (N : Int) < 0) := by omega
      go_wp2_with fail
      refine HC.mono ?_
      rintro e w2 ⟨rfl, hb2⟩
      have hbw : Below w.heap.size w w2 := hbr.trans (hb2.mono hbr.size)
      clear q0 q1 HC hb2
      go_wp2_with fail
      go_roundw
      case rel => exact ⟨j + 1, by omega, by go_num, _, rfl, by omega, by omega, by show _ = _; have := hrr.out; rw [HN.out, this]; omega, hbw⟩
      case measure => simp [intOf]; omega
     ·
      simp only [szL_no hxr] at HC
      go_wp2_with fail
      refine HC.mono ?_
      rintro e w2 ⟨rfl, hb2⟩
      have hbw : Below w.heap.size w w2 := hbr.trans (hb2.mono hbr.size)
      clear q0 q1 HC hb2
      go_wp2_with fail
      go_ret
      have h1 := HN.out
      have h2 := HT.out
      have h3 := hrr.out
      rw [h1] at h2
      have hno : ¬ ((n + rowsLen rs : Nat) : Int) ≤ k := by omega
      exact ⟨ret_int (szL_no hno).symm, hbw⟩
    ·
     have : j = n := by omega
     subst this
     go_wp2_with fail
     go_ret
     refine ⟨?_, hbr⟩
     have h3 := hrr.out
     rw [List.take_of_length_le (by rw [Hd.out]; exact Nat.le_refl _)] at h3
     rw [szL_yes (by omega)]
     exact ret_int (by omega)
 ·
  rw [szL_no (by omega)]
  have h' : k - (n : Int) < 0 := by omega
  clear hl0 hat H hn
  go_enter Tryz.func21, Tryz.ntmps21
  go_wp2
  go_ret
  exact ⟨rfl, Below.refl _ _⟩

set_option maxHeartbeats 8000000 in
theorem szParamSF (l : List Pa) (H : ∀ x ∈ l, SzR 141 x.fl) : SzF 103 (.l 2 (l.map Pa.fl)) := by
 intro w0 v hv w k hb0 hk hk2
 obtain ⟨a, c, rfl, hl0⟩ := (hv.below hb0).list
 clear hv hb0
 have hm : (l.map Pa.fl).length = l.length := by simp [exs_map, sts_map, txts]
 have hat : ∀ j, j < l.length → ∃ x ∈ l, (l.map Pa.fl)[j]? = some (Pa.fl x) := by
  intro j hj
  exact ⟨l[j], List.getElem_mem hj, by simp [exs_map, sts_map, txts, hj]⟩
 generalize hrs : l.map Pa.fl = rs at hl0 hm hat ⊢
 clear hrs
 have hlen : (Fl.l 2 rs).len = rs.length + rowsLen rs := by simp [Fl.len]
 rw [hlen]
 clear hlen
 rw [← hm] at hat
 generalize hn : rs.length = n at hl0 hat ⊢
 clear hm
 have hcn : n ≤ 9223372036854775807 := by have h1 := hl0.cap; have h2 := hl0.most; unfold maxLen at h2; omega
 by_cases hnk : (n : Int) ≤ k
 ·
  have h' : ¬ (k - (n : Int) < 0) := by omega
  have Hd : Hid (rs.length = n) := hn
  have HL : Hid (LRow w a c 2 rs) := hl0
  have HA : Hid (∀ j, j < n → ∃ x ∈ l, rs[j]? = some (Pa.fl x)) := hat
  have HH : Hid (∀ x ∈ l, SzR 141 x.fl) := H
  clear hat H
  rcases Nat.eq_zero_or_pos n with h0 | hpos
  ·
   subst h0
   have e0 : rs = [] := List.eq_nil_of_length_eq_zero Hd.out
   subst e0
   rw [szL_yes (by simpa [rowsLen] using hk)]
   clear hl0 hn
   have h1 : ¬ (k < 0) := by omega
   go_enter Tryz.func103, Tryz.ntmps103
   go_wp2_with fail
   refine wp_loop_rounds 1 ?_
   rw [rounds_succ]
   go_wp2_with fail
   go_ret
   exact ⟨ret_int (by simp [rowsLen]), Below.refl _ _⟩
  ·
   obtain ⟨b, off, rfl⟩ := hl0.addr (by rw [hn]; exact hpos)
   clear hl0 hn
   go_enter Tryz.func103, Tryz.ntmps103
   go_wp2_with fail
   go_loopw [1, 5] (fun r i wr => ∃ j : Nat, j ≤ n ∧ i = .int .i64 j ∧ ∃ rr : Int, r = .int .i64 rr ∧ 0 ≤ rr ∧ rr ≤ k ∧ Hid (rr = k - (n : Int) - (rowsLen (rs.take j) : Int)) ∧ Below w.heap.size w wr) (fun _ i _ => n - (intOf i).toNat)
   case atStart => exact ⟨0, Nat.zero_le _, rfl, k - (n : Int), rfl, by omega, by omega, by show _ = _; simp [rowsLen], Below.refl _ _⟩
   case round =>
    obtain ⟨j, hj, rfl, rr, rfl, hr0, hrk, hrr, hbr⟩ := hrel
    by_cases hlt : j < n
    ·
     obtain ⟨x, hx, hxj⟩ := HA.out j hlt
     have HN : Hid _ := rowsLen_next hxj
     have HT : Hid _ := rowsLen_take rs (j + 1)
     obtain ⟨vs, hvs, hcl⟩ := ((show LRow w (some ⟨b, off, none⟩) c 2 rs from HL.out).below hbr |>.el hxj).vals
     have HC := HH.out x hx wr vs hvs
     clear hxj
     generalize hN : recLen x.fl = N at HC HN
     obtain ⟨x0, x1⟩ := x
     obtain ⟨y0, _, rfl, ⟨a0, c0, rfl, d0⟩, y1, _, rfl, rfl, rfl⟩ := hvs
     skip
     skip
     skip
     skip
     have q0 : wr.cell? ⟨b, off + j * 2, none⟩ = some _ := hcl 0 _ rfl
     have q1 : wr.cell? ⟨b, off + j * 2 + 1, none⟩ = some _ := hcl 1 _ rfl
     clear hcl d0 hx
     clear hN
     replace HC := HC wr rr (Below.refl _ _) hr0 (by omega)
     by_cases hxr : (N : Int) ≤ rr
     ·
      simp only [szL_yes hxr] at HC
      have hx' : ¬ (rr - (N : Int) < 0) := by omega
      go_wp2_with fail
      refine HC.mono ?_
      rintro e w2 ⟨rfl, hb2⟩
      have hbw : Below w.heap.size w w2 := hbr.trans (hb2.mono hbr.size)
      clear q0 q1 HC hb2
      go_wp2_with fail
      go_roundw
      case rel => exact ⟨j + 1, by omega, by go_num, _, rfl, by omega, by omega, by show _ = _; have := hrr.out; rw [HN.out, this]; omega, hbw⟩
      case measure => simp [intOf]; omega
     ·
      simp only [szL_no hxr] at HC
      go_wp2_with fail
      refine HC.mono ?_
      rintro e w2 ⟨rfl, hb2⟩
      have hbw : Below w.heap.size w w2 := hbr.trans (hb2.mono hbr.size)
      clear q0 q1 HC hb2
      go_wp2_with fail
      go_ret
      have h1 := HN.out
      have h2 := HT.out
      have h3 := hrr.out
      rw [h1] at h2
      have hno : ¬ ((n + rowsLen rs : Nat) : Int) ≤ k := by omega
      exact ⟨ret_int (szL_no hno).symm, hbw⟩
    ·
     have : j = n := by omega
     subst this
     go_wp2_with fail
     go_ret
     refine ⟨?_, hbr⟩
     have h3 := hrr.out
     rw [List.take_of_length_le (by rw [Hd.out]; exact Nat.le_refl _)] at h3
     rw [szL_yes (by omega)]
     exact ret_int (by omega)
 ·
  rw [szL_no (by omega)]
  have h' : k - (n : Int) < 0 := by omega
  clear hl0 hat H hn
  go_enter Tryz.func103, Tryz.ntmps103
  go_wp2
  go_ret
  exact ⟨rfl, Below.refl _ _⟩

set_option maxHeartbeats 8000000 in
theorem szExprSF (l : List Ex) (H : ∀ x ∈ l, SzR 200 x.fl) : SzF 178 (.l 5 (exs l)) := by
 intro w0 v hv w k hb0 hk hk2
 obtain ⟨a, c, rfl, hl0⟩ := (hv.below hb0).list
 clear hv hb0
 have hm : (exs l).length = l.length := by simp [exs_map, sts_map, txts]
 have hat : ∀ j, j < l.length → ∃ x ∈ l, (exs l)[j]? = some (Ex.fl x) := by
  intro j hj
  exact ⟨l[j], List.getElem_mem hj, by simp [exs_map, sts_map, txts, hj]⟩
 generalize hrs : exs l = rs at hl0 hm hat ⊢
 clear hrs
 have hlen : (Fl.l 5 rs).len = rs.length + rowsLen rs := by simp [Fl.len]
 rw [hlen]
 clear hlen
 rw [← hm] at hat
 generalize hn : rs.length = n at hl0 hat ⊢
 clear hm
 have hcn : n ≤ 9223372036854775807 := by have h1 := hl0.cap; have h2 := hl0.most; unfold maxLen at h2; omega
 by_cases hnk : (n : Int) ≤ k
 ·
  have h' : ¬ (k - (n : Int) < 0) := by omega
  have Hd : Hid (rs.length = n) := hn
  have HL : Hid (LRow w a c 5 rs) := hl0
  have HA : Hid (∀ j, j < n → ∃ x ∈ l, rs[j]? = some (Ex.fl x)) := hat
  have HH : Hid (∀ x ∈ l, SzR 200 x.fl) := H
  clear hat H
  rcases Nat.eq_zero_or_pos n with h0 | hpos
  ·
   subst h0
   have e0 : rs = [] := List.eq_nil_of_length_eq_zero Hd.out
   subst e0
   rw [szL_yes (by simpa [rowsLen] using hk)]
   clear hl0 hn
   have h1 : ¬ (k < 0) := by omega
   go_enter Tryz.func178, Tryz.ntmps178
   go_wp2_with fail
   refine wp_loop_rounds 1 ?_
   rw [rounds_succ]
   go_wp2_with fail
   go_ret
   exact ⟨ret_int (by simp [rowsLen]), Below.refl _ _⟩
  ·
   obtain ⟨b, off, rfl⟩ := hl0.addr (by rw [hn]; exact hpos)
   clear hl0 hn
   go_enter Tryz.func178, Tryz.ntmps178
   go_wp2_with fail
   go_loopw [1, 5] (fun r i wr => ∃ j : Nat, j ≤ n ∧ i = .int .i64 j ∧ ∃ rr : Int, r = .int .i64 rr ∧ 0 ≤ rr ∧ rr ≤ k ∧ Hid (rr = k - (n : Int) - (rowsLen (rs.take j) : Int)) ∧ Below w.heap.size w wr) (fun _ i _ => n - (intOf i).toNat)
   case atStart => exact ⟨0, Nat.zero_le _, rfl, k - (n : Int), rfl, by omega, by omega, by show _ = _; simp [rowsLen], Below.refl _ _⟩
   case round =>
    obtain ⟨j, hj, rfl, rr, rfl, hr0, hrk, hrr, hbr⟩ := hrel
    by_cases hlt : j < n
    ·
     obtain ⟨x, hx, hxj⟩ := HA.out j hlt
     have HN : Hid _ := rowsLen_next hxj
     have HT : Hid _ := rowsLen_take rs (j + 1)
     obtain ⟨vs, hvs, hcl⟩ := ((show LRow w (some ⟨b, off, none⟩) c 5 rs from HL.out).below hbr |>.el hxj).vals
     have HC := HH.out x hx wr vs hvs
     clear hxj
     generalize hN : recLen x.fl = N at HC HN
     obtain ⟨x0, x1, x2, x3, x4⟩ := x
     obtain ⟨y0, _, rfl, rfl, y1, _, rfl, rfl, y2, _, rfl, ⟨a2, c2, rfl, d2⟩, y3, _, rfl, ⟨a3, c3, rfl, d3⟩, y4, _, rfl, ⟨a4, c4, rfl, d4⟩, rfl⟩ := hvs
     skip
     skip
     skip
     skip
     have q0 : wr.cell? ⟨b, off + j * 5, none⟩ = some _ := hcl 0 _ rfl
     have q1 : wr.cell? ⟨b, off + j * 5 + 1, none⟩ = some _ := hcl 1 _ rfl
     have q2 : wr.cell? ⟨b, off + j * 5 + 2, none⟩ = some _ := hcl 2 _ rfl
     have q3 : wr.cell? ⟨b, off + j * 5 + 3, none⟩ = some _ := hcl 3 _ rfl
     have q4 : wr.cell? ⟨b, off + j * 5 + 4, none⟩ = some _ := hcl 4 _ rfl
     clear hcl d2 d3 d4 hx
     clear hN
     replace HC := HC wr rr (Below.refl _ _) hr0 (by omega)
     by_cases hxr : (N : Int) ≤ rr
     ·
      simp only [szL_yes hxr] at HC
      have hx' : ¬ (rr - (N : Int) < 0) := by omega
      go_wp2_with fail
      refine HC.mono ?_
      rintro e w2 ⟨rfl, hb2⟩
      have hbw : Below w.heap.size w w2 := hbr.trans (hb2.mono hbr.size)
      clear q0 q1 q2 q3 q4 HC hb2
      go_wp2_with fail
      go_roundw
      case rel => exact ⟨j + 1, by omega, by go_num, _, rfl, by omega, by omega, by show _ = _; have := hrr.out; rw [HN.out, this]; omega, hbw⟩
      case measure => simp [intOf]; omega
     ·
      simp only [szL_no hxr] at HC
      go_wp2_with fail
      refine HC.mono ?_
      rintro e w2 ⟨rfl, hb2⟩
      have hbw : Below w.heap.size w w2 := hbr.trans (hb2.mono hbr.size)
      clear q0 q1 q2 q3 q4 HC hb2
      go_wp2_with fail
      go_ret
      have h1 := HN.out
      have h2 := HT.out
      have h3 := hrr.out
      rw [h1] at h2
      have hno : ¬ ((n + rowsLen rs : Nat) : Int) ≤ k := by omega
      exact ⟨ret_int (szL_no hno).symm, hbw⟩
    ·
     have : j = n := by omega
     subst this
     go_wp2_with fail
     go_ret
     refine ⟨?_, hbr⟩
     have h3 := hrr.out
     rw [List.take_of_length_le (by rw [Hd.out]; exact Nat.le_refl _)] at h3
     rw [szL_yes (by omega)]
     exact ret_int (by omega)
 ·
  rw [szL_no (by omega)]
  have h' : k - (n : Int) < 0 := by omega
  clear hl0 hat H hn
  go_enter Tryz.func178, Tryz.ntmps178
  go_wp2
  go_ret
  exact ⟨rfl, Below.refl _ _⟩

set_option maxHeartbeats 8000000 in
theorem szStmtSF (l : List St) (H : ∀ x ∈ l, SzR 142 x.fl) : SzF 104 (.l 6 (sts l)) := by
 intro w0 v hv w k hb0 hk hk2
 obtain ⟨a, c, rfl, hl0⟩ := (hv.below hb0).list
 clear hv hb0
 have hm : (sts l).length = l.length := by simp [exs_map, sts_map, txts]
 have hat : ∀ j, j < l.length → ∃ x ∈ l, (sts l)[j]? = some (St.fl x) := by
  intro j hj
  exact ⟨l[j], List.getElem_mem hj, by simp [exs_map, sts_map, txts, hj]⟩
 generalize hrs : sts l = rs at hl0 hm hat ⊢
 clear hrs
 have hlen : (Fl.l 6 rs).len = rs.length + rowsLen rs := by simp [Fl.len]
 rw [hlen]
 clear hlen
 rw [← hm] at hat
 generalize hn : rs.length = n at hl0 hat ⊢
 clear hm
 have hcn : n ≤ 9223372036854775807 := by have h1 := hl0.cap; have h2 := hl0.most; unfold maxLen at h2; omega
 by_cases hnk : (n : Int) ≤ k
 ·
  have h' : ¬ (k - (n : Int) < 0) := by omega
  have Hd : Hid (rs.length = n) := hn
  have HL : Hid (LRow w a c 6 rs) := hl0
  have HA : Hid (∀ j, j < n → ∃ x ∈ l, rs[j]? = some (St.fl x)) := hat
  have HH : Hid (∀ x ∈ l, SzR 142 x.fl) := H
  clear hat H
  rcases Nat.eq_zero_or_pos n with h0 | hpos
  ·
   subst h0
   have e0 : rs = [] := List.eq_nil_of_length_eq_zero Hd.out
   subst e0
   rw [szL_yes (by simpa [rowsLen] using hk)]
   clear hl0 hn
   have h1 : ¬ (k < 0) := by omega
   go_enter Tryz.func104, Tryz.ntmps104
   go_wp2_with fail
   refine wp_loop_rounds 1 ?_
   rw [rounds_succ]
   go_wp2_with fail
   go_ret
   exact ⟨ret_int (by simp [rowsLen]), Below.refl _ _⟩
  ·
   obtain ⟨b, off, rfl⟩ := hl0.addr (by rw [hn]; exact hpos)
   clear hl0 hn
   go_enter Tryz.func104, Tryz.ntmps104
   go_wp2_with fail
   go_loopw [1, 5] (fun r i wr => ∃ j : Nat, j ≤ n ∧ i = .int .i64 j ∧ ∃ rr : Int, r = .int .i64 rr ∧ 0 ≤ rr ∧ rr ≤ k ∧ Hid (rr = k - (n : Int) - (rowsLen (rs.take j) : Int)) ∧ Below w.heap.size w wr) (fun _ i _ => n - (intOf i).toNat)
   case atStart => exact ⟨0, Nat.zero_le _, rfl, k - (n : Int), rfl, by omega, by omega, by show _ = _; simp [rowsLen], Below.refl _ _⟩
   case round =>
    obtain ⟨j, hj, rfl, rr, rfl, hr0, hrk, hrr, hbr⟩ := hrel
    by_cases hlt : j < n
    ·
     obtain ⟨x, hx, hxj⟩ := HA.out j hlt
     have HN : Hid _ := rowsLen_next hxj
     have HT : Hid _ := rowsLen_take rs (j + 1)
     obtain ⟨vs, hvs, hcl⟩ := ((show LRow w (some ⟨b, off, none⟩) c 6 rs from HL.out).below hbr |>.el hxj).vals
     have HC := HH.out x hx wr vs hvs
     clear hxj
     generalize hN : recLen x.fl = N at HC HN
     obtain ⟨x0, x1, x2, x3, x4, x5⟩ := x
     obtain ⟨y0, _, rfl, rfl, y1, _, rfl, rfl, y2, _, rfl, ⟨a2, c2, rfl, d2⟩, y3, _, rfl, ⟨a3, c3, rfl, d3⟩, y4, _, rfl, ⟨a4, c4, rfl, d4⟩, y5, _, rfl, ⟨a5, c5, rfl, d5⟩, rfl⟩ := hvs
     skip
     skip
     skip
     skip
     have q0 : wr.cell? ⟨b, off + j * 6, none⟩ = some _ := hcl 0 _ rfl
     have q1 : wr.cell? ⟨b, off + j * 6 + 1, none⟩ = some _ := hcl 1 _ rfl
     have q2 : wr.cell? ⟨b, off + j * 6 + 2, none⟩ = some _ := hcl 2 _ rfl
     have q3 : wr.cell? ⟨b, off + j * 6 + 3, none⟩ = some _ := hcl 3 _ rfl
     have q4 : wr.cell? ⟨b, off + j * 6 + 4, none⟩ = some _ := hcl 4 _ rfl
     have q5 : wr.cell? ⟨b, off + j * 6 + 5, none⟩ = some _ := hcl 5 _ rfl
     clear hcl d2 d3 d4 d5 hx
     clear hN
     replace HC := HC wr rr (Below.refl _ _) hr0 (by omega)
     by_cases hxr : (N : Int) ≤ rr
     ·
      simp only [szL_yes hxr] at HC
      have hx' : ¬ (rr - (N : Int) < 0) := by omega
      go_wp2_with fail
      refine HC.mono ?_
      rintro e w2 ⟨rfl, hb2⟩
      have hbw : Below w.heap.size w w2 := hbr.trans (hb2.mono hbr.size)
      clear q0 q1 q2 q3 q4 q5 HC hb2
      go_wp2_with fail
      go_roundw
      case rel => exact ⟨j + 1, by omega, by go_num, _, rfl, by omega, by omega, by show _ = _; have := hrr.out; rw [HN.out, this]; omega, hbw⟩
      case measure => simp [intOf]; omega
     ·
      simp only [szL_no hxr] at HC
      go_wp2_with fail
      refine HC.mono ?_
      rintro e w2 ⟨rfl, hb2⟩
      have hbw : Below w.heap.size w w2 := hbr.trans (hb2.mono hbr.size)
      clear q0 q1 q2 q3 q4 q5 HC hb2
      go_wp2_with fail
      go_ret
      have h1 := HN.out
      have h2 := HT.out
      have h3 := hrr.out
      rw [h1] at h2
      have hno : ¬ ((n + rowsLen rs : Nat) : Int) ≤ k := by omega
      exact ⟨ret_int (szL_no hno).symm, hbw⟩
    ·
     have : j = n := by omega
     subst this
     go_wp2_with fail
     go_ret
     refine ⟨?_, hbr⟩
     have h3 := hrr.out
     rw [List.take_of_length_le (by rw [Hd.out]; exact Nat.le_refl _)] at h3
     rw [szL_yes (by omega)]
     exact ret_int (by omega)
 ·
  rw [szL_no (by omega)]
  have h' : k - (n : Int) < 0 := by omega
  clear hl0 hat H hn
  go_enter Tryz.func104, Tryz.ntmps104
  go_wp2
  go_ret
  exact ⟨rfl, Below.refl _ _⟩

set_option maxHeartbeats 8000000 in
theorem szProcSF (l : List Pr) (H : ∀ x ∈ l, SzR 59 x.fl) : SzF 22 (.l 5 (l.map Pr.fl)) := by
 intro w0 v hv w k hb0 hk hk2
 obtain ⟨a, c, rfl, hl0⟩ := (hv.below hb0).list
 clear hv hb0
 have hm : (l.map Pr.fl).length = l.length := by simp [exs_map, sts_map, txts]
 have hat : ∀ j, j < l.length → ∃ x ∈ l, (l.map Pr.fl)[j]? = some (Pr.fl x) := by
  intro j hj
  exact ⟨l[j], List.getElem_mem hj, by simp [exs_map, sts_map, txts, hj]⟩
 generalize hrs : l.map Pr.fl = rs at hl0 hm hat ⊢
 clear hrs
 have hlen : (Fl.l 5 rs).len = rs.length + rowsLen rs := by simp [Fl.len]
 rw [hlen]
 clear hlen
 rw [← hm] at hat
 generalize hn : rs.length = n at hl0 hat ⊢
 clear hm
 have hcn : n ≤ 9223372036854775807 := by have h1 := hl0.cap; have h2 := hl0.most; unfold maxLen at h2; omega
 by_cases hnk : (n : Int) ≤ k
 ·
  have h' : ¬ (k - (n : Int) < 0) := by omega
  have Hd : Hid (rs.length = n) := hn
  have HL : Hid (LRow w a c 5 rs) := hl0
  have HA : Hid (∀ j, j < n → ∃ x ∈ l, rs[j]? = some (Pr.fl x)) := hat
  have HH : Hid (∀ x ∈ l, SzR 59 x.fl) := H
  clear hat H
  rcases Nat.eq_zero_or_pos n with h0 | hpos
  ·
   subst h0
   have e0 : rs = [] := List.eq_nil_of_length_eq_zero Hd.out
   subst e0
   rw [szL_yes (by simpa [rowsLen] using hk)]
   clear hl0 hn
   have h1 : ¬ (k < 0) := by omega
   go_enter Tryz.func22, Tryz.ntmps22
   go_wp2_with fail
   refine wp_loop_rounds 1 ?_
   rw [rounds_succ]
   go_wp2_with fail
   go_ret
   exact ⟨ret_int (by simp [rowsLen]), Below.refl _ _⟩
  ·
   obtain ⟨b, off, rfl⟩ := hl0.addr (by rw [hn]; exact hpos)
   clear hl0 hn
   go_enter Tryz.func22, Tryz.ntmps22
   go_wp2_with fail
   go_loopw [1, 5] (fun r i wr => ∃ j : Nat, j ≤ n ∧ i = .int .i64 j ∧ ∃ rr : Int, r = .int .i64 rr ∧ 0 ≤ rr ∧ rr ≤ k ∧ Hid (rr = k - (n : Int) - (rowsLen (rs.take j) : Int)) ∧ Below w.heap.size w wr) (fun _ i _ => n - (intOf i).toNat)
   case atStart => exact ⟨0, Nat.zero_le _, rfl, k - (n : Int), rfl, by omega, by omega, by show _ = _; simp [rowsLen], Below.refl _ _⟩
   case round =>
    obtain ⟨j, hj, rfl, rr, rfl, hr0, hrk, hrr, hbr⟩ := hrel
    by_cases hlt : j < n
    ·
     obtain ⟨x, hx, hxj⟩ := HA.out j hlt
     have HN : Hid _ := rowsLen_next hxj
     have HT : Hid _ := rowsLen_take rs (j + 1)
     obtain ⟨vs, hvs, hcl⟩ := ((show LRow w (some ⟨b, off, none⟩) c 5 rs from HL.out).below hbr |>.el hxj).vals
     have HC := HH.out x hx wr vs hvs
     clear hxj
     generalize hN : recLen x.fl = N at HC HN
     obtain ⟨x0, x1, x2, x3, x4⟩ := x
     obtain ⟨y0, _, rfl, ⟨a0, c0, rfl, d0⟩, y1, _, rfl, rfl, y2, _, rfl, ⟨a2, c2, rfl, d2⟩, y3, _, rfl, ⟨a3, c3, rfl, d3⟩, y4, _, rfl, ⟨a4, c4, rfl, d4⟩, rfl⟩ := hvs
     skip
     skip
     skip
     generalize (List.map Pa.fl x2).length = m2 at HC hcl; generalize (txts x3).length = m3 at HC hcl; generalize (sts x4).length = m4 at HC hcl
     have q0 : wr.cell? ⟨b, off + j * 5, none⟩ = some _ := hcl 0 _ rfl
     have q1 : wr.cell? ⟨b, off + j * 5 + 1, none⟩ = some _ := hcl 1 _ rfl
     have q2 : wr.cell? ⟨b, off + j * 5 + 2, none⟩ = some _ := hcl 2 _ rfl
     have q3 : wr.cell? ⟨b, off + j * 5 + 3, none⟩ = some _ := hcl 3 _ rfl
     have q4 : wr.cell? ⟨b, off + j * 5 + 4, none⟩ = some _ := hcl 4 _ rfl
     clear hcl d0 d2 d3 d4 hx
     clear hN
     replace HC := HC wr rr (Below.refl _ _) hr0 (by omega)
     by_cases hxr : (N : Int) ≤ rr
     ·
      simp only [szL_yes hxr] at HC
      have hx' : ¬ (rr - (N : Int) < 0) := by omega
      go_wp2_with fail
      refine HC.mono ?_
      rintro e w2 ⟨rfl, hb2⟩
      have hbw : Below w.heap.size w w2 := hbr.trans (hb2.mono hbr.size)
      clear q0 q1 q2 q3 q4 HC hb2
      go_wp2_with fail
      go_roundw
      case rel => exact ⟨j + 1, by omega, by go_num, _, rfl, by omega, by omega, by show _ = _; have := hrr.out; rw [HN.out, this]; omega, hbw⟩
      case measure => simp [intOf]; omega
     ·
      simp only [szL_no hxr] at HC
      go_wp2_with fail
      refine HC.mono ?_
      rintro e w2 ⟨rfl, hb2⟩
      have hbw : Below w.heap.size w w2 := hbr.trans (hb2.mono hbr.size)
      clear q0 q1 q2 q3 q4 HC hb2
      go_wp2_with fail
      go_ret
      have h1 := HN.out
      have h2 := HT.out
      have h3 := hrr.out
      rw [h1] at h2
      have hno : ¬ ((n + rowsLen rs : Nat) : Int) ≤ k := by omega
      exact ⟨ret_int (szL_no hno).symm, hbw⟩
    ·
     have : j = n := by omega
     subst this
     go_wp2_with fail
     go_ret
     refine ⟨?_, hbr⟩
     have h3 := hrr.out
     rw [List.take_of_length_le (by rw [Hd.out]; exact Nat.le_refl _)] at h3
     rw [szL_yes (by omega)]
     exact ret_int (by omega)
 ·
  rw [szL_no (by omega)]
  have h' : k - (n : Int) < 0 := by omega
  clear hl0 hat H hn
  go_enter Tryz.func22, Tryz.ntmps22
  go_wp2
  go_ret
  exact ⟨rfl, Below.refl _ _⟩

set_option maxHeartbeats 8000000 in
theorem szByteSSF (l : List (List Int))  : SzF 20 (.l 1 (txts l)) := by
 intro w0 v hv w k hb0 hk hk2
 obtain ⟨a, c, rfl, hl0⟩ := (hv.below hb0).list
 clear hv hb0
 have hm : (txts l).length = l.length := by simp [exs_map, sts_map, txts]
 have hat : ∀ j, j < l.length → ∃ x ∈ l, (txts l)[j]? = some [.b x] := by
  intro j hj
  exact ⟨l[j], List.getElem_mem hj, by simp [exs_map, sts_map, txts, hj]⟩
 generalize hrs : txts l = rs at hl0 hm hat ⊢
 clear hrs
 have hlen : (Fl.l 1 rs).len = rs.length + rowsLen rs := by simp [Fl.len]
 rw [hlen]
 clear hlen
 rw [← hm] at hat
 generalize hn : rs.length = n at hl0 hat ⊢
 clear hm
 have hcn : n ≤ 9223372036854775807 := by have h1 := hl0.cap; have h2 := hl0.most; unfold maxLen at h2; omega
 by_cases hnk : (n : Int) ≤ k
 ·
  have h' : ¬ (k - (n : Int) < 0) := by omega
  have Hd : Hid (rs.length = n) := hn
  have HL : Hid (LRow w a c 1 rs) := hl0
  have HA : Hid (∀ j, j < n → ∃ x ∈ l, rs[j]? = some [.b x]) := hat
  skip
  clear hat 
  rcases Nat.eq_zero_or_pos n with h0 | hpos
  ·
   subst h0
   have e0 : rs = [] := List.eq_nil_of_length_eq_zero Hd.out
   subst e0
   rw [szL_yes (by simpa [rowsLen] using hk)]
   clear hl0 hn
   have h1 : ¬ (k < 0) := by omega
   go_enter Tryz.func20, Tryz.ntmps20
   go_wp2_with fail
   refine wp_loop_rounds 1 ?_
   rw [rounds_succ]
   go_wp2_with fail
   go_ret
   exact ⟨ret_int (by simp [rowsLen]), Below.refl _ _⟩
  ·
   obtain ⟨b, off, rfl⟩ := hl0.addr (by rw [hn]; exact hpos)
   clear hl0 hn
   go_enter Tryz.func20, Tryz.ntmps20
   go_wp2_with fail
   go_loopw [1, 5] (fun r i wr => ∃ j : Nat, j ≤ n ∧ i = .int .i64 j ∧ ∃ rr : Int, r = .int .i64 rr ∧ 0 ≤ rr ∧ rr ≤ k ∧ Hid (rr = k - (n : Int) - (rowsLen (rs.take j) : Int)) ∧ Below w.heap.size w wr) (fun _ i _ => n - (intOf i).toNat)
   case atStart => exact ⟨0, Nat.zero_le _, rfl, k - (n : Int), rfl, by omega, by omega, by show _ = _; simp [rowsLen], Below.refl _ _⟩
   case round =>
    obtain ⟨j, hj, rfl, rr, rfl, hr0, hrk, hrr, hbr⟩ := hrel
    by_cases hlt : j < n
    ·
     obtain ⟨x, hx, hxj⟩ := HA.out j hlt
     have HN : Hid _ := rowsLen_next hxj
     have HT : Hid _ := rowsLen_take rs (j + 1)
     obtain ⟨vs, hvs, hcl⟩ := ((show LRow w (some ⟨b, off, none⟩) c 1 rs from HL.out).below hbr |>.el hxj).vals
     have HC : ∃ y0, vs = [y0] ∧ SzV wr 19 y0 (recLen [.b x]) := by
      obtain ⟨y0, _, rfl, h, rfl⟩ := hvs
      exact ⟨y0, rfl, by simpa [recLen] using szByteF x wr y0 h⟩
     obtain ⟨y, hy, HC⟩ := HC
     subst hy
     clear hxj
     generalize hN : recLen [.b x] = N at HC HN
     skip
     obtain ⟨y0, us0, hys, ⟨a0, c0, e0, d0⟩, hus⟩ := hvs
     simp only [List.cons.injEq] at hys
     obtain ⟨rfl, rfl⟩ := hys
     subst e0
     skip
     have q0 : wr.cell? ⟨b, off + j, none⟩ = some (.slice a0 x.length c0) := by simpa using hcl 0 _ rfl
     clear hcl d0 hx
     clear hN
     replace HC := HC wr rr (Below.refl _ _) hr0 (by omega)
     by_cases hxr : (N : Int) ≤ rr
     ·
      simp only [szL_yes hxr] at HC
      have hx' : ¬ (rr - (N : Int) < 0) := by omega
      go_wp2_with fail
      refine HC.mono ?_
      rintro e w2 ⟨rfl, hb2⟩
      have hbw : Below w.heap.size w w2 := hbr.trans (hb2.mono hbr.size)
      clear q0 HC hb2
      go_wp2_with fail
      go_roundw
      case rel => exact ⟨j + 1, by omega, by go_num, _, rfl, by omega, by omega, by show _ = _; have := hrr.out; rw [HN.out, this]; omega, hbw⟩
      case measure => simp [intOf]; omega
     ·
      simp only [szL_no hxr] at HC
      go_wp2_with fail
      refine HC.mono ?_
      rintro e w2 ⟨rfl, hb2⟩
      have hbw : Below w.heap.size w w2 := hbr.trans (hb2.mono hbr.size)
      clear q0 HC hb2
      go_wp2_with fail
      go_ret
      have h1 := HN.out
      have h2 := HT.out
      have h3 := hrr.out
      rw [h1] at h2
      have hno : ¬ ((n + rowsLen rs : Nat) : Int) ≤ k := by omega
      exact ⟨ret_int (szL_no hno).symm, hbw⟩
    ·
     have : j = n := by omega
     subst this
     go_wp2_with fail
     go_ret
     refine ⟨?_, hbr⟩
     have h3 := hrr.out
     rw [List.take_of_length_le (by rw [Hd.out]; exact Nat.le_refl _)] at h3
     rw [szL_yes (by omega)]
     exact ret_int (by omega)
 ·
  rw [szL_no (by omega)]
  have h' : k - (n : Int) < 0 := by omega
  clear hl0 hat  hn
  go_enter Tryz.func20, Tryz.ntmps20
  go_wp2
  go_ret
  exact ⟨rfl, Below.refl _ _⟩

theorem SzV.on {w w1 : World} {F N : Nat} {v : Value} (h : SzV w F v N) (hb : Below w.heap.size w w1) : SzV w1 F v N :=
 fun w2 k hb2 hk hk2 => h w2 k (hb.trans (hb2.mono hb.size)) hk hk2

theorem szVarR (x0 : List Int) (x1 : Int)  : SzR 58 (Va.mk x0 x1).fl := by
 intro w vs hv w1 k hb hk hk2
 obtain ⟨y0, _, rfl, h0, y1, _, rfl, rfl, rfl⟩ := hv
 have g0 := (szByteF x0 w _ h0).on hb
 obtain ⟨a0, c0, rfl, _⟩ := h0
 have e : recLen (Va.mk x0 x1).fl = (.b x0 : Fl).len := by simp [Va.fl, recLen, Fl.len]
 rw [e]
 exact szVar0 a0 _ c0 x1 _ k w1 hk hk2 g0

theorem szParamR (x0 : List Int) (x1 : Bool)  : SzR 141 (Pa.mk x0 x1).fl := by
 intro w vs hv w1 k hb hk hk2
 obtain ⟨y0, _, rfl, h0, y1, _, rfl, rfl, rfl⟩ := hv
 have g0 := (szByteF x0 w _ h0).on hb
 obtain ⟨a0, c0, rfl, _⟩ := h0
 have e : recLen (Pa.mk x0 x1).fl = (.b x0 : Fl).len := by simp [Pa.fl, recLen, Fl.len]
 rw [e]
 exact szParam0 a0 _ c0 x1 _ k w1 hk hk2 g0

theorem szExprR (x0 : Int) (x1 : Int) (x2 : List Int) (x3 : List Int) (x4 : List Ex) (S4 : SzF 178 (.l 5 (exs x4))) : SzR 200 (Ex.mk x0 x1 x2 x3 x4).fl := by
 intro w vs hv w1 k hb hk hk2
 unfold Ex.fl at hv
 obtain ⟨y0, _, rfl, rfl, y1, _, rfl, rfl, y2, _, rfl, h2, y3, _, rfl, h3, y4, _, rfl, h4, rfl⟩ := hv
 have g2 := (szByteF x2 w _ h2).on hb
 have g3 := (szByteF x3 w _ h3).on hb
 have g4 := (S4 w _ h4).on hb
 obtain ⟨a2, c2, rfl, _⟩ := h2
 obtain ⟨a3, c3, rfl, _⟩ := h3
 obtain ⟨a4, c4, rfl, _⟩ := h4
 have e : recLen (Ex.mk x0 x1 x2 x3 x4).fl = (.b x2 : Fl).len + (.b x3 : Fl).len + (.l 5 (exs x4) : Fl).len := by simp [Ex.fl, recLen, Fl.len] <;> omega
 rw [e]
 exact szExpr0 x0 x1 a2 _ c2 a3 _ c3 a4 _ c4 _ _ _ k w1 hk hk2 g2 g3 g4

theorem szStmtR (x0 : Int) (x1 : Int) (x2 : List Int) (x3 : List Ex) (x4 : List St) (x5 : List St) (S3 : SzF 178 (.l 5 (exs x3))) (S4 : SzF 104 (.l 6 (sts x4))) (S5 : SzF 104 (.l 6 (sts x5))) : SzR 142 (St.mk x0 x1 x2 x3 x4 x5).fl := by
 intro w vs hv w1 k hb hk hk2
 unfold St.fl at hv
 obtain ⟨y0, _, rfl, rfl, y1, _, rfl, rfl, y2, _, rfl, h2, y3, _, rfl, h3, y4, _, rfl, h4, y5, _, rfl, h5, rfl⟩ := hv
 have g2 := (szByteF x2 w _ h2).on hb
 have g3 := (S3 w _ h3).on hb
 have g4 := (S4 w _ h4).on hb
 have g5 := (S5 w _ h5).on hb
 obtain ⟨a2, c2, rfl, _⟩ := h2
 obtain ⟨a3, c3, rfl, _⟩ := h3
 obtain ⟨a4, c4, rfl, _⟩ := h4
 obtain ⟨a5, c5, rfl, _⟩ := h5
 have e : recLen (St.mk x0 x1 x2 x3 x4 x5).fl = (.b x2 : Fl).len + (.l 5 (exs x3) : Fl).len + (.l 6 (sts x4) : Fl).len + (.l 6 (sts x5) : Fl).len := by simp [St.fl, recLen, Fl.len] <;> omega
 rw [e]
 exact szStmt0 x0 x1 a2 _ c2 a3 _ c3 a4 _ c4 a5 _ c5 _ _ _ _ k w1 hk hk2 g2 g3 g4 g5

theorem szProcR (x0 : List Int) (x1 : Bool) (x2 : List Pa) (x3 : List (List Int)) (x4 : List St) (S2 : SzF 103 (.l 2 (x2.map Pa.fl))) (S3 : SzF 20 (.l 1 (txts x3))) (S4 : SzF 104 (.l 6 (sts x4))) : SzR 59 (Pr.mk x0 x1 x2 x3 x4).fl := by
 intro w vs hv w1 k hb hk hk2
 obtain ⟨y0, _, rfl, h0, y1, _, rfl, rfl, y2, _, rfl, h2, y3, _, rfl, h3, y4, _, rfl, h4, rfl⟩ := hv
 have g0 := (szByteF x0 w _ h0).on hb
 have g2 := (S2 w _ h2).on hb
 have g3 := (S3 w _ h3).on hb
 have g4 := (S4 w _ h4).on hb
 obtain ⟨a0, c0, rfl, _⟩ := h0
 obtain ⟨a2, c2, rfl, _⟩ := h2
 obtain ⟨a3, c3, rfl, _⟩ := h3
 obtain ⟨a4, c4, rfl, _⟩ := h4
 have e : recLen (Pr.mk x0 x1 x2 x3 x4).fl = (.b x0 : Fl).len + (.l 2 (x2.map Pa.fl) : Fl).len + (.l 1 (txts x3) : Fl).len + (.l 6 (sts x4) : Fl).len := by simp [Pr.fl, recLen, Fl.len] <;> omega
 rw [e]
 exact szProc0 a0 _ c0 x1 a2 _ c2 a3 _ c3 a4 _ c4 _ _ _ _ k w1 hk hk2 g0 g2 g3 g4

theorem szModuleR (x0 : List Int) (x1 : List (List Int)) (x2 : List Va) (x3 : List Pr) (S1 : SzF 20 (.l 1 (txts x1))) (S2 : SzF 21 (.l 2 (x2.map Va.fl))) (S3 : SzF 22 (.l 5 (x3.map Pr.fl))) : SzR 5 (Mo.mk x0 x1 x2 x3).fl := by
 intro w vs hv w1 k hb hk hk2
 obtain ⟨y0, _, rfl, h0, y1, _, rfl, h1, y2, _, rfl, h2, y3, _, rfl, h3, rfl⟩ := hv
 have g0 := (szByteF x0 w _ h0).on hb
 have g1 := (S1 w _ h1).on hb
 have g2 := (S2 w _ h2).on hb
 have g3 := (S3 w _ h3).on hb
 obtain ⟨a0, c0, rfl, _⟩ := h0
 obtain ⟨a1, c1, rfl, _⟩ := h1
 obtain ⟨a2, c2, rfl, _⟩ := h2
 obtain ⟨a3, c3, rfl, _⟩ := h3
 have e : recLen (Mo.mk x0 x1 x2 x3).fl = (.b x0 : Fl).len + (.l 1 (txts x1) : Fl).len + (.l 2 (x2.map Va.fl) : Fl).len + (.l 5 (x3.map Pr.fl) : Fl).len := by simp [Mo.fl, recLen, Fl.len] <;> omega
 rw [e]
 exact szModule0 a0 _ c0 a1 _ c1 a2 _ c2 a3 _ c3 _ _ _ _ k w1 hk hk2 g0 g1 g2 g3

mutual
theorem szEx : ∀ e : Ex, SzR 200 e.fl
 | .mk k n m a ks => szExprR k n m a ks (szExprSF ks (szExs ks))
theorem szExs : ∀ (l : List Ex), ∀ e ∈ l, SzR 200 e.fl
 | [], e, h => by simp at h
 | x :: l, e, h => by
  rcases List.mem_cons.1 h with h | h
  ·
   rw [h]; exact szEx x
  ·
   exact szExs l e h
end
mutual
theorem szSt : ∀ e : St, SzR 142 e.fl
 | .mk k n a ks bs es => szStmtR k n a ks bs es (szExprSF ks (szExs ks)) (szStmtSF bs (szSts bs)) (szStmtSF es (szSts es))
theorem szSts : ∀ (l : List St), ∀ e ∈ l, SzR 142 e.fl
 | [], e, h => by simp at h
 | x :: l, e, h => by
  rcases List.mem_cons.1 h with h | h
  ·
   rw [h]; exact szSt x
  ·
   exact szSts l e h
end
theorem szMo (m : Mo) : SzR 5 m.fl :=
 szModuleR m.name m.uses m.vars m.procs (szByteSSF m.uses) (szVarSF m.vars fun v _ => szVarR v.name v.size)
  (szProcSF m.procs fun q _ => szProcR q.name q.opn q.params q.locals q.body (szParamSF q.params fun v _ => szParamR v.name v.arr) (szByteSSF q.locals) (szStmtSF q.body (szSts q.body)))

end Go.Proofs.YtopnodadggohiaaGreatDoor

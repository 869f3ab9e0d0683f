/- Contracts of the laws' own helpers that count how large a module is. By mktreesz.py. -/
import Derived.Test.YtefciaeajlgheaaTree
import Derived.Deep.Cut
import Derived.Deep.CutRange
namespace Go.Proofs.Ytefciaeajlgheaa
open Go.RowKit
set_option linter.unusedVariables false
set_option linter.unusedSimpArgs false
set_option maxRecDepth 100000

theorem szByteM (a : Option Addr) (n c : Nat) (k : Int) (w : World) (hk : 0 ≤ k) (hk2 : k ≤ 1048576) (hn : n ≤ 9223372036854775807) :
    Calls Try.prog 39 #[.slice a n c, .int .i64 k] w fun e w' => e = .returned (.int .i64 (szL k n)) ∧ w' = w := by
  by_cases h : (n : Int) ≤ k
  · rw [szL_yes h]
    have h' : ¬ (k - (n : Int) < 0) := by omega
    go_enter Try.func39, Try.ntmps39
    go_wp2
    go_ret
    exact ⟨rfl, rfl⟩
  · rw [szL_no h]
    have h' : k - (n : Int) < 0 := by omega
    go_enter Try.func39, Try.ntmps39
    go_wp2
    go_ret
    exact ⟨rfl, rfl⟩

/-- Whatever is left, the helper F counts N for this value, in w and behind it. -/
def SzV (w : World) (F : Nat) (v : Value) (N : Nat) : Prop :=
  ∀ (w1 : World) (k : Int), Below w.heap.size w w1 → 0 ≤ k → k ≤ 1048576 → Calls Try.prog F #[v, .int .i64 k] w1 fun e w' => e = .returned (.int .i64 (szL k N)) ∧ Below w1.heap.size w1 w'

def SzF (F : Nat) (f : Fl) : Prop := ∀ (w : World) (v : Value), f.Rd w v → SzV w F v f.len
def SzR (F : Nat) (r : List Fl) : Prop := ∀ (w : World) (vs : List Value), RdVals w r vs → SzV w F (.agg vs.toArray) (recLen r)

theorem szByteF (l : List Int) : SzF 39 (.b l) := by
  rintro w v ⟨a, c, rfl, _, h1, h2, _⟩ w1 k hb hk hk2
  unfold maxLen at h2
  refine (szByteM a l.length c k w1 hk hk2 (by omega)).mono ?_
  rintro e w' ⟨rfl, rfl⟩
  exact ⟨rfl, Below.refl _ _⟩

/-- Cells of a block that stays. -/
theorem cell_on {w w' : World} {g i : Nat} {v : Value} (h : w.cell? ⟨g, i, none⟩ = some v) (hb : Below w.heap.size w w') : w'.cell? ⟨g, i, none⟩ = some v := by
  rw [hb.cell (World.block_lt_of_cell? w _ h)]; exact h
theorem cell_new (w : World) (t : TypeId) (vs : Array Value) (i : Nat) (v : Value) (h : vs[i]? = some v) : (w.alloc (.cells vs t (0, 0))).cell? ⟨w.heap.size, i, none⟩ = some v := by
  rw [cell_of_row _ w.heap.size i vs t (0, 0) (heap_alloc_new w _)]; exact h

theorem RdRec.vals {w : World} {b : Nat} {r : List Fl} : ∀ {off : Nat}, RdRec w b off r → ∃ vs, RdVals w r vs ∧ ∀ i v, vs[i]? = some v → w.cell? ⟨b, off + i, none⟩ = some v := by
  induction r with
  | nil => intro off _; exact ⟨[], rfl, by simp⟩
  | cons f r ih =>
    intro off h
    obtain ⟨⟨v, hc, hv⟩, h2⟩ := h
    obtain ⟨vs, h3, h4⟩ := ih h2
    refine ⟨v :: vs, ⟨v, vs, rfl, hv, h3⟩, fun i u hu => ?_⟩
    cases i with
    | zero => simp only [List.getElem?_cons_zero, Option.some.injEq] at hu; subst hu; exact hc
    | succ i =>
      rw [List.getElem?_cons_succ] at hu
      have := h4 i u hu
      rw [show off + (i + 1) = off + 1 + i by omega]; exact this

set_option maxHeartbeats 4000000 in
theorem szExport0 (a0 : Option Addr) (n0 c0 : Nat) (p1 : Int) (p2 : Int) (N0 : Nat) (k : Int) (w : World) (hk : 0 ≤ k) (hk2 : k ≤ 1048576)
    (H0 : SzV w 39 (.slice a0 n0 c0) N0) :
    Calls Try.prog 69 #[.agg #[.slice a0 n0 c0, .int .i64 p1, .int .i64 p2], .int .i64 k] w fun e w' => e = .returned (.int .i64 (szL k (N0))) ∧ Below w.heap.size w w' := by
  have hB : Below w.heap.size w (w.alloc (.cells #[.slice a0 n0 c0, .int .i64 p1, .int .i64 p2] 103 (0, 0))) := (Below.refl _ _).alloc (Nat.le_refl _) _
  have q0 := cell_new w 103 #[.slice a0 n0 c0, .int .i64 p1, .int .i64 p2] 0 _ rfl
  by_cases e0 : (N0 : Int) ≤ k
  · have g0 : ¬ (k - (N0 : Int) < 0) := by omega
    have G0 := H0 _ (k) hB hk hk2
    simp only [szL_yes (show (N0 : Int) ≤ k by omega)] at G0
    clear H0
    go_enter Try.func69, Try.ntmps69
    go_wp2_with fail
    refine G0.mono ?_
    rintro e w1 ⟨rfl, hb1⟩
    have hB1 : Below w.heap.size w w1 := hB.trans (hb1.mono hB.size)
    clear hb1 G0 q0
    go_wp2_with fail
    go_ret
    exact ⟨ret_int (szL_yes (by omega)).symm, hB1⟩
  · have G0 := H0 _ (k) hB hk hk2
    simp only [szL_no (show ¬ (N0 : Int) ≤ k by omega)] at G0
    clear H0
    go_enter Try.func69, Try.ntmps69
    go_wp2_with fail
    refine G0.mono ?_
    rintro e w1 ⟨rfl, hb1⟩
    have hB1 : Below w.heap.size w w1 := hB.trans (hb1.mono hB.size)
    clear hb1 G0 q0
    go_wp2_with fail
    go_ret
    exact ⟨ret_int (szL_no (by omega)).symm, hB1⟩

set_option maxHeartbeats 4000000 in
theorem szImport0 (a0 : Option Addr) (n0 c0 : Nat) (a1 : Option Addr) (n1 c1 : Nat) (p2 : Int) (N0 : Nat) (N1 : Nat) (k : Int) (w : World) (hk : 0 ≤ k) (hk2 : k ≤ 1048576)
    (H0 : SzV w 39 (.slice a0 n0 c0) N0) (H1 : SzV w 39 (.slice a1 n1 c1) N1) :
    Calls Try.prog 70 #[.agg #[.slice a0 n0 c0, .slice a1 n1 c1, .int .i64 p2], .int .i64 k] w fun e w' => e = .returned (.int .i64 (szL k (N0 + N1))) ∧ Below w.heap.size w w' := by
  have hB : Below w.heap.size w (w.alloc (.cells #[.slice a0 n0 c0, .slice a1 n1 c1, .int .i64 p2] 105 (0, 0))) := (Below.refl _ _).alloc (Nat.le_refl _) _
  have q0 := cell_new w 105 #[.slice a0 n0 c0, .slice a1 n1 c1, .int .i64 p2] 0 _ rfl
  have q1 := cell_new w 105 #[.slice a0 n0 c0, .slice a1 n1 c1, .int .i64 p2] 1 _ rfl
  by_cases e0 : (N0 : Int) ≤ k
  · by_cases e1 : (N1 : Int) ≤ k - (N0 : Int)
    · have g0 : ¬ (k - (N0 : Int) < 0) := by omega
      have g1 : ¬ (k - (N0 : Int) - (N1 : Int) < 0) := by omega
      have G0 := H0 _ (k) hB hk hk2
      simp only [szL_yes (show (N0 : Int) ≤ k by omega)] at G0
      clear H0
      have HE : Hid (k - (N0 : Int) - (N1 : Int) = k - ((N0 + N1 : Nat) : Int)) := by show _ = _; omega
      go_enter Try.func70, Try.ntmps70
      go_wp2_with fail
      refine G0.mono ?_
      rintro e w1 ⟨rfl, hb1⟩
      have hB1 : Below w.heap.size w w1 := hB.trans (hb1.mono hB.size)
      replace q1 := cell_on q1 hb1
      clear hb1 G0 q0
      have G1 := H1 w1 (k - (N0 : Int)) hB1 (by omega) (by omega)
      simp only [szL_yes (show (N1 : Int) ≤ k - (N0 : Int) by omega)] at G1
      clear H1
      go_wp2_with fail
      refine G1.mono ?_
      rintro e w2 ⟨rfl, hb2⟩
      have hB2 : Below w.heap.size w w2 := hB1.trans (hb2.mono hB1.size)
      clear hb2 G1 q1
      go_wp2_with fail
      go_ret
      exact ⟨ret_int (HE.out.trans (szL_yes (by omega)).symm), hB2⟩
    · have g0 : ¬ (k - (N0 : Int) < 0) := by omega
      have G0 := H0 _ (k) hB hk hk2
      simp only [szL_yes (show (N0 : Int) ≤ k by omega)] at G0
      clear H0
      go_enter Try.func70, Try.ntmps70
      go_wp2_with fail
      refine G0.mono ?_
      rintro e w1 ⟨rfl, hb1⟩
      have hB1 : Below w.heap.size w w1 := hB.trans (hb1.mono hB.size)
      replace q1 := cell_on q1 hb1
      clear hb1 G0 q0
      have G1 := H1 w1 (k - (N0 : Int)) hB1 (by omega) (by omega)
      simp only [szL_no (show ¬ (N1 : Int) ≤ k - (N0 : Int) by omega)] at G1
      clear H1
      go_wp2_with fail
      refine G1.mono ?_
      rintro e w2 ⟨rfl, hb2⟩
      have hB2 : Below w.heap.size w w2 := hB1.trans (hb2.mono hB1.size)
      clear hb2 G1 q1
      go_wp2_with fail
      go_ret
      exact ⟨ret_int (szL_no (by omega)).symm, hB2⟩
  · have G0 := H0 _ (k) hB hk hk2
    simp only [szL_no (show ¬ (N0 : Int) ≤ k by omega)] at G0
    clear H0
    go_enter Try.func70, Try.ntmps70
    go_wp2_with fail
    refine G0.mono ?_
    rintro e w1 ⟨rfl, hb1⟩
    have hB1 : Below w.heap.size w w1 := hB.trans (hb1.mono hB.size)
    replace q1 := cell_on q1 hb1
    clear hb1 G0 q0
    go_wp2_with fail
    go_ret
    exact ⟨ret_int (szL_no (by omega)).symm, hB1⟩

set_option maxHeartbeats 4000000 in
theorem szObject0 (a0 : Option Addr) (n0 c0 : Nat) (a1 : Option Addr) (n1 c1 : Nat) (a2 : Option Addr) (n2 c2 : Nat) (p3 : Int) (a4 : Option Addr) (n4 c4 : Nat) (N0 : Nat) (N1 : Nat) (N2 : Nat) (N4 : Nat) (k : Int) (w : World) (hk : 0 ≤ k) (hk2 : k ≤ 1048576)
    (H0 : SzV w 39 (.slice a0 n0 c0) N0) (H1 : SzV w 40 (.slice a1 n1 c1) N1) (H2 : SzV w 41 (.slice a2 n2 c2) N2) (H4 : SzV w 39 (.slice a4 n4 c4) N4) :
    Calls Try.prog 13 #[.agg #[.slice a0 n0 c0, .slice a1 n1 c1, .slice a2 n2 c2, .int .i64 p3, .slice a4 n4 c4], .int .i64 k] w fun e w' => e = .returned (.int .i64 (szL k (N0 + N1 + N2 + N4))) ∧ Below w.heap.size w w' := by
  have hB : Below w.heap.size w (w.alloc (.cells #[.slice a0 n0 c0, .slice a1 n1 c1, .slice a2 n2 c2, .int .i64 p3, .slice a4 n4 c4] 42 (0, 0))) := (Below.refl _ _).alloc (Nat.le_refl _) _
  have q0 := cell_new w 42 #[.slice a0 n0 c0, .slice a1 n1 c1, .slice a2 n2 c2, .int .i64 p3, .slice a4 n4 c4] 0 _ rfl
  have q1 := cell_new w 42 #[.slice a0 n0 c0, .slice a1 n1 c1, .slice a2 n2 c2, .int .i64 p3, .slice a4 n4 c4] 1 _ rfl
  have q2 := cell_new w 42 #[.slice a0 n0 c0, .slice a1 n1 c1, .slice a2 n2 c2, .int .i64 p3, .slice a4 n4 c4] 2 _ rfl
  have q4 := cell_new w 42 #[.slice a0 n0 c0, .slice a1 n1 c1, .slice a2 n2 c2, .int .i64 p3, .slice a4 n4 c4] 4 _ rfl
  by_cases e0 : (N0 : Int) ≤ k
  · by_cases e1 : (N1 : Int) ≤ k - (N0 : Int)
    · by_cases e2 : (N2 : Int) ≤ k - (N0 : Int) - (N1 : Int)
      · by_cases e3 : (N4 : Int) ≤ k - (N0 : Int) - (N1 : Int) - (N2 : Int)
        · have g0 : ¬ (k - (N0 : Int) < 0) := by omega
          have g1 : ¬ (k - (N0 : Int) - (N1 : Int) < 0) := by omega
          have g2 : ¬ (k - (N0 : Int) - (N1 : Int) - (N2 : Int) < 0) := by omega
          have g3 : ¬ (k - (N0 : Int) - (N1 : Int) - (N2 : Int) - (N4 : Int) < 0) := by omega
          have G0 := H0 _ (k) hB hk hk2
          simp only [szL_yes (show (N0 : Int) ≤ k by omega)] at G0
          clear H0
          have HE : Hid (k - (N0 : Int) - (N1 : Int) - (N2 : Int) - (N4 : Int) = k - ((N0 + N1 + N2 + N4 : Nat) : Int)) := by show _ = _; omega
          go_enter Try.func13, Try.ntmps13
          go_wp2_with fail
          refine G0.mono ?_
          rintro e w1 ⟨rfl, hb1⟩
          have hB1 : Below w.heap.size w w1 := hB.trans (hb1.mono hB.size)
          replace q1 := cell_on q1 hb1
          replace q2 := cell_on q2 hb1
          replace q4 := cell_on q4 hb1
          clear hb1 G0 q0
          have G1 := H1 w1 (k - (N0 : Int)) hB1 (by omega) (by omega)
          simp only [szL_yes (show (N1 : Int) ≤ k - (N0 : Int) by omega)] at G1
          clear H1
          go_wp2_with fail
          refine G1.mono ?_
          rintro e w2 ⟨rfl, hb2⟩
          have hB2 : Below w.heap.size w w2 := hB1.trans (hb2.mono hB1.size)
          replace q2 := cell_on q2 hb2
          replace q4 := cell_on q4 hb2
          clear hb2 G1 q1
          have G2 := H2 w2 (k - (N0 : Int) - (N1 : Int)) hB2 (by omega) (by omega)
          simp only [szL_yes (show (N2 : Int) ≤ k - (N0 : Int) - (N1 : Int) by omega)] at G2
          clear H2
          go_wp2_with fail
          refine G2.mono ?_
          rintro e w3 ⟨rfl, hb3⟩
          have hB3 : Below w.heap.size w w3 := hB2.trans (hb3.mono hB2.size)
          replace q4 := cell_on q4 hb3
          clear hb3 G2 q2
          have G3 := H4 w3 (k - (N0 : Int) - (N1 : Int) - (N2 : Int)) hB3 (by omega) (by omega)
          simp only [szL_yes (show (N4 : Int) ≤ k - (N0 : Int) - (N1 : Int) - (N2 : Int) by omega)] at G3
          clear H4
          go_wp2_with fail
          refine G3.mono ?_
          rintro e w4 ⟨rfl, hb4⟩
          have hB4 : Below w.heap.size w w4 := hB3.trans (hb4.mono hB3.size)
          clear hb4 G3 q4
          go_wp2_with fail
          go_ret
          exact ⟨ret_int (HE.out.trans (szL_yes (by omega)).symm), hB4⟩
        · have g0 : ¬ (k - (N0 : Int) < 0) := by omega
          have g1 : ¬ (k - (N0 : Int) - (N1 : Int) < 0) := by omega
          have g2 : ¬ (k - (N0 : Int) - (N1 : Int) - (N2 : Int) < 0) := by omega
          have G0 := H0 _ (k) hB hk hk2
          simp only [szL_yes (show (N0 : Int) ≤ k by omega)] at G0
          clear H0
          go_enter Try.func13, Try.ntmps13
          go_wp2_with fail
          refine G0.mono ?_
          rintro e w1 ⟨rfl, hb1⟩
          have hB1 : Below w.heap.size w w1 := hB.trans (hb1.mono hB.size)
          replace q1 := cell_on q1 hb1
          replace q2 := cell_on q2 hb1
          replace q4 := cell_on q4 hb1
          clear hb1 G0 q0
          have G1 := H1 w1 (k - (N0 : Int)) hB1 (by omega) (by omega)
          simp only [szL_yes (show (N1 : Int) ≤ k - (N0 : Int) by omega)] at G1
          clear H1
          go_wp2_with fail
          refine G1.mono ?_
          rintro e w2 ⟨rfl, hb2⟩
          have hB2 : Below w.heap.size w w2 := hB1.trans (hb2.mono hB1.size)
          replace q2 := cell_on q2 hb2
          replace q4 := cell_on q4 hb2
          clear hb2 G1 q1
          have G2 := H2 w2 (k - (N0 : Int) - (N1 : Int)) hB2 (by omega) (by omega)
          simp only [szL_yes (show (N2 : Int) ≤ k - (N0 : Int) - (N1 : Int) by omega)] at G2
          clear H2
          go_wp2_with fail
          refine G2.mono ?_
          rintro e w3 ⟨rfl, hb3⟩
          have hB3 : Below w.heap.size w w3 := hB2.trans (hb3.mono hB2.size)
          replace q4 := cell_on q4 hb3
          clear hb3 G2 q2
          have G3 := H4 w3 (k - (N0 : Int) - (N1 : Int) - (N2 : Int)) hB3 (by omega) (by omega)
          simp only [szL_no (show ¬ (N4 : Int) ≤ k - (N0 : Int) - (N1 : Int) - (N2 : Int) by omega)] at G3
          clear H4
          go_wp2_with fail
          refine G3.mono ?_
          rintro e w4 ⟨rfl, hb4⟩
          have hB4 : Below w.heap.size w w4 := hB3.trans (hb4.mono hB3.size)
          clear hb4 G3 q4
          go_wp2_with fail
          go_ret
          exact ⟨ret_int (szL_no (by omega)).symm, hB4⟩
      · have g0 : ¬ (k - (N0 : Int) < 0) := by omega
        have g1 : ¬ (k - (N0 : Int) - (N1 : Int) < 0) := by omega
        have G0 := H0 _ (k) hB hk hk2
        simp only [szL_yes (show (N0 : Int) ≤ k by omega)] at G0
        clear H0
        go_enter Try.func13, Try.ntmps13
        go_wp2_with fail
        refine G0.mono ?_
        rintro e w1 ⟨rfl, hb1⟩
        have hB1 : Below w.heap.size w w1 := hB.trans (hb1.mono hB.size)
        replace q1 := cell_on q1 hb1
        replace q2 := cell_on q2 hb1
        replace q4 := cell_on q4 hb1
        clear hb1 G0 q0
        have G1 := H1 w1 (k - (N0 : Int)) hB1 (by omega) (by omega)
        simp only [szL_yes (show (N1 : Int) ≤ k - (N0 : Int) by omega)] at G1
        clear H1
        go_wp2_with fail
        refine G1.mono ?_
        rintro e w2 ⟨rfl, hb2⟩
        have hB2 : Below w.heap.size w w2 := hB1.trans (hb2.mono hB1.size)
        replace q2 := cell_on q2 hb2
        replace q4 := cell_on q4 hb2
        clear hb2 G1 q1
        have G2 := H2 w2 (k - (N0 : Int) - (N1 : Int)) hB2 (by omega) (by omega)
        simp only [szL_no (show ¬ (N2 : Int) ≤ k - (N0 : Int) - (N1 : Int) by omega)] at G2
        clear H2
        go_wp2_with fail
        refine G2.mono ?_
        rintro e w3 ⟨rfl, hb3⟩
        have hB3 : Below w.heap.size w w3 := hB2.trans (hb3.mono hB2.size)
        replace q4 := cell_on q4 hb3
        clear hb3 G2 q2
        go_wp2_with fail
        go_ret
        exact ⟨ret_int (szL_no (by omega)).symm, hB3⟩
    · have g0 : ¬ (k - (N0 : Int) < 0) := by omega
      have G0 := H0 _ (k) hB hk hk2
      simp only [szL_yes (show (N0 : Int) ≤ k by omega)] at G0
      clear H0
      go_enter Try.func13, Try.ntmps13
      go_wp2_with fail
      refine G0.mono ?_
      rintro e w1 ⟨rfl, hb1⟩
      have hB1 : Below w.heap.size w w1 := hB.trans (hb1.mono hB.size)
      replace q1 := cell_on q1 hb1
      replace q2 := cell_on q2 hb1
      replace q4 := cell_on q4 hb1
      clear hb1 G0 q0
      have G1 := H1 w1 (k - (N0 : Int)) hB1 (by omega) (by omega)
      simp only [szL_no (show ¬ (N1 : Int) ≤ k - (N0 : Int) by omega)] at G1
      clear H1
      go_wp2_with fail
      refine G1.mono ?_
      rintro e w2 ⟨rfl, hb2⟩
      have hB2 : Below w.heap.size w w2 := hB1.trans (hb2.mono hB1.size)
      replace q2 := cell_on q2 hb2
      replace q4 := cell_on q4 hb2
      clear hb2 G1 q1
      go_wp2_with fail
      go_ret
      exact ⟨ret_int (szL_no (by omega)).symm, hB2⟩
  · have G0 := H0 _ (k) hB hk hk2
    simp only [szL_no (show ¬ (N0 : Int) ≤ k by omega)] at G0
    clear H0
    go_enter Try.func13, Try.ntmps13
    go_wp2_with fail
    refine G0.mono ?_
    rintro e w1 ⟨rfl, hb1⟩
    have hB1 : Below w.heap.size w w1 := hB.trans (hb1.mono hB.size)
    replace q1 := cell_on q1 hb1
    replace q2 := cell_on q2 hb1
    replace q4 := cell_on q4 hb1
    clear hb1 G0 q0
    go_wp2_with fail
    go_ret
    exact ⟨ret_int (szL_no (by omega)).symm, hB1⟩

set_option maxHeartbeats 8000000 in
theorem szExportSF (l : List Xp) (H : ∀ x ∈ l, SzR 69 x.fl) : SzF 40 (.l 3 (l.map Xp.fl)) := by
  intro w0 v hv w k hb0 hk hk2
  obtain ⟨a, c, rfl, hl0⟩ := (hv.below hb0).list
  clear hv hb0
  have hm : (l.map Xp.fl).length = l.length := by simp [exs_map, sts_map, txts]
  have hat : ∀ j, j < l.length → ∃ x ∈ l, (l.map Xp.fl)[j]? = some (Xp.fl x) := by
    intro j hj
    exact ⟨l[j], List.getElem_mem hj, by simp [exs_map, sts_map, txts, hj]⟩
  generalize hrs : l.map Xp.fl = rs at hl0 hm hat ⊢
  clear hrs
  have hlen : (Fl.l 3 rs).len = rs.length + rowsLen rs := by simp [Fl.len]
  rw [hlen]
  clear hlen
  rw [← hm] at hat
  generalize hn : rs.length = n at hl0 hat ⊢
  clear hm
  have hcn : n ≤ 9223372036854775807 := by have h1 := hl0.cap; have h2 := hl0.most; unfold maxLen at h2; omega
  by_cases hnk : (n : Int) ≤ k
  · have h' : ¬ (k - (n : Int) < 0) := by omega
    have Hd : Hid (rs.length = n) := hn
    have HL : Hid (LRow w a c 3 rs) := hl0
    have HA : Hid (∀ j, j < n → ∃ x ∈ l, rs[j]? = some (Xp.fl x)) := hat
    have HH : Hid (∀ x ∈ l, SzR 69 x.fl) := H
    clear hat H
    rcases Nat.eq_zero_or_pos n with h0 | hpos
    · subst h0
      have e0 : rs = [] := List.eq_nil_of_length_eq_zero Hd.out
      subst e0
      rw [szL_yes (by simpa [rowsLen] using hk)]
      clear hl0 hn
      have h1 : ¬ (k < 0) := by omega
      go_enter Try.func40, Try.ntmps40
      go_wp2_with fail
      refine wp_loop_rounds 1 ?_
      rw [rounds_succ]
      go_wp2_with fail
      go_ret
      exact ⟨ret_int (by simp [rowsLen]), Below.refl _ _⟩
    · obtain ⟨b, off, rfl⟩ := hl0.addr (by rw [hn]; exact hpos)
      clear hl0 hn
      go_enter Try.func40, Try.ntmps40
      go_wp2_with fail
      go_loopw [1, 5] (fun r i wr => ∃ j : Nat, j ≤ n ∧ i = .int .i64 j ∧ ∃ rr : Int, r = .int .i64 rr ∧ 0 ≤ rr ∧ rr ≤ k ∧ Hid (rr = k - (n : Int) - (rowsLen (rs.take j) : Int)) ∧ Below w.heap.size w wr) (fun _ i _ => n - (intOf i).toNat)
      case atStart => exact ⟨0, Nat.zero_le _, rfl, k - (n : Int), rfl, by omega, by omega, by show _ = _; simp [rowsLen], Below.refl _ _⟩
      case round =>
        obtain ⟨j, hj, rfl, rr, rfl, hr0, hrk, hrr, hbr⟩ := hrel
        by_cases hlt : j < n
        · obtain ⟨x, hx, hxj⟩ := HA.out j hlt
          have HN : Hid _ := rowsLen_next hxj
          have HT : Hid _ := rowsLen_take rs (j + 1)
          obtain ⟨vs, hvs, hcl⟩ := ((show LRow w (some ⟨b, off, none⟩) c 3 rs from HL.out).below hbr |>.el hxj).vals
          have HC := HH.out x hx wr vs hvs
          clear hxj
          generalize hN : recLen x.fl = N at HC HN
          obtain ⟨x0, x1, x2⟩ := x
          obtain ⟨y0, _, rfl, ⟨a0, c0, rfl, d0⟩, y1, _, rfl, rfl, y2, _, rfl, rfl, rfl⟩ := hvs
          skip
          skip
          skip
          skip
          have q0 : wr.cell? ⟨b, off + j * 3, none⟩ = some _ := hcl 0 _ rfl
          have q1 : wr.cell? ⟨b, off + j * 3 + 1, none⟩ = some _ := hcl 1 _ rfl
          have q2 : wr.cell? ⟨b, off + j * 3 + 2, none⟩ = some _ := hcl 2 _ rfl
          clear hcl d0 hx
          clear hN
          replace HC := HC wr rr (Below.refl _ _) hr0 (by omega)
          by_cases hxr : (N : Int) ≤ rr
          · simp only [szL_yes hxr] at HC
            have hx' : ¬ (rr - (N : Int) < 0) := by omega
            go_wp2_with fail
            refine HC.mono ?_
            rintro e w2 ⟨rfl, hb2⟩
            have hbw : Below w.heap.size w w2 := hbr.trans (hb2.mono hbr.size)
            clear q0 q1 q2 HC hb2
            go_wp2_with fail
            go_roundw
            case rel => exact ⟨j + 1, by omega, by go_num, _, rfl, by omega, by omega, by show _ = _; have := hrr.out; rw [HN.out, this]; omega, hbw⟩
            case measure => simp [intOf]; omega
          · simp only [szL_no hxr] at HC
            go_wp2_with fail
            refine HC.mono ?_
            rintro e w2 ⟨rfl, hb2⟩
            have hbw : Below w.heap.size w w2 := hbr.trans (hb2.mono hbr.size)
            clear q0 q1 q2 HC hb2
            go_wp2_with fail
            go_ret
            have h1 := HN.out
            have h2 := HT.out
            have h3 := hrr.out
            rw [h1] at h2
            have hno : ¬ ((n + rowsLen rs : Nat) : Int) ≤ k := by omega
            exact ⟨ret_int (szL_no hno).symm, hbw⟩
        · have : j = n := by omega
          subst this
          go_wp2_with fail
          go_ret
          refine ⟨?_, hbr⟩
          have h3 := hrr.out
          rw [List.take_of_length_le (by rw [Hd.out]; exact Nat.le_refl _)] at h3
          rw [szL_yes (by omega)]
          exact ret_int (by omega)
  · rw [szL_no (by omega)]
    have h' : k - (n : Int) < 0 := by omega
    clear hl0 hat H hn
    go_enter Try.func40, Try.ntmps40
    go_wp2
    go_ret
    exact ⟨rfl, Below.refl _ _⟩

set_option maxHeartbeats 8000000 in
theorem szImportSF (l : List Ip) (H : ∀ x ∈ l, SzR 70 x.fl) : SzF 41 (.l 3 (l.map Ip.fl)) := by
  intro w0 v hv w k hb0 hk hk2
  obtain ⟨a, c, rfl, hl0⟩ := (hv.below hb0).list
  clear hv hb0
  have hm : (l.map Ip.fl).length = l.length := by simp [exs_map, sts_map, txts]
  have hat : ∀ j, j < l.length → ∃ x ∈ l, (l.map Ip.fl)[j]? = some (Ip.fl x) := by
    intro j hj
    exact ⟨l[j], List.getElem_mem hj, by simp [exs_map, sts_map, txts, hj]⟩
  generalize hrs : l.map Ip.fl = rs at hl0 hm hat ⊢
  clear hrs
  have hlen : (Fl.l 3 rs).len = rs.length + rowsLen rs := by simp [Fl.len]
  rw [hlen]
  clear hlen
  rw [← hm] at hat
  generalize hn : rs.length = n at hl0 hat ⊢
  clear hm
  have hcn : n ≤ 9223372036854775807 := by have h1 := hl0.cap; have h2 := hl0.most; unfold maxLen at h2; omega
  by_cases hnk : (n : Int) ≤ k
  · have h' : ¬ (k - (n : Int) < 0) := by omega
    have Hd : Hid (rs.length = n) := hn
    have HL : Hid (LRow w a c 3 rs) := hl0
    have HA : Hid (∀ j, j < n → ∃ x ∈ l, rs[j]? = some (Ip.fl x)) := hat
    have HH : Hid (∀ x ∈ l, SzR 70 x.fl) := H
    clear hat H
    rcases Nat.eq_zero_or_pos n with h0 | hpos
    · subst h0
      have e0 : rs = [] := List.eq_nil_of_length_eq_zero Hd.out
      subst e0
      rw [szL_yes (by simpa [rowsLen] using hk)]
      clear hl0 hn
      have h1 : ¬ (k < 0) := by omega
      go_enter Try.func41, Try.ntmps41
      go_wp2_with fail
      refine wp_loop_rounds 1 ?_
      rw [rounds_succ]
      go_wp2_with fail
      go_ret
      exact ⟨ret_int (by simp [rowsLen]), Below.refl _ _⟩
    · obtain ⟨b, off, rfl⟩ := hl0.addr (by rw [hn]; exact hpos)
      clear hl0 hn
      go_enter Try.func41, Try.ntmps41
      go_wp2_with fail
      go_loopw [1, 5] (fun r i wr => ∃ j : Nat, j ≤ n ∧ i = .int .i64 j ∧ ∃ rr : Int, r = .int .i64 rr ∧ 0 ≤ rr ∧ rr ≤ k ∧ Hid (rr = k - (n : Int) - (rowsLen (rs.take j) : Int)) ∧ Below w.heap.size w wr) (fun _ i _ => n - (intOf i).toNat)
      case atStart => exact ⟨0, Nat.zero_le _, rfl, k - (n : Int), rfl, by omega, by omega, by show _ = _; simp [rowsLen], Below.refl _ _⟩
      case round =>
        obtain ⟨j, hj, rfl, rr, rfl, hr0, hrk, hrr, hbr⟩ := hrel
        by_cases hlt : j < n
        · obtain ⟨x, hx, hxj⟩ := HA.out j hlt
          have HN : Hid _ := rowsLen_next hxj
          have HT : Hid _ := rowsLen_take rs (j + 1)
          obtain ⟨vs, hvs, hcl⟩ := ((show LRow w (some ⟨b, off, none⟩) c 3 rs from HL.out).below hbr |>.el hxj).vals
          have HC := HH.out x hx wr vs hvs
          clear hxj
          generalize hN : recLen x.fl = N at HC HN
          obtain ⟨x0, x1, x2⟩ := x
          obtain ⟨y0, _, rfl, ⟨a0, c0, rfl, d0⟩, y1, _, rfl, ⟨a1, c1, rfl, d1⟩, y2, _, rfl, rfl, rfl⟩ := hvs
          skip
          skip
          skip
          skip
          have q0 : wr.cell? ⟨b, off + j * 3, none⟩ = some _ := hcl 0 _ rfl
          have q1 : wr.cell? ⟨b, off + j * 3 + 1, none⟩ = some _ := hcl 1 _ rfl
          have q2 : wr.cell? ⟨b, off + j * 3 + 2, none⟩ = some _ := hcl 2 _ rfl
          clear hcl d0 d1 hx
          clear hN
          replace HC := HC wr rr (Below.refl _ _) hr0 (by omega)
          by_cases hxr : (N : Int) ≤ rr
          · simp only [szL_yes hxr] at HC
            have hx' : ¬ (rr - (N : Int) < 0) := by omega
            go_wp2_with fail
            refine HC.mono ?_
            rintro e w2 ⟨rfl, hb2⟩
            have hbw : Below w.heap.size w w2 := hbr.trans (hb2.mono hbr.size)
            clear q0 q1 q2 HC hb2
            go_wp2_with fail
            go_roundw
            case rel => exact ⟨j + 1, by omega, by go_num, _, rfl, by omega, by omega, by show _ = _; have := hrr.out; rw [HN.out, this]; omega, hbw⟩
            case measure => simp [intOf]; omega
          · simp only [szL_no hxr] at HC
            go_wp2_with fail
            refine HC.mono ?_
            rintro e w2 ⟨rfl, hb2⟩
            have hbw : Below w.heap.size w w2 := hbr.trans (hb2.mono hbr.size)
            clear q0 q1 q2 HC hb2
            go_wp2_with fail
            go_ret
            have h1 := HN.out
            have h2 := HT.out
            have h3 := hrr.out
            rw [h1] at h2
            have hno : ¬ ((n + rowsLen rs : Nat) : Int) ≤ k := by omega
            exact ⟨ret_int (szL_no hno).symm, hbw⟩
        · have : j = n := by omega
          subst this
          go_wp2_with fail
          go_ret
          refine ⟨?_, hbr⟩
          have h3 := hrr.out
          rw [List.take_of_length_le (by rw [Hd.out]; exact Nat.le_refl _)] at h3
          rw [szL_yes (by omega)]
          exact ret_int (by omega)
  · rw [szL_no (by omega)]
    have h' : k - (n : Int) < 0 := by omega
    clear hl0 hat H hn
    go_enter Try.func41, Try.ntmps41
    go_wp2
    go_ret
    exact ⟨rfl, Below.refl _ _⟩

set_option maxHeartbeats 8000000 in
theorem szObjectSF (l : List Oj) (H : ∀ x ∈ l, SzR 13 x.fl) : SzF 4 (.l 5 (l.map Oj.fl)) := by
  intro w0 v hv w k hb0 hk hk2
  obtain ⟨a, c, rfl, hl0⟩ := (hv.below hb0).list
  clear hv hb0
  have hm : (l.map Oj.fl).length = l.length := by simp [exs_map, sts_map, txts]
  have hat : ∀ j, j < l.length → ∃ x ∈ l, (l.map Oj.fl)[j]? = some (Oj.fl x) := by
    intro j hj
    exact ⟨l[j], List.getElem_mem hj, by simp [exs_map, sts_map, txts, hj]⟩
  generalize hrs : l.map Oj.fl = rs at hl0 hm hat ⊢
  clear hrs
  have hlen : (Fl.l 5 rs).len = rs.length + rowsLen rs := by simp [Fl.len]
  rw [hlen]
  clear hlen
  rw [← hm] at hat
  generalize hn : rs.length = n at hl0 hat ⊢
  clear hm
  have hcn : n ≤ 9223372036854775807 := by have h1 := hl0.cap; have h2 := hl0.most; unfold maxLen at h2; omega
  by_cases hnk : (n : Int) ≤ k
  · have h' : ¬ (k - (n : Int) < 0) := by omega
    have Hd : Hid (rs.length = n) := hn
    have HL : Hid (LRow w a c 5 rs) := hl0
    have HA : Hid (∀ j, j < n → ∃ x ∈ l, rs[j]? = some (Oj.fl x)) := hat
    have HH : Hid (∀ x ∈ l, SzR 13 x.fl) := H
    clear hat H
    rcases Nat.eq_zero_or_pos n with h0 | hpos
    · subst h0
      have e0 : rs = [] := List.eq_nil_of_length_eq_zero Hd.out
      subst e0
      rw [szL_yes (by simpa [rowsLen] using hk)]
      clear hl0 hn
      have h1 : ¬ (k < 0) := by omega
      go_enter Try.func4, Try.ntmps4
      go_wp2_with fail
      refine wp_loop_rounds 1 ?_
      rw [rounds_succ]
      go_wp2_with fail
      go_ret
      exact ⟨ret_int (by simp [rowsLen]), Below.refl _ _⟩
    · obtain ⟨b, off, rfl⟩ := hl0.addr (by rw [hn]; exact hpos)
      clear hl0 hn
      go_enter Try.func4, Try.ntmps4
      go_wp2_with fail
      go_loopw [1, 5] (fun r i wr => ∃ j : Nat, j ≤ n ∧ i = .int .i64 j ∧ ∃ rr : Int, r = .int .i64 rr ∧ 0 ≤ rr ∧ rr ≤ k ∧ Hid (rr = k - (n : Int) - (rowsLen (rs.take j) : Int)) ∧ Below w.heap.size w wr) (fun _ i _ => n - (intOf i).toNat)
      case atStart => exact ⟨0, Nat.zero_le _, rfl, k - (n : Int), rfl, by omega, by omega, by show _ = _; simp [rowsLen], Below.refl _ _⟩
      case round =>
        obtain ⟨j, hj, rfl, rr, rfl, hr0, hrk, hrr, hbr⟩ := hrel
        by_cases hlt : j < n
        · obtain ⟨x, hx, hxj⟩ := HA.out j hlt
          have HN : Hid _ := rowsLen_next hxj
          have HT : Hid _ := rowsLen_take rs (j + 1)
          obtain ⟨vs, hvs, hcl⟩ := ((show LRow w (some ⟨b, off, none⟩) c 5 rs from HL.out).below hbr |>.el hxj).vals
          have HC := HH.out x hx wr vs hvs
          clear hxj
          generalize hN : recLen x.fl = N at HC HN
          obtain ⟨x0, x1, x2, x3, x4⟩ := x
          obtain ⟨y0, _, rfl, ⟨a0, c0, rfl, d0⟩, y1, _, rfl, ⟨a1, c1, rfl, d1⟩, y2, _, rfl, ⟨a2, c2, rfl, d2⟩, y3, _, rfl, rfl, y4, _, rfl, ⟨a4, c4, rfl, d4⟩, rfl⟩ := hvs
          skip
          skip
          skip
          generalize (List.map Xp.fl x1).length = m1 at HC hcl; generalize (List.map Ip.fl x2).length = m2 at HC hcl
          have q0 : wr.cell? ⟨b, off + j * 5, none⟩ = some _ := hcl 0 _ rfl
          have q1 : wr.cell? ⟨b, off + j * 5 + 1, none⟩ = some _ := hcl 1 _ rfl
          have q2 : wr.cell? ⟨b, off + j * 5 + 2, none⟩ = some _ := hcl 2 _ rfl
          have q3 : wr.cell? ⟨b, off + j * 5 + 3, none⟩ = some _ := hcl 3 _ rfl
          have q4 : wr.cell? ⟨b, off + j * 5 + 4, none⟩ = some _ := hcl 4 _ rfl
          clear hcl d0 d1 d2 d4 hx
          clear hN
          replace HC := HC wr rr (Below.refl _ _) hr0 (by omega)
          by_cases hxr : (N : Int) ≤ rr
          · simp only [szL_yes hxr] at HC
            have hx' : ¬ (rr - (N : Int) < 0) := by omega
            go_wp2_with fail
            refine HC.mono ?_
            rintro e w2 ⟨rfl, hb2⟩
            have hbw : Below w.heap.size w w2 := hbr.trans (hb2.mono hbr.size)
            clear q0 q1 q2 q3 q4 HC hb2
            go_wp2_with fail
            go_roundw
            case rel => exact ⟨j + 1, by omega, by go_num, _, rfl, by omega, by omega, by show _ = _; have := hrr.out; rw [HN.out, this]; omega, hbw⟩
            case measure => simp [intOf]; omega
          · simp only [szL_no hxr] at HC
            go_wp2_with fail
            refine HC.mono ?_
            rintro e w2 ⟨rfl, hb2⟩
            have hbw : Below w.heap.size w w2 := hbr.trans (hb2.mono hbr.size)
            clear q0 q1 q2 q3 q4 HC hb2
            go_wp2_with fail
            go_ret
            have h1 := HN.out
            have h2 := HT.out
            have h3 := hrr.out
            rw [h1] at h2
            have hno : ¬ ((n + rowsLen rs : Nat) : Int) ≤ k := by omega
            exact ⟨ret_int (szL_no hno).symm, hbw⟩
        · have : j = n := by omega
          subst this
          go_wp2_with fail
          go_ret
          refine ⟨?_, hbr⟩
          have h3 := hrr.out
          rw [List.take_of_length_le (by rw [Hd.out]; exact Nat.le_refl _)] at h3
          rw [szL_yes (by omega)]
          exact ret_int (by omega)
  · rw [szL_no (by omega)]
    have h' : k - (n : Int) < 0 := by omega
    clear hl0 hat H hn
    go_enter Try.func4, Try.ntmps4
    go_wp2
    go_ret
    exact ⟨rfl, Below.refl _ _⟩

theorem SzV.on {w w1 : World} {F N : Nat} {v : Value} (h : SzV w F v N) (hb : Below w.heap.size w w1) : SzV w1 F v N :=
  fun w2 k hb2 hk hk2 => h w2 k (hb.trans (hb2.mono hb.size)) hk hk2

theorem szExportR (x0 : List Int) (x1 : Int) (x2 : Int)  : SzR 69 (Xp.mk x0 x1 x2).fl := by
  intro w vs hv w1 k hb hk hk2
  obtain ⟨y0, _, rfl, h0, y1, _, rfl, rfl, y2, _, rfl, rfl, rfl⟩ := hv
  have g0 := (szByteF x0 w _ h0).on hb
  obtain ⟨a0, c0, rfl, _⟩ := h0
  have e : recLen (Xp.mk x0 x1 x2).fl = (.b x0 : Fl).len := by simp [Xp.fl, recLen, Fl.len]
  rw [e]
  exact szExport0 a0 _ c0 x1 x2 _ k w1 hk hk2 g0

theorem szImportR (x0 : List Int) (x1 : List Int) (x2 : Int)  : SzR 70 (Ip.mk x0 x1 x2).fl := by
  intro w vs hv w1 k hb hk hk2
  obtain ⟨y0, _, rfl, h0, y1, _, rfl, h1, y2, _, rfl, rfl, rfl⟩ := hv
  have g0 := (szByteF x0 w _ h0).on hb
  have g1 := (szByteF x1 w _ h1).on hb
  obtain ⟨a0, c0, rfl, _⟩ := h0
  obtain ⟨a1, c1, rfl, _⟩ := h1
  have e : recLen (Ip.mk x0 x1 x2).fl = (.b x0 : Fl).len + (.b x1 : Fl).len := by simp [Ip.fl, recLen, Fl.len]
  rw [e]
  exact szImport0 a0 _ c0 a1 _ c1 x2 _ _ k w1 hk hk2 g0 g1

theorem szObjectR (x0 : List Int) (x1 : List Xp) (x2 : List Ip) (x3 : Int) (x4 : List Int) (S1 : SzF 40 (.l 3 (x1.map Xp.fl))) (S2 : SzF 41 (.l 3 (x2.map Ip.fl))) : SzR 13 (Oj.mk x0 x1 x2 x3 x4).fl := by
  intro w vs hv w1 k hb hk hk2
  obtain ⟨y0, _, rfl, h0, y1, _, rfl, h1, y2, _, rfl, h2, y3, _, rfl, rfl, y4, _, rfl, h4, rfl⟩ := hv
  have g0 := (szByteF x0 w _ h0).on hb
  have g1 := (S1 w _ h1).on hb
  have g2 := (S2 w _ h2).on hb
  have g4 := (szByteF x4 w _ h4).on hb
  obtain ⟨a0, c0, rfl, _⟩ := h0
  obtain ⟨a1, c1, rfl, _⟩ := h1
  obtain ⟨a2, c2, rfl, _⟩ := h2
  obtain ⟨a4, c4, rfl, _⟩ := h4
  have e : recLen (Oj.mk x0 x1 x2 x3 x4).fl = (.b x0 : Fl).len + (.l 3 (x1.map Xp.fl) : Fl).len + (.l 3 (x2.map Ip.fl) : Fl).len + (.b x4 : Fl).len := by simp [Oj.fl, recLen, Fl.len] <;> omega
  rw [e]
  exact szObject0 a0 _ c0 a1 _ c1 a2 _ c2 x3 a4 _ c4 _ _ _ _ k w1 hk hk2 g0 g1 g2 g4

theorem szOjs (l : List Oj) : SzF 4 (.l 5 (l.map Oj.fl)) := szObjectSF l fun x _ => szObjectR x.name x.ex x.im x.data x.code (szExportSF x.ex fun q _ => szExportR q.name q.print q.pos) (szImportSF x.im fun q _ => szImportR q.mod q.name q.print)

end Go.Proofs.Ytefciaeajlgheaa

/- Contracts of the laws' own helpers that count how large a module is. By mktreesz.py. -/
import Derived.Test.YtpkbeeicffoaoaaTree
import Derived.Deep.Cut
import Derived.Deep.CutRange
namespace Go.Proofs.Ytpkbeeicffoaoaa
open Go.RowKit
set_option linter.unusedVariables false
set_option linter.unusedSimpArgs false
set_option maxRecDepth 100000

theorem szIntM (a : Option Addr) (n c : Nat) (k : Int) (w : World) (hk : 0 ≤ k) (hk2 : k ≤ 1048576) (hn : n ≤ 9223372036854775807) :
    Calls Try.prog 18 #[.slice a n c, .int .i64 k] w fun e w' => e = .returned (.int .i64 (szL k n)) ∧ w' = w := by
  by_cases h : (n : Int) ≤ k
  · rw [szL_yes h]
    have h' : ¬ (k - (n : Int) < 0) := by omega
    go_enter Try.func18, Try.ntmps18
    go_wp2
    go_ret
    exact ⟨rfl, rfl⟩
  · rw [szL_no h]
    have h' : k - (n : Int) < 0 := by omega
    go_enter Try.func18, Try.ntmps18
    go_wp2
    go_ret
    exact ⟨rfl, rfl⟩

/-- Whatever is left, the helper F counts N for this value, in w and behind it. -/
def SzV (w : World) (F : Nat) (v : Value) (N : Nat) : Prop :=
  ∀ (w1 : World) (k : Int), Below w.heap.size w w1 → 0 ≤ k → k ≤ 1048576 → Calls Try.prog F #[v, .int .i64 k] w1 fun e w' => e = .returned (.int .i64 (szL k N)) ∧ Below w1.heap.size w1 w'

def SzF (F : Nat) (f : Fl) : Prop := ∀ (w : World) (v : Value), f.Rd w v → SzV w F v f.len
def SzR (F : Nat) (r : List Fl) : Prop := ∀ (w : World) (vs : List Value), RdVals w r vs → SzV w F (.agg vs.toArray) (recLen r)

theorem szIntF (l : List Int) : SzF 18 (.i l) := by
  rintro w v ⟨a, c, rfl, _, h1, h2, _⟩ w1 k hb hk hk2
  unfold maxLen at h2
  refine (szIntM a l.length c k w1 hk hk2 (by omega)).mono ?_
  rintro e w' ⟨rfl, rfl⟩
  exact ⟨rfl, Below.refl _ _⟩

/-- Cells of a block that stays. -/
theorem cell_on {w w' : World} {g i : Nat} {v : Value} (h : w.cell? ⟨g, i, none⟩ = some v) (hb : Below w.heap.size w w') : w'.cell? ⟨g, i, none⟩ = some v := by
  rw [hb.cell (World.block_lt_of_cell? w _ h)]; exact h
theorem cell_new (w : World) (t : TypeId) (vs : Array Value) (i : Nat) (v : Value) (h : vs[i]? = some v) : (w.alloc (.cells vs t (0, 0))).cell? ⟨w.heap.size, i, none⟩ = some v := by
  rw [cell_of_row _ w.heap.size i vs t (0, 0) (heap_alloc_new w _)]; exact h

theorem RdRec.vals {w : World} {b : Nat} {r : List Fl} : ∀ {off : Nat}, RdRec w b off r → ∃ vs, RdVals w r vs ∧ ∀ i v, vs[i]? = some v → w.cell? ⟨b, off + i, none⟩ = some v := by
  induction r with
  | nil => intro off _; exact ⟨[], rfl, by simp⟩
  | cons f r ih =>
    intro off h
    obtain ⟨⟨v, hc, hv⟩, h2⟩ := h
    obtain ⟨vs, h3, h4⟩ := ih h2
    refine ⟨v :: vs, ⟨v, vs, rfl, hv, h3⟩, fun i u hu => ?_⟩
    cases i with
    | zero => simp only [List.getElem?_cons_zero, Option.some.injEq] at hu; subst hu; exact hc
    | succ i =>
      rw [List.getElem?_cons_succ] at hu
      have := h4 i u hu
      rw [show off + (i + 1) = off + 1 + i by omega]; exact this

set_option maxHeartbeats 4000000 in
theorem szEvent0 (p0 : Int) (p1 : Int) (p2 : Int) (p3 : Int) (a4 : Option Addr) (n4 c4 : Nat) (p5 : Int) (N4 : Nat) (k : Int) (w : World) (hk : 0 ≤ k) (hk2 : k ≤ 1048576)
    (H4 : SzV w 45 (.slice a4 n4 c4) N4) :
    Calls Try.prog 34 #[.agg #[.int .i64 p0, .int .i64 p1, .int .i64 p2, .int .i64 p3, .slice a4 n4 c4, .int .i64 p5], .int .i64 k] w fun e w' => e = .returned (.int .i64 (szL k (N4))) ∧ Below w.heap.size w w' := by
  have hB : Below w.heap.size w (w.alloc (.cells #[.int .i64 p0, .int .i64 p1, .int .i64 p2, .int .i64 p3, .slice a4 n4 c4, .int .i64 p5] 71 (0, 0))) := (Below.refl _ _).alloc (Nat.le_refl _) _
  have q4 := cell_new w 71 #[.int .i64 p0, .int .i64 p1, .int .i64 p2, .int .i64 p3, .slice a4 n4 c4, .int .i64 p5] 4 _ rfl
  by_cases e0 : (N4 : Int) ≤ k
  · have g0 : ¬ (k - (N4 : Int) < 0) := by omega
    have G0 := H4 _ (k) hB hk hk2
    simp only [szL_yes (show (N4 : Int) ≤ k by omega)] at G0
    clear H4
    go_enter Try.func34, Try.ntmps34
    go_wp2_with fail
    refine G0.mono ?_
    rintro e w1 ⟨rfl, hb1⟩
    have hB1 : Below w.heap.size w w1 := hB.trans (hb1.mono hB.size)
    clear hb1 G0 q4
    go_wp2_with fail
    go_ret
    exact ⟨ret_int (szL_yes (by omega)).symm, hB1⟩
  · have G0 := H4 _ (k) hB hk hk2
    simp only [szL_no (show ¬ (N4 : Int) ≤ k by omega)] at G0
    clear H4
    go_enter Try.func34, Try.ntmps34
    go_wp2_with fail
    refine G0.mono ?_
    rintro e w1 ⟨rfl, hb1⟩
    have hB1 : Below w.heap.size w w1 := hB.trans (hb1.mono hB.size)
    clear hb1 G0 q4
    go_wp2_with fail
    go_ret
    exact ⟨ret_int (szL_no (by omega)).symm, hB1⟩

set_option maxHeartbeats 4000000 in
theorem szResult0 (p0 : Int) (p1 : Int) (p2 : Int) (p3 : Int) (p4 : Int) (p5 : Int) (a6 : Option Addr) (n6 c6 : Nat) (a7 : Option Addr) (n7 c7 : Nat) (a8 : Option Addr) (n8 c8 : Nat) (a9 : Option Addr) (n9 c9 : Nat) (a10 : Option Addr) (n10 c10 : Nat) (N6 : Nat) (N7 : Nat) (N8 : Nat) (N9 : Nat) (N10 : Nat) (k : Int) (w : World) (hk : 0 ≤ k) (hk2 : k ≤ 1048576)
    (H6 : SzV w 16 (.slice a6 n6 c6) N6) (H7 : SzV w 17 (.slice a7 n7 c7) N7) (H8 : SzV w 17 (.slice a8 n8 c8) N8) (H9 : SzV w 18 (.slice a9 n9 c9) N9) (H10 : SzV w 18 (.slice a10 n10 c10) N10) :
    Calls Try.prog 4 #[.agg #[.int .i64 p0, .int .i64 p1, .int .i64 p2, .int .i64 p3, .int .i64 p4, .int .i64 p5, .slice a6 n6 c6, .slice a7 n7 c7, .slice a8 n8 c8, .slice a9 n9 c9, .slice a10 n10 c10], .int .i64 k] w fun e w' => e = .returned (.int .i64 (szL k (N6 + N7 + N8 + N9 + N10))) ∧ Below w.heap.size w w' := by
  have hB : Below w.heap.size w (w.alloc (.cells #[.int .i64 p0, .int .i64 p1, .int .i64 p2, .int .i64 p3, .int .i64 p4, .int .i64 p5, .slice a6 n6 c6, .slice a7 n7 c7, .slice a8 n8 c8, .slice a9 n9 c9, .slice a10 n10 c10] 26 (0, 0))) := (Below.refl _ _).alloc (Nat.le_refl _) _
  have q6 := cell_new w 26 #[.int .i64 p0, .int .i64 p1, .int .i64 p2, .int .i64 p3, .int .i64 p4, .int .i64 p5, .slice a6 n6 c6, .slice a7 n7 c7, .slice a8 n8 c8, .slice a9 n9 c9, .slice a10 n10 c10] 6 _ rfl
  have q7 := cell_new w 26 #[.int .i64 p0, .int .i64 p1, .int .i64 p2, .int .i64 p3, .int .i64 p4, .int .i64 p5, .slice a6 n6 c6, .slice a7 n7 c7, .slice a8 n8 c8, .slice a9 n9 c9, .slice a10 n10 c10] 7 _ rfl
  have q8 := cell_new w 26 #[.int .i64 p0, .int .i64 p1, .int .i64 p2, .int .i64 p3, .int .i64 p4, .int .i64 p5, .slice a6 n6 c6, .slice a7 n7 c7, .slice a8 n8 c8, .slice a9 n9 c9, .slice a10 n10 c10] 8 _ rfl
  have q9 := cell_new w 26 #[.int .i64 p0, .int .i64 p1, .int .i64 p2, .int .i64 p3, .int .i64 p4, .int .i64 p5, .slice a6 n6 c6, .slice a7 n7 c7, .slice a8 n8 c8, .slice a9 n9 c9, .slice a10 n10 c10] 9 _ rfl
  have q10 := cell_new w 26 #[.int .i64 p0, .int .i64 p1, .int .i64 p2, .int .i64 p3, .int .i64 p4, .int .i64 p5, .slice a6 n6 c6, .slice a7 n7 c7, .slice a8 n8 c8, .slice a9 n9 c9, .slice a10 n10 c10] 10 _ rfl
  by_cases e0 : (N6 : Int) ≤ k
  · by_cases e1 : (N7 : Int) ≤ k - (N6 : Int)
    · by_cases e2 : (N8 : Int) ≤ k - (N6 : Int) - (N7 : Int)
      · by_cases e3 : (N9 : Int) ≤ k - (N6 : Int) - (N7 : Int) - (N8 : Int)
        · by_cases e4 : (N10 : Int) ≤ k - (N6 : Int) - (N7 : Int) - (N8 : Int) - (N9 : Int)
          · have g0 : ¬ (k - (N6 : Int) < 0) := by omega
            have g1 : ¬ (k - (N6 : Int) - (N7 : Int) < 0) := by omega
            have g2 : ¬ (k - (N6 : Int) - (N7 : Int) - (N8 : Int) < 0) := by omega
            have g3 : ¬ (k - (N6 : Int) - (N7 : Int) - (N8 : Int) - (N9 : Int) < 0) := by omega
            have g4 : ¬ (k - (N6 : Int) - (N7 : Int) - (N8 : Int) - (N9 : Int) - (N10 : Int) < 0) := by omega
            have G0 := H6 _ (k) hB hk hk2
            simp only [szL_yes (show (N6 : Int) ≤ k by omega)] at G0
            clear H6
            have HE : Hid (k - (N6 : Int) - (N7 : Int) - (N8 : Int) - (N9 : Int) - (N10 : Int) = k - ((N6 + N7 + N8 + N9 + N10 : Nat) : Int)) := by show _ = _; omega
            go_enter Try.func4, Try.ntmps4
            go_wp2_with fail
            refine G0.mono ?_
            rintro e w1 ⟨rfl, hb1⟩
            have hB1 : Below w.heap.size w w1 := hB.trans (hb1.mono hB.size)
            replace q7 := cell_on q7 hb1
            replace q8 := cell_on q8 hb1
            replace q9 := cell_on q9 hb1
            replace q10 := cell_on q10 hb1
            clear hb1 G0 q6
            have G1 := H7 w1 (k - (N6 : Int)) hB1 (by omega) (by omega)
            simp only [szL_yes (show (N7 : Int) ≤ k - (N6 : Int) by omega)] at G1
            clear H7
            go_wp2_with fail
            refine G1.mono ?_
            rintro e w2 ⟨rfl, hb2⟩
            have hB2 : Below w.heap.size w w2 := hB1.trans (hb2.mono hB1.size)
            replace q8 := cell_on q8 hb2
            replace q9 := cell_on q9 hb2
            replace q10 := cell_on q10 hb2
            clear hb2 G1 q7
            have G2 := H8 w2 (k - (N6 : Int) - (N7 : Int)) hB2 (by omega) (by omega)
            simp only [szL_yes (show (N8 : Int) ≤ k - (N6 : Int) - (N7 : Int) by omega)] at G2
            clear H8
            go_wp2_with fail
            refine G2.mono ?_
            rintro e w3 ⟨rfl, hb3⟩
            have hB3 : Below w.heap.size w w3 := hB2.trans (hb3.mono hB2.size)
            replace q9 := cell_on q9 hb3
            replace q10 := cell_on q10 hb3
            clear hb3 G2 q8
            have G3 := H9 w3 (k - (N6 : Int) - (N7 : Int) - (N8 : Int)) hB3 (by omega) (by omega)
            simp only [szL_yes (show (N9 : Int) ≤ k - (N6 : Int) - (N7 : Int) - (N8 : Int) by omega)] at G3
            clear H9
            go_wp2_with fail
            refine G3.mono ?_
            rintro e w4 ⟨rfl, hb4⟩
            have hB4 : Below w.heap.size w w4 := hB3.trans (hb4.mono hB3.size)
            replace q10 := cell_on q10 hb4
            clear hb4 G3 q9
            have G4 := H10 w4 (k - (N6 : Int) - (N7 : Int) - (N8 : Int) - (N9 : Int)) hB4 (by omega) (by omega)
            simp only [szL_yes (show (N10 : Int) ≤ k - (N6 : Int) - (N7 : Int) - (N8 : Int) - (N9 : Int) by omega)] at G4
            clear H10
            go_wp2_with fail
            refine G4.mono ?_
            rintro e w5 ⟨rfl, hb5⟩
            have hB5 : Below w.heap.size w w5 := hB4.trans (hb5.mono hB4.size)
            clear hb5 G4 q10
            go_wp2_with fail
            go_ret
            exact ⟨ret_int (HE.out.trans (szL_yes (by omega)).symm), hB5⟩
          · have g0 : ¬ (k - (N6 : Int) < 0) := by omega
            have g1 : ¬ (k - (N6 : Int) - (N7 : Int) < 0) := by omega
            have g2 : ¬ (k - (N6 : Int) - (N7 : Int) - (N8 : Int) < 0) := by omega
            have g3 : ¬ (k - (N6 : Int) - (N7 : Int) - (N8 : Int) - (N9 : Int) < 0) := by omega
            have G0 := H6 _ (k) hB hk hk2
            simp only [szL_yes (show (N6 : Int) ≤ k by omega)] at G0
            clear H6
            go_enter Try.func4, Try.ntmps4
            go_wp2_with fail
            refine G0.mono ?_
            rintro e w1 ⟨rfl, hb1⟩
            have hB1 : Below w.heap.size w w1 := hB.trans (hb1.mono hB.size)
            replace q7 := cell_on q7 hb1
            replace q8 := cell_on q8 hb1
            replace q9 := cell_on q9 hb1
            replace q10 := cell_on q10 hb1
            clear hb1 G0 q6
            have G1 := H7 w1 (k - (N6 : Int)) hB1 (by omega) (by omega)
            simp only [szL_yes (show (N7 : Int) ≤ k - (N6 : Int) by omega)] at G1
            clear H7
            go_wp2_with fail
            refine G1.mono ?_
            rintro e w2 ⟨rfl, hb2⟩
            have hB2 : Below w.heap.size w w2 := hB1.trans (hb2.mono hB1.size)
            replace q8 := cell_on q8 hb2
            replace q9 := cell_on q9 hb2
            replace q10 := cell_on q10 hb2
            clear hb2 G1 q7
            have G2 := H8 w2 (k - (N6 : Int) - (N7 : Int)) hB2 (by omega) (by omega)
            simp only [szL_yes (show (N8 : Int) ≤ k - (N6 : Int) - (N7 : Int) by omega)] at G2
            clear H8
            go_wp2_with fail
            refine G2.mono ?_
            rintro e w3 ⟨rfl, hb3⟩
            have hB3 : Below w.heap.size w w3 := hB2.trans (hb3.mono hB2.size)
            replace q9 := cell_on q9 hb3
            replace q10 := cell_on q10 hb3
            clear hb3 G2 q8
            have G3 := H9 w3 (k - (N6 : Int) - (N7 : Int) - (N8 : Int)) hB3 (by omega) (by omega)
            simp only [szL_yes (show (N9 : Int) ≤ k - (N6 : Int) - (N7 : Int) - (N8 : Int) by omega)] at G3
            clear H9
            go_wp2_with fail
            refine G3.mono ?_
            rintro e w4 ⟨rfl, hb4⟩
            have hB4 : Below w.heap.size w w4 := hB3.trans (hb4.mono hB3.size)
            replace q10 := cell_on q10 hb4
            clear hb4 G3 q9
            have G4 := H10 w4 (k - (N6 : Int) - (N7 : Int) - (N8 : Int) - (N9 : Int)) hB4 (by omega) (by omega)
            simp only [szL_no (show ¬ (N10 : Int) ≤ k - (N6 : Int) - (N7 : Int) - (N8 : Int) - (N9 : Int) by omega)] at G4
            clear H10
            go_wp2_with fail
            refine G4.mono ?_
            rintro e w5 ⟨rfl, hb5⟩
            have hB5 : Below w.heap.size w w5 := hB4.trans (hb5.mono hB4.size)
            clear hb5 G4 q10
            go_wp2_with fail
            go_ret
            exact ⟨ret_int (szL_no (by omega)).symm, hB5⟩
        · have g0 : ¬ (k - (N6 : Int) < 0) := by omega
          have g1 : ¬ (k - (N6 : Int) - (N7 : Int) < 0) := by omega
          have g2 : ¬ (k - (N6 : Int) - (N7 : Int) - (N8 : Int) < 0) := by omega
          have G0 := H6 _ (k) hB hk hk2
          simp only [szL_yes (show (N6 : Int) ≤ k by omega)] at G0
          clear H6
          go_enter Try.func4, Try.ntmps4
          go_wp2_with fail
          refine G0.mono ?_
          rintro e w1 ⟨rfl, hb1⟩
          have hB1 : Below w.heap.size w w1 := hB.trans (hb1.mono hB.size)
          replace q7 := cell_on q7 hb1
          replace q8 := cell_on q8 hb1
          replace q9 := cell_on q9 hb1
          replace q10 := cell_on q10 hb1
          clear hb1 G0 q6
          have G1 := H7 w1 (k - (N6 : Int)) hB1 (by omega) (by omega)
          simp only [szL_yes (show (N7 : Int) ≤ k - (N6 : Int) by omega)] at G1
          clear H7
          go_wp2_with fail
          refine G1.mono ?_
          rintro e w2 ⟨rfl, hb2⟩
          have hB2 : Below w.heap.size w w2 := hB1.trans (hb2.mono hB1.size)
          replace q8 := cell_on q8 hb2
          replace q9 := cell_on q9 hb2
          replace q10 := cell_on q10 hb2
          clear hb2 G1 q7
          have G2 := H8 w2 (k - (N6 : Int) - (N7 : Int)) hB2 (by omega) (by omega)
          simp only [szL_yes (show (N8 : Int) ≤ k - (N6 : Int) - (N7 : Int) by omega)] at G2
          clear H8
          go_wp2_with fail
          refine G2.mono ?_
          rintro e w3 ⟨rfl, hb3⟩
          have hB3 : Below w.heap.size w w3 := hB2.trans (hb3.mono hB2.size)
          replace q9 := cell_on q9 hb3
          replace q10 := cell_on q10 hb3
          clear hb3 G2 q8
          have G3 := H9 w3 (k - (N6 : Int) - (N7 : Int) - (N8 : Int)) hB3 (by omega) (by omega)
          simp only [szL_no (show ¬ (N9 : Int) ≤ k - (N6 : Int) - (N7 : Int) - (N8 : Int) by omega)] at G3
          clear H9
          go_wp2_with fail
          refine G3.mono ?_
          rintro e w4 ⟨rfl, hb4⟩
          have hB4 : Below w.heap.size w w4 := hB3.trans (hb4.mono hB3.size)
          replace q10 := cell_on q10 hb4
          clear hb4 G3 q9
          go_wp2_with fail
          go_ret
          exact ⟨ret_int (szL_no (by omega)).symm, hB4⟩
      · have g0 : ¬ (k - (N6 : Int) < 0) := by omega
        have g1 : ¬ (k - (N6 : Int) - (N7 : Int) < 0) := by omega
        have G0 := H6 _ (k) hB hk hk2
        simp only [szL_yes (show (N6 : Int) ≤ k by omega)] at G0
        clear H6
        go_enter Try.func4, Try.ntmps4
        go_wp2_with fail
        refine G0.mono ?_
        rintro e w1 ⟨rfl, hb1⟩
        have hB1 : Below w.heap.size w w1 := hB.trans (hb1.mono hB.size)
        replace q7 := cell_on q7 hb1
        replace q8 := cell_on q8 hb1
        replace q9 := cell_on q9 hb1
        replace q10 := cell_on q10 hb1
        clear hb1 G0 q6
        have G1 := H7 w1 (k - (N6 : Int)) hB1 (by omega) (by omega)
        simp only [szL_yes (show (N7 : Int) ≤ k - (N6 : Int) by omega)] at G1
        clear H7
        go_wp2_with fail
        refine G1.mono ?_
        rintro e w2 ⟨rfl, hb2⟩
        have hB2 : Below w.heap.size w w2 := hB1.trans (hb2.mono hB1.size)
        replace q8 := cell_on q8 hb2
        replace q9 := cell_on q9 hb2
        replace q10 := cell_on q10 hb2
        clear hb2 G1 q7
        have G2 := H8 w2 (k - (N6 : Int) - (N7 : Int)) hB2 (by omega) (by omega)
        simp only [szL_no (show ¬ (N8 : Int) ≤ k - (N6 : Int) - (N7 : Int) by omega)] at G2
        clear H8
        go_wp2_with fail
        refine G2.mono ?_
        rintro e w3 ⟨rfl, hb3⟩
        have hB3 : Below w.heap.size w w3 := hB2.trans (hb3.mono hB2.size)
        replace q9 := cell_on q9 hb3
        replace q10 := cell_on q10 hb3
        clear hb3 G2 q8
        go_wp2_with fail
        go_ret
        exact ⟨ret_int (szL_no (by omega)).symm, hB3⟩
    · have g0 : ¬ (k - (N6 : Int) < 0) := by omega
      have G0 := H6 _ (k) hB hk hk2
      simp only [szL_yes (show (N6 : Int) ≤ k by omega)] at G0
      clear H6
      go_enter Try.func4, Try.ntmps4
      go_wp2_with fail
      refine G0.mono ?_
      rintro e w1 ⟨rfl, hb1⟩
      have hB1 : Below w.heap.size w w1 := hB.trans (hb1.mono hB.size)
      replace q7 := cell_on q7 hb1
      replace q8 := cell_on q8 hb1
      replace q9 := cell_on q9 hb1
      replace q10 := cell_on q10 hb1
      clear hb1 G0 q6
      have G1 := H7 w1 (k - (N6 : Int)) hB1 (by omega) (by omega)
      simp only [szL_no (show ¬ (N7 : Int) ≤ k - (N6 : Int) by omega)] at G1
      clear H7
      go_wp2_with fail
      refine G1.mono ?_
      rintro e w2 ⟨rfl, hb2⟩
      have hB2 : Below w.heap.size w w2 := hB1.trans (hb2.mono hB1.size)
      replace q8 := cell_on q8 hb2
      replace q9 := cell_on q9 hb2
      replace q10 := cell_on q10 hb2
      clear hb2 G1 q7
      go_wp2_with fail
      go_ret
      exact ⟨ret_int (szL_no (by omega)).symm, hB2⟩
  · have G0 := H6 _ (k) hB hk hk2
    simp only [szL_no (show ¬ (N6 : Int) ≤ k by omega)] at G0
    clear H6
    go_enter Try.func4, Try.ntmps4
    go_wp2_with fail
    refine G0.mono ?_
    rintro e w1 ⟨rfl, hb1⟩
    have hB1 : Below w.heap.size w w1 := hB.trans (hb1.mono hB.size)
    replace q7 := cell_on q7 hb1
    replace q8 := cell_on q8 hb1
    replace q9 := cell_on q9 hb1
    replace q10 := cell_on q10 hb1
    clear hb1 G0 q6
    go_wp2_with fail
    go_ret
    exact ⟨ret_int (szL_no (by omega)).symm, hB1⟩

set_option maxHeartbeats 8000000 in
theorem szEventSF (l : List Ev) (H : ∀ x ∈ l, SzR 34 x.fl) : SzF 16 (.l 6 (l.map Ev.fl)) := by
  intro w0 v hv w k hb0 hk hk2
  obtain ⟨a, c, rfl, hl0⟩ := (hv.below hb0).list
  clear hv hb0
  have hm : (l.map Ev.fl).length = l.length := by simp [exs_map, sts_map, txts]
  have hat : ∀ j, j < l.length → ∃ x ∈ l, (l.map Ev.fl)[j]? = some (Ev.fl x) := by
    intro j hj
    exact ⟨l[j], List.getElem_mem hj, by simp [exs_map, sts_map, txts, hj]⟩
  generalize hrs : l.map Ev.fl = rs at hl0 hm hat ⊢
  clear hrs
  have hlen : (Fl.l 6 rs).len = rs.length + rowsLen rs := by simp [Fl.len]
  rw [hlen]
  clear hlen
  rw [← hm] at hat
  generalize hn : rs.length = n at hl0 hat ⊢
  clear hm
  have hcn : n ≤ 9223372036854775807 := by have h1 := hl0.cap; have h2 := hl0.most; unfold maxLen at h2; omega
  by_cases hnk : (n : Int) ≤ k
  · have h' : ¬ (k - (n : Int) < 0) := by omega
    have Hd : Hid (rs.length = n) := hn
    have HL : Hid (LRow w a c 6 rs) := hl0
    have HA : Hid (∀ j, j < n → ∃ x ∈ l, rs[j]? = some (Ev.fl x)) := hat
    have HH : Hid (∀ x ∈ l, SzR 34 x.fl) := H
    clear hat H
    rcases Nat.eq_zero_or_pos n with h0 | hpos
    · subst h0
      have e0 : rs = [] := List.eq_nil_of_length_eq_zero Hd.out
      subst e0
      rw [szL_yes (by simpa [rowsLen] using hk)]
      clear hl0 hn
      have h1 : ¬ (k < 0) := by omega
      go_enter Try.func16, Try.ntmps16
      go_wp2_with fail
      refine wp_loop_rounds 1 ?_
      rw [rounds_succ]
      go_wp2_with fail
      go_ret
      exact ⟨ret_int (by simp [rowsLen]), Below.refl _ _⟩
    · obtain ⟨b, off, rfl⟩ := hl0.addr (by rw [hn]; exact hpos)
      clear hl0 hn
      go_enter Try.func16, Try.ntmps16
      go_wp2_with fail
      go_loopw [1, 5] (fun r i wr => ∃ j : Nat, j ≤ n ∧ i = .int .i64 j ∧ ∃ rr : Int, r = .int .i64 rr ∧ 0 ≤ rr ∧ rr ≤ k ∧ Hid (rr = k - (n : Int) - (rowsLen (rs.take j) : Int)) ∧ Below w.heap.size w wr) (fun _ i _ => n - (intOf i).toNat)
      case atStart => exact ⟨0, Nat.zero_le _, rfl, k - (n : Int), rfl, by omega, by omega, by show _ = _; simp [rowsLen], Below.refl _ _⟩
      case round =>
        obtain ⟨j, hj, rfl, rr, rfl, hr0, hrk, hrr, hbr⟩ := hrel
        by_cases hlt : j < n
        · obtain ⟨x, hx, hxj⟩ := HA.out j hlt
          have HN : Hid _ := rowsLen_next hxj
          have HT : Hid _ := rowsLen_take rs (j + 1)
          obtain ⟨vs, hvs, hcl⟩ := ((show LRow w (some ⟨b, off, none⟩) c 6 rs from HL.out).below hbr |>.el hxj).vals
          have HC := HH.out x hx wr vs hvs
          clear hxj
          generalize hN : recLen x.fl = N at HC HN
          obtain ⟨x0, x1, x2, x3, x4, x5⟩ := x
          obtain ⟨y0, _, rfl, rfl, y1, _, rfl, rfl, y2, _, rfl, rfl, y3, _, rfl, rfl, y4, _, rfl, ⟨a4, c4, rfl, d4⟩, y5, _, rfl, rfl, rfl⟩ := hvs
          skip
          skip
          skip
          generalize (List.map Ag.fl x4).length = m4 at HC hcl
          have q0 : wr.cell? ⟨b, off + j * 6, none⟩ = some _ := hcl 0 _ rfl
          have q1 : wr.cell? ⟨b, off + j * 6 + 1, none⟩ = some _ := hcl 1 _ rfl
          have q2 : wr.cell? ⟨b, off + j * 6 + 2, none⟩ = some _ := hcl 2 _ rfl
          have q3 : wr.cell? ⟨b, off + j * 6 + 3, none⟩ = some _ := hcl 3 _ rfl
          have q4 : wr.cell? ⟨b, off + j * 6 + 4, none⟩ = some _ := hcl 4 _ rfl
          have q5 : wr.cell? ⟨b, off + j * 6 + 5, none⟩ = some _ := hcl 5 _ rfl
          clear hcl d4 hx
          clear hN
          replace HC := HC wr rr (Below.refl _ _) hr0 (by omega)
          by_cases hxr : (N : Int) ≤ rr
          · simp only [szL_yes hxr] at HC
            have hx' : ¬ (rr - (N : Int) < 0) := by omega
            go_wp2_with fail
            refine HC.mono ?_
            rintro e w2 ⟨rfl, hb2⟩
            have hbw : Below w.heap.size w w2 := hbr.trans (hb2.mono hbr.size)
            clear q0 q1 q2 q3 q4 q5 HC hb2
            go_wp2_with fail
            go_roundw
            case rel => exact ⟨j + 1, by omega, by go_num, _, rfl, by omega, by omega, by show _ = _; have := hrr.out; rw [HN.out, this]; omega, hbw⟩
            case measure => simp [intOf]; omega
          · simp only [szL_no hxr] at HC
            go_wp2_with fail
            refine HC.mono ?_
            rintro e w2 ⟨rfl, hb2⟩
            have hbw : Below w.heap.size w w2 := hbr.trans (hb2.mono hbr.size)
            clear q0 q1 q2 q3 q4 q5 HC hb2
            go_wp2_with fail
            go_ret
            have h1 := HN.out
            have h2 := HT.out
            have h3 := hrr.out
            rw [h1] at h2
            have hno : ¬ ((n + rowsLen rs : Nat) : Int) ≤ k := by omega
            exact ⟨ret_int (szL_no hno).symm, hbw⟩
        · have : j = n := by omega
          subst this
          go_wp2_with fail
          go_ret
          refine ⟨?_, hbr⟩
          have h3 := hrr.out
          rw [List.take_of_length_le (by rw [Hd.out]; exact Nat.le_refl _)] at h3
          rw [szL_yes (by omega)]
          exact ret_int (by omega)
  · rw [szL_no (by omega)]
    have h' : k - (n : Int) < 0 := by omega
    clear hl0 hat H hn
    go_enter Try.func16, Try.ntmps16
    go_wp2
    go_ret
    exact ⟨rfl, Below.refl _ _⟩

theorem SzV.on {w w1 : World} {F N : Nat} {v : Value} (h : SzV w F v N) (hb : Below w.heap.size w w1) : SzV w1 F v N :=
  fun w2 k hb2 hk hk2 => h w2 k (hb.trans (hb2.mono hb.size)) hk hk2

theorem szEventR (x0 : Int) (x1 : Int) (x2 : Int) (x3 : Int) (x4 : List Ag) (x5 : Int) (S4 : SzF 45 (.l 2 (x4.map Ag.fl))) : SzR 34 (Ev.mk x0 x1 x2 x3 x4 x5).fl := by
  intro w vs hv w1 k hb hk hk2
  obtain ⟨y0, _, rfl, rfl, y1, _, rfl, rfl, y2, _, rfl, rfl, y3, _, rfl, rfl, y4, _, rfl, h4, y5, _, rfl, rfl, rfl⟩ := hv
  have g4 := (S4 w _ h4).on hb
  obtain ⟨a4, c4, rfl, _⟩ := h4
  have e : recLen (Ev.mk x0 x1 x2 x3 x4 x5).fl = (.l 2 (x4.map Ag.fl) : Fl).len := by simp [Ev.fl, recLen, Fl.len]
  rw [e]
  exact szEvent0 x0 x1 x2 x3 a4 _ c4 x5 _ k w1 hk hk2 g4

theorem szResultR (x0 : Int) (x1 : Int) (x2 : Int) (x3 : Int) (x4 : Int) (x5 : Int) (x6 : List Ev) (x7 : List Wo) (x8 : List Wo) (x9 : List Int) (x10 : List Int) (S6 : SzF 16 (.l 6 (x6.map Ev.fl))) (S7 : SzF 17 (.l 7 (x7.map Wo.fl))) (S8 : SzF 17 (.l 7 (x8.map Wo.fl))) : SzR 4 (Rs.mk x0 x1 x2 x3 x4 x5 x6 x7 x8 x9 x10).fl := by
  intro w vs hv w1 k hb hk hk2
  obtain ⟨y0, _, rfl, rfl, y1, _, rfl, rfl, y2, _, rfl, rfl, y3, _, rfl, rfl, y4, _, rfl, rfl, y5, _, rfl, rfl, y6, _, rfl, h6, y7, _, rfl, h7, y8, _, rfl, h8, y9, _, rfl, h9, y10, _, rfl, h10, rfl⟩ := hv
  have g6 := (S6 w _ h6).on hb
  have g7 := (S7 w _ h7).on hb
  have g8 := (S8 w _ h8).on hb
  have g9 := (szIntF x9 w _ h9).on hb
  have g10 := (szIntF x10 w _ h10).on hb
  obtain ⟨a6, c6, rfl, _⟩ := h6
  obtain ⟨a7, c7, rfl, _⟩ := h7
  obtain ⟨a8, c8, rfl, _⟩ := h8
  obtain ⟨a9, c9, rfl, _⟩ := h9
  obtain ⟨a10, c10, rfl, _⟩ := h10
  have e : recLen (Rs.mk x0 x1 x2 x3 x4 x5 x6 x7 x8 x9 x10).fl = (.l 6 (x6.map Ev.fl) : Fl).len + (.l 7 (x7.map Wo.fl) : Fl).len + (.l 7 (x8.map Wo.fl) : Fl).len + (.i x9 : Fl).len + (.i x10 : Fl).len := by simp [Rs.fl, recLen, Fl.len] <;> omega
  rw [e]
  exact szResult0 x0 x1 x2 x3 x4 x5 a6 _ c6 a7 _ c7 a8 _ c8 a9 _ c9 a10 _ c10 _ _ _ _ _ k w1 hk hk2 g6 g7 g8 g9 g10

theorem szArgM (a : Option Addr) (n c : Nat) (k : Int) (w : World) (hk : 0 ≤ k) (hk2 : k ≤ 1048576) (hn : n ≤ 9223372036854775807) :
    Calls Try.prog 45 #[.slice a n c, .int .i64 k] w fun e w' => e = .returned (.int .i64 (szL k n)) ∧ w' = w := by
  by_cases h : (n : Int) ≤ k
  · rw [szL_yes h]
    have h' : ¬ (k - (n : Int) < 0) := by omega
    go_enter Try.func45, Try.ntmps45
    go_wp2
    go_ret
    exact ⟨rfl, rfl⟩
  · rw [szL_no h]
    have h' : k - (n : Int) < 0 := by omega
    go_enter Try.func45, Try.ntmps45
    go_wp2
    go_ret
    exact ⟨rfl, rfl⟩

theorem szArgSF (l : List Ag) : SzF 45 (.l 2 (l.map Ag.fl)) := by
  intro w v hv w1 k hb hk hk2
  obtain ⟨a, c, rfl, h1, h2, _⟩ := hv
  unfold maxLen at h2
  have e0 : ∀ l : List Ag, rowsLen (l.map Ag.fl) = 0 := by
    intro l
    induction l with
    | nil => rfl
    | cons x l ih => simp [rowsLen, Ag.fl, recLen, Fl.len]; exact ih
  have e : (Fl.l 2 (l.map Ag.fl)).len = (l.map Ag.fl).length := by simp only [Fl.len, e0]; rfl
  rw [e]
  refine (szArgM a _ c k w1 hk hk2 (by omega)).mono ?_
  rintro e w' ⟨rfl, rfl⟩
  exact ⟨rfl, Below.refl _ _⟩

theorem szWordM (a : Option Addr) (n c : Nat) (k : Int) (w : World) (hk : 0 ≤ k) (hk2 : k ≤ 1048576) (hn : n ≤ 9223372036854775807) :
    Calls Try.prog 17 #[.slice a n c, .int .i64 k] w fun e w' => e = .returned (.int .i64 (szL k n)) ∧ w' = w := by
  by_cases h : (n : Int) ≤ k
  · rw [szL_yes h]
    have h' : ¬ (k - (n : Int) < 0) := by omega
    go_enter Try.func17, Try.ntmps17
    go_wp2
    go_ret
    exact ⟨rfl, rfl⟩
  · rw [szL_no h]
    have h' : k - (n : Int) < 0 := by omega
    go_enter Try.func17, Try.ntmps17
    go_wp2
    go_ret
    exact ⟨rfl, rfl⟩

theorem szWordSF (l : List Wo) : SzF 17 (.l 7 (l.map Wo.fl)) := by
  intro w v hv w1 k hb hk hk2
  obtain ⟨a, c, rfl, h1, h2, _⟩ := hv
  unfold maxLen at h2
  have e0 : ∀ l : List Wo, rowsLen (l.map Wo.fl) = 0 := by
    intro l
    induction l with
    | nil => rfl
    | cons x l ih => simp [rowsLen, Wo.fl, recLen, Fl.len]; exact ih
  have e : (Fl.l 7 (l.map Wo.fl)).len = (l.map Wo.fl).length := by simp only [Fl.len, e0]; rfl
  rw [e]
  refine (szWordM a _ c k w1 hk hk2 (by omega)).mono ?_
  rintro e w' ⟨rfl, rfl⟩
  exact ⟨rfl, Below.refl _ _⟩

theorem szRs (x : Rs) : SzR 4 x.fl :=
  szResultR x.fin x.code x.who x.mod x.low x.steps x.ev x.regs x.words x.wrote x.read (szEventSF x.ev fun q _ => szEventR q.kind q.fr q.to q.proc q.args q.n (szArgSF q.args)) (szWordSF x.regs) (szWordSF x.words)

end Go.Proofs.Ytpkbeeicffoaoaa

/- What is drawn of bytes and numbers: small, well formed, in memory of its own. -/
import Derived.Test.YtnhebknckgffoaaCur
namespace Go.Proofs.Ytnhebknckgffoaa
open Go.RowKit
set_option linter.unusedVariables false

theorem Cur.kept {w w' : World} {g : Nat} {row : Option Nat} (h : Cur w g) (hg : w.grownBy w' row) (hr : ∀ k, row = some k → g < k) : Cur w' g := by
  obtain ⟨a, n, c, l, i, h, hb, hi0, hi1, hn, hl, hby, hc⟩ := h
  have hlt : g < w.heap.size := (Array.getElem?_eq_some_iff.1 hb).1
  refine ⟨a, n, c, l, i, h, by rw [hg.block g hlt (fun e => by have := hr g e.symm; omega)]; exact hb, hi0, hi1, hn, hl, hby, fun hp => ?_⟩
  obtain ⟨b, off, e, hbg, hcc⟩ := hc hp
  exact ⟨b, off, e, hbg, fun j hj => hg.cell (hcc j hj) (fun e => by have := hr b e.symm; omega)⟩

theorem Cur.lt {w : World} {g : Nat} (h : Cur w g) : g < w.heap.size := by
  obtain ⟨a, n, c, l, i, h, hb, _⟩ := h
  exact (Array.getElem?_eq_some_iff.1 hb).1

theorem Cur.alloc {w : World} {g : Nat} (h : Cur w g) (o : Obj) : Cur (w.alloc o) g := h.kept (World.grownBy_alloc w o none) (by intro k hk; cases hk)

/-- Steps that write above what was there leave what was there but the cursor. -/
theorem grown_over {w w1 w2 : World} {g : Nat} {row : Option Nat} (h1 : w.grownBy w1 (some g)) (h2 : w1.grownBy w2 row) (hr : ∀ k, row = some k → w.heap.size ≤ k) : w.grownBy w2 (some g) :=
  ⟨h2.os.trans h1.os, h2.tape.trans h1.tape, h2.output.trans h1.output, Nat.le_trans h1.size h2.size, fun b hb hne => (h2.block b (Nat.lt_of_lt_of_le hb h1.size) (fun e => by have := hr b e.symm; omega)).trans (h1.block b hb hne)⟩

/-- Below the first block of the call's own nothing turns, the cursor being its own. -/
theorem Below.drawn {B : Nat} {w0 w w' : World} {g : Nat} (h : Below B w0 w) (hd : w.grownBy w' (some g)) (hB : B ≤ w.heap.size) (hg : B ≤ g) : Below B w0 w' :=
  h.grown hd hB (by intro k hk; cases hk; exact hg)

set_option maxRecDepth 100000 in
set_option maxHeartbeats 2000000 in
theorem newM (a : Option Addr) (n c : Nat) (l : List Int) (w : World) (h : BRow w a n l) (hn : n ≤ 9223372036854775807) :
    Calls Try.prog 11 #[.slice a n c] w fun e w' => ∃ g, e = .returned (.pointer (some ⟨g, 0, none⟩)) ∧ w.heap.size ≤ g ∧ Cur w' g ∧ Below w.heap.size w w' := by
  have hcur : ∀ hh : Int, Cur (w.alloc (.cells #[.slice a n c, .int .i64 0, .int .i64 hh] 68)) w.heap.size := by
    intro hh
    refine ⟨a, n, c, l, 0, hh, heap_alloc_new w _, by omega, by omega, hn, h.1, h.2.1, fun hp => ?_⟩
    obtain ⟨b, off, e, hc⟩ := h.2.2 hp
    have hbl : b < w.heap.size := World.block_lt_of_cell? w _ (hc 0 hp)
    exact ⟨b, off, e, hbl, fun j hj => by rw [((Below.refl w.heap.size w).alloc (Nat.le_refl _) _).cell (p := ⟨b, off + j, none⟩) hbl]; exact hc j hj⟩
  have HC : Hid _ := hcur
  clear hcur
  obtain ⟨_, hby, hc⟩ := h
  have ha30 := and30
  rcases Nat.eq_zero_or_pos n with h0 | hpos
  · subst h0
    clear hc hby
    go_enter Try.func11, Try.ntmps11
    go_wp2
    refine wp_loop_rounds 1 ?_
    rw [rounds_succ]
    go_wp2
    go_ret
    exact ⟨_, rfl, Nat.le_refl _, HC.out _, (Below.refl _ _).alloc (Nat.le_refl _) _⟩
  · obtain ⟨b, off, rfl, hd⟩ := hc hpos
    clear hc
    go_enter Try.func11, Try.ntmps11
    go_wp2
    go_loop [3, 4] (fun hh i => ∃ (j : Nat) (q : Int), j ≤ n ∧ i = .int .i64 j ∧ hh = .int .i64 q) (fun _ i => n - (intOf i).toNat)
    case atStart => exact ⟨0, _, Nat.zero_le _, rfl, rfl⟩
    case round =>
      obtain ⟨j, q, hj, rfl, rfl⟩ := hrel
      by_cases hlt : j < n ∧ j < 4000
      · obtain ⟨hlt, hlt2⟩ := hlt
        have hx := hd j hlt
        have hb := byte_at hby j
        clear hd
        go_wp2
        go_round
        case rel => exact ⟨j + 1, _, by omega, by go_num, rfl⟩
        case measure => simp [intOf]; omega
      · clear hd
        by_cases hlt : j < n
        all_goals
          go_wp2
          go_ret
          exact ⟨_, rfl, Nat.le_refl _, HC.out _, (Below.refl _ _).alloc (Nat.le_refl _) _⟩

/-- Bytes that were drawn: a row of the call's own above what was there; the cursor stands. -/
structure MadeD (w w' : World) (g : Nat) (a : Option Addr) (n c : Nat) (l : List Int) : Prop where
  own : Own w' w.heap.size (.slice a n c) n l
  row : BRow w' a n l
  cap : n ≤ c
  most : c ≤ maxLen
  nil : a = none → c = 0
  block : ∀ k, (Value.slice a n c).ownBlock = some k → w.heap.size ≤ k ∧ k < w'.heap.size
  drawn : Drawn w w' g

theorem Own.madeD {w w' : World} {g : Nat} {v : Value} {n : Nat} {l : List Int} (h : Own w' w.heap.size v n l) (hd : Drawn w w' g) : ∃ a c, v = .slice a n c ∧ MadeD w w' g a n c l := by
  have hnil : ∀ c, v = .slice none n c → c = 0 := by
    intro c hv
    rcases h.1.2 with ⟨e, _⟩ | ⟨g, cap, cur, e, _⟩
    · rw [hv] at e; simp only [Value.slice.injEq] at e; exact e.2.2
    · rw [hv] at e; simp at e
  obtain ⟨a, c, rfl, h1, h2, h3, h4⟩ := h.shape
  exact ⟨a, c, rfl, h, h3, h1, h2, fun e => hnil c (by rw [e]), h4, hd⟩

end Go.Proofs.Ytnhebknckgffoaa

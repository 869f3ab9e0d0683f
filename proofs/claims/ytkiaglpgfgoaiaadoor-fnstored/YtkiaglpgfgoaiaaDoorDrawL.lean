/- The drawn arguments of Store: a memory, a word, an int, a word. -/
import Derived.Test.YtkiaglpgfgoaiaaDoorDrawM
namespace Go.Proofs.YtkiaglpgfgoaiaaDoor
open Go.RowKit
set_option linter.unusedVariables false
set_option linter.unusedSimpArgs false
set_option maxRecDepth 100000

/-- Where the draw stands: three results' blocks from gs on, the cursor g, the memory's variable gm, the word's gw. -/
structure LS (w : World) (gs : Nat) (wr : World) (g gm gw : Nat) (a : Option Addr) (n c : Nat) (l : List Wd) (v0 v1 v2 v3 v4 v5 v6 : Value) : Prop where
  r0 : wr.heap[gs]? = some (.cells #[.slice none 0 0] 25 (0, 0))
  r1 : wr.heap[gs + 1]? = some (.cells #[.bool false, .int .i64 0, .int .i64 0, .int .i64 0, .int .i64 0, .int .i64 0, .int .i64 0] 27 (0, 0))
  r2 : wr.heap[gs + 2]? = some (.cells #[.bool false, .int .i64 0, .int .i64 0, .int .i64 0, .int .i64 0, .int .i64 0, .int .i64 0] 27 (0, 0))
  bl : Below gs w wr
  cu : Cur wr g
  mm : wr.heap[gm]? = some (.cells #[.slice a n c] 25 (0, 0))
  xx : wr.heap[gw]? = some (.cells #[v0, v1, v2, v3, v4, v5, v6] 27 (0, 0))
  md : MemD (g + 1) wr a n l
  hi : ∀ gb, a = some ⟨gb, 0, none⟩ → 0 < n → gb < gm
  o1 : gs + 2 < g
  o2 : g < gm
  o3 : gm < gw
  sz : gw < wr.heap.size

theorem LS.grow {w wr w' : World} {gs g gm gw n c : Nat} {a : Option Addr} {l : List Wd} {v0 v1 v2 v3 v4 v5 v6 : Value} {row : Option Nat} (h : LS w gs wr g gm gw a n c l v0 v1 v2 v3 v4 v5 v6) (hgr : wr.grownBy w' row) (hrow : ∀ k, row = some k → k = g) (hc : Cur w' g) : LS w gs w' g gm gw a n c l v0 v1 v2 v3 v4 v5 v6 := by
  have h1 := h.o1
  have h2 := h.o2
  have h3 := h.o3
  have h4 := h.sz
  have hne : ∀ k, k ≠ g → some k ≠ row := fun k hk e => hk (hrow k e.symm)
  refine ⟨(hgr.block _ (by omega) (hne _ (by omega))).trans h.r0, (hgr.block _ (by omega) (hne _ (by omega))).trans h.r1, (hgr.block _ (by omega) (hne _ (by omega))).trans h.r2, h.bl.grown hgr (by omega) (fun k hk => by have := hrow k hk; omega), hc, (hgr.block _ (by omega) (hne _ (by omega))).trans h.mm, (hgr.block _ (by omega) (hne _ (by omega))).trans h.xx, h.md.kept hgr (fun k hk => by have := hrow k hk; omega), h.hi, h1, h2, h3, Nat.lt_of_lt_of_le h4 hgr.size⟩
theorem LS.drawn {w wr w' : World} {gs g gm gw n c : Nat} {a : Option Addr} {l : List Wd} {v0 v1 v2 v3 v4 v5 v6 : Value} (h : LS w gs wr g gm gw a n c l v0 v1 v2 v3 v4 v5 v6) (hd : Drawn wr w' g) : LS w gs w' g gm gw a n c l v0 v1 v2 v3 v4 v5 v6 :=
  h.grow hd.2 (by intro k hk; cases hk; rfl) hd.1
theorem LS.below {w wr w' : World} {gs g gm gw n c : Nat} {a : Option Addr} {l : List Wd} {v0 v1 v2 v3 v4 v5 v6 : Value} (h : LS w gs wr g gm gw a n c l v0 v1 v2 v3 v4 v5 v6) (hb : Below wr.heap.size wr w') : LS w gs w' g gm gw a n c l v0 v1 v2 v3 v4 v5 v6 :=
  h.grow (row := none) (below_grows hb) (by intro k hk; cases hk) (h.cu.kept (row := none) (below_grows hb) (by intro k hk; cases hk))
theorem LS.alloc {w wr : World} {gs g gm gw n c : Nat} {a : Option Addr} {l : List Wd} {v0 v1 v2 v3 v4 v5 v6 : Value} (h : LS w gs wr g gm gw a n c l v0 v1 v2 v3 v4 v5 v6) (o : Obj) : LS w gs (wr.alloc o) g gm gw a n c l v0 v1 v2 v3 v4 v5 v6 := h.below ((Below.refl _ _).alloc (Nat.le_refl _) _)

/-- The word's variable written. -/
theorem LS.word {w wr w' : World} {gs g gm gw n c : Nat} {a : Option Addr} {l : List Wd} {v0 v1 v2 v3 v4 v5 v6 u0 u1 u2 u3 u4 u5 u6 : Value} (h : LS w gs wr g gm gw a n c l v0 v1 v2 v3 v4 v5 v6) (hgr : wr.grownBy w' (some gw)) (hx : w'.heap[gw]? = some (.cells #[u0, u1, u2, u3, u4, u5, u6] 27 (0, 0))) : LS w gs w' g gm gw a n c l u0 u1 u2 u3 u4 u5 u6 := by
  have h1 := h.o1
  have h2 := h.o2
  have h3 := h.o3
  have h4 := h.sz
  have hne : ∀ k, k ≠ gw → some k ≠ some gw := fun k hk e => hk (by simpa using e)
  refine ⟨(hgr.block _ (by omega) (hne _ (by omega))).trans h.r0, (hgr.block _ (by omega) (hne _ (by omega))).trans h.r1, (hgr.block _ (by omega) (hne _ (by omega))).trans h.r2, h.bl.grown hgr (by omega) (fun k hk => by cases hk; omega), h.cu.kept hgr (by intro k hk; cases hk; omega), (hgr.block _ (by omega) (hne _ (by omega))).trans h.mm, hx, ?_, h.hi, h1, h2, h3, Nat.lt_of_lt_of_le h4 hgr.size⟩
  refine ⟨h.md.1, h.md.2.1, fun hn => ?_, h.md.2.2.2⟩
  obtain ⟨gb, e, hw, hb⟩ := h.md.2.2.1 hn
  have hlt := h.hi gb e hn
  exact ⟨gb, e, hw.of (hgr.block gb hw.lt (hne _ (by omega))), hb⟩

theorem LS.facts {w wr : World} {gs g gm gw n c : Nat} {a : Option Addr} {l : List Wd} (xt : Bool) (xn xl xh xa xp xs : Int) (h : LS w gs wr g gm gw a n c l (.bool xt) (.int .i64 xn) (.int .i64 xl) (.int .i64 xh) (.int .i64 xa) (.int .i64 xp) (.int .i64 xs)) : wr.cell? ⟨gm, 0, none⟩ = some (.slice a n c) ∧ wr.cell? ⟨gw, 0, none⟩ = some (.bool xt) ∧ wr.cell? ⟨gw, 1, none⟩ = some (.int .i64 xn) ∧ wr.cell? ⟨gw, 2, none⟩ = some (.int .i64 xl) ∧ wr.cell? ⟨gw, 3, none⟩ = some (.int .i64 xh) ∧ wr.cell? ⟨gw, 4, none⟩ = some (.int .i64 xa) ∧ wr.cell? ⟨gw, 5, none⟩ = some (.int .i64 xp) ∧ wr.cell? ⟨gw, 6, none⟩ = some (.int .i64 xs) := by
  obtain ⟨m0, _⟩ := one_facts h.mm
  obtain ⟨y0, y1, y2, y3, y4, y5, y6, _⟩ := row_facts h.xx
  exact ⟨m0, y0, y1, y2, y3, y4, y5, y6⟩

/-- The same ahead of the word's variable. -/
structure L0 (w : World) (gs : Nat) (wr : World) (g gm : Nat) (a : Option Addr) (n c : Nat) (l : List Wd) : Prop where
  r0 : wr.heap[gs]? = some (.cells #[.slice none 0 0] 25 (0, 0))
  r1 : wr.heap[gs + 1]? = some (.cells #[.bool false, .int .i64 0, .int .i64 0, .int .i64 0, .int .i64 0, .int .i64 0, .int .i64 0] 27 (0, 0))
  r2 : wr.heap[gs + 2]? = some (.cells #[.bool false, .int .i64 0, .int .i64 0, .int .i64 0, .int .i64 0, .int .i64 0, .int .i64 0] 27 (0, 0))
  bl : Below gs w wr
  cu : Cur wr g
  mm : wr.heap[gm]? = some (.cells #[.slice a n c] 25 (0, 0))
  md : MemD (g + 1) wr a n l
  hi : ∀ gb, a = some ⟨gb, 0, none⟩ → 0 < n → gb < gm
  o1 : gs + 2 < g
  o2 : g < gm
  sz : gm < wr.heap.size

theorem L0.grow {w wr w' : World} {gs g gm n c : Nat} {a : Option Addr} {l : List Wd} {row : Option Nat} (h : L0 w gs wr g gm a n c l) (hgr : wr.grownBy w' row) (hrow : ∀ k, row = some k → k = g) (hc : Cur w' g) : L0 w gs w' g gm a n c l := by
  have h1 := h.o1
  have h2 := h.o2
  have h4 := h.sz
  have hne : ∀ k, k ≠ g → some k ≠ row := fun k hk e => hk (hrow k e.symm)
  exact ⟨(hgr.block _ (by omega) (hne _ (by omega))).trans h.r0, (hgr.block _ (by omega) (hne _ (by omega))).trans h.r1, (hgr.block _ (by omega) (hne _ (by omega))).trans h.r2, h.bl.grown hgr (by omega) (fun k hk => by have := hrow k hk; omega), hc, (hgr.block _ (by omega) (hne _ (by omega))).trans h.mm, h.md.kept hgr (fun k hk => by have := hrow k hk; omega), h.hi, h1, h2, Nat.lt_of_lt_of_le h4 hgr.size⟩
theorem L0.drawn {w wr w' : World} {gs g gm n c : Nat} {a : Option Addr} {l : List Wd} (h : L0 w gs wr g gm a n c l) (hd : Drawn wr w' g) : L0 w gs w' g gm a n c l := h.grow hd.2 (by intro k hk; cases hk; rfl) hd.1
theorem L0.alloc {w wr : World} {gs g gm n c : Nat} {a : Option Addr} {l : List Wd} (h : L0 w gs wr g gm a n c l) (o : Obj) : L0 w gs (wr.alloc o) g gm a n c l := h.grow (row := none) (World.grownBy_alloc wr o none) (by intro k hk; cases hk) (h.cu.alloc o)
theorem L0.var {w wr : World} {gs g gm n c : Nat} {a : Option Addr} {l : List Wd} {v0 v1 v2 v3 v4 v5 v6 : Value} (h : L0 w gs wr g gm a n c l) : LS w gs (wr.alloc (.cells #[v0, v1, v2, v3, v4, v5, v6] 27)) g gm wr.heap.size a n c l v0 v1 v2 v3 v4 v5 v6 := by
  have h' := h.alloc (.cells #[v0, v1, v2, v3, v4, v5, v6] 27)
  exact ⟨h'.r0, h'.r1, h'.r2, h'.bl, h'.cu, h'.mm, heap_alloc_new wr _, h'.md, h'.hi, h'.o1, h'.o2, h.sz, by simp⟩

/-- While the results are written. -/
structure RS (w : World) (gs : Nat) (wr : World) (g gm gw : Nat) (a : Option Addr) (n c : Nat) (l : List Wd) (A0 A1 A2 : Array Value) (v0 v1 v2 v3 v4 v5 v6 : Value) : Prop where
  r0 : wr.heap[gs]? = some (.cells A0 25 (0, 0))
  r1 : wr.heap[gs + 1]? = some (.cells A1 27 (0, 0))
  r2 : wr.heap[gs + 2]? = some (.cells A2 27 (0, 0))
  bl : Below gs w wr
  mm : wr.heap[gm]? = some (.cells #[.slice a n c] 25 (0, 0))
  xx : wr.heap[gw]? = some (.cells #[v0, v1, v2, v3, v4, v5, v6] 27 (0, 0))
  md : MemD (g + 1) wr a n l
  o1 : gs + 2 < g
  o2 : g < gm
  o3 : gm < gw
  sz : gw < wr.heap.size
theorem LS.rs {w wr : World} {gs g gm gw n c : Nat} {a : Option Addr} {l : List Wd} {v0 v1 v2 v3 v4 v5 v6 : Value} (h : LS w gs wr g gm gw a n c l v0 v1 v2 v3 v4 v5 v6) : RS w gs wr g gm gw a n c l #[.slice none 0 0] #[.bool false, .int .i64 0, .int .i64 0, .int .i64 0, .int .i64 0, .int .i64 0, .int .i64 0] #[.bool false, .int .i64 0, .int .i64 0, .int .i64 0, .int .i64 0, .int .i64 0, .int .i64 0] v0 v1 v2 v3 v4 v5 v6 := ⟨h.r0, h.r1, h.r2, h.bl, h.mm, h.xx, h.md, h.o1, h.o2, h.o3, h.sz⟩
theorem RS.facts {w wr : World} {gs g gm gw n c : Nat} {a : Option Addr} {l : List Wd} {A0 A1 A2 : Array Value} (xt : Bool) (xn xl xh xa xp xs : Int) (h : RS w gs wr g gm gw a n c l A0 A1 A2 (.bool xt) (.int .i64 xn) (.int .i64 xl) (.int .i64 xh) (.int .i64 xa) (.int .i64 xp) (.int .i64 xs)) : wr.cell? ⟨gm, 0, none⟩ = some (.slice a n c) ∧ wr.cell? ⟨gw, 0, none⟩ = some (.bool xt) ∧ wr.cell? ⟨gw, 1, none⟩ = some (.int .i64 xn) ∧ wr.cell? ⟨gw, 2, none⟩ = some (.int .i64 xl) ∧ wr.cell? ⟨gw, 3, none⟩ = some (.int .i64 xh) ∧ wr.cell? ⟨gw, 4, none⟩ = some (.int .i64 xa) ∧ wr.cell? ⟨gw, 5, none⟩ = some (.int .i64 xp) ∧ wr.cell? ⟨gw, 6, none⟩ = some (.int .i64 xs) := by
  obtain ⟨m0, _⟩ := one_facts h.mm
  obtain ⟨y0, y1, y2, y3, y4, y5, y6, _⟩ := row_facts h.xx
  exact ⟨m0, y0, y1, y2, y3, y4, y5, y6⟩
theorem RS.set0 {w wr w' : World} {gs g gm gw n c : Nat} {a : Option Addr} {l : List Wd} {A0 A1 A2 B : Array Value} {v0 v1 v2 v3 v4 v5 v6 : Value} (h : RS w gs wr g gm gw a n c l A0 A1 A2 v0 v1 v2 v3 v4 v5 v6) (hgr : wr.grownBy w' (some (gs))) (hB : w'.heap[gs]? = some (.cells B 25 (0, 0))) : RS w gs w' g gm gw a n c l B A1 A2 v0 v1 v2 v3 v4 v5 v6 := by
  have h1 := h.o1
  have h2 := h.o2
  have h3 := h.o3
  have h4 := h.sz
  have ne : ∀ k, k ≠ gs → some k ≠ some (gs) := fun k hk e => hk (by simpa using e)
  exact ⟨hB, (hgr.block _ (by omega) (ne _ (by omega))).trans h.r1, (hgr.block _ (by omega) (ne _ (by omega))).trans h.r2, h.bl.grown hgr (by omega) (fun k hk => by cases hk; omega), (hgr.block _ (by omega) (ne _ (by omega))).trans h.mm, (hgr.block _ (by omega) (ne _ (by omega))).trans h.xx, h.md.kept hgr (by intro k hk; cases hk; omega), h1, h2, h3, Nat.lt_of_lt_of_le h4 hgr.size⟩
theorem RS.set1 {w wr w' : World} {gs g gm gw n c : Nat} {a : Option Addr} {l : List Wd} {A0 A1 A2 B : Array Value} {v0 v1 v2 v3 v4 v5 v6 : Value} (h : RS w gs wr g gm gw a n c l A0 A1 A2 v0 v1 v2 v3 v4 v5 v6) (hgr : wr.grownBy w' (some (gs + 1))) (hB : w'.heap[gs + 1]? = some (.cells B 27 (0, 0))) : RS w gs w' g gm gw a n c l A0 B A2 v0 v1 v2 v3 v4 v5 v6 := by
  have h1 := h.o1
  have h2 := h.o2
  have h3 := h.o3
  have h4 := h.sz
  have ne : ∀ k, k ≠ gs + 1 → some k ≠ some (gs + 1) := fun k hk e => hk (by simpa using e)
  exact ⟨(hgr.block _ (by omega) (ne _ (by omega))).trans h.r0, hB, (hgr.block _ (by omega) (ne _ (by omega))).trans h.r2, h.bl.grown hgr (by omega) (fun k hk => by cases hk; omega), (hgr.block _ (by omega) (ne _ (by omega))).trans h.mm, (hgr.block _ (by omega) (ne _ (by omega))).trans h.xx, h.md.kept hgr (by intro k hk; cases hk; omega), h1, h2, h3, Nat.lt_of_lt_of_le h4 hgr.size⟩
theorem RS.set2 {w wr w' : World} {gs g gm gw n c : Nat} {a : Option Addr} {l : List Wd} {A0 A1 A2 B : Array Value} {v0 v1 v2 v3 v4 v5 v6 : Value} (h : RS w gs wr g gm gw a n c l A0 A1 A2 v0 v1 v2 v3 v4 v5 v6) (hgr : wr.grownBy w' (some (gs + 2))) (hB : w'.heap[gs + 2]? = some (.cells B 27 (0, 0))) : RS w gs w' g gm gw a n c l A0 A1 B v0 v1 v2 v3 v4 v5 v6 := by
  have h1 := h.o1
  have h2 := h.o2
  have h3 := h.o3
  have h4 := h.sz
  have ne : ∀ k, k ≠ gs + 2 → some k ≠ some (gs + 2) := fun k hk e => hk (by simpa using e)
  exact ⟨(hgr.block _ (by omega) (ne _ (by omega))).trans h.r0, (hgr.block _ (by omega) (ne _ (by omega))).trans h.r1, hB, h.bl.grown hgr (by omega) (fun k hk => by cases hk; omega), (hgr.block _ (by omega) (ne _ (by omega))).trans h.mm, (hgr.block _ (by omega) (ne _ (by omega))).trans h.xx, h.md.kept hgr (by intro k hk; cases hk; omega), h1, h2, h3, Nat.lt_of_lt_of_le h4 hgr.size⟩
theorem nine_in (n q : Int) (hn : InInt n) (hq : InInt q) : ∀ x ∈ [0, 1, 2, -1, 5, n, 9223372036854775807, -9223372036854775808, q], InInt x := by
  intro x hx
  simp only [List.mem_cons, List.not_mem_nil, or_false] at hx
  rcases hx with rfl | rfl | rfl | rfl | rfl | rfl | rfl | rfl | rfl
  all_goals first | exact hn | exact hq | exact ⟨by omega, by omega⟩

set_option maxHeartbeats 8000000 in
theorem l3drawM (ar : Option Addr) (nr cr : Nat) (lr : List Int) (w : World) (h : BRow w ar nr lr) (hnr : nr ≤ 9223372036854775807) :
    Calls Tryd.prog 9 #[.slice ar nr cr] w fun e w' => ∃ a n c l xt xn xl xh xa xp xs by_ yt yn yl yh ya yp ys, e = .returned (.tuple #[.agg #[.slice a n c], .agg #[.bool xt, .int .i64 xn, .int .i64 xl, .int .i64 xh, .int .i64 xa, .int .i64 xp, .int .i64 xs], .int .i64 by_, .agg #[.bool yt, .int .i64 yn, .int .i64 yl, .int .i64 yh, .int .i64 ya, .int .i64 yp, .int .i64 ys]]) ∧ In64 xs ∧ In64 ys ∧ InInt by_ ∧ MemD w.heap.size w' a n l ∧ Below w.heap.size w w' := by
  have hb0 : Below w.heap.size w (((w.alloc (.cells #[.slice none 0 0] 25)).alloc (.cells #[.bool false, .int .i64 0, .int .i64 0, .int .i64 0, .int .i64 0, .int .i64 0, .int .i64 0] 27)).alloc (.cells #[.bool false, .int .i64 0, .int .i64 0, .int .i64 0, .int .i64 0, .int .i64 0, .int .i64 0] 27)) := (((Below.refl _ _).alloc (Nat.le_refl _) _).alloc (by simp) _).alloc (by simp; omega) _
  have hr0 : (((w.alloc (.cells #[.slice none 0 0] 25)).alloc (.cells #[.bool false, .int .i64 0, .int .i64 0, .int .i64 0, .int .i64 0, .int .i64 0, .int .i64 0] 27)).alloc (.cells #[.bool false, .int .i64 0, .int .i64 0, .int .i64 0, .int .i64 0, .int .i64 0, .int .i64 0] 27)).heap[w.heap.size]? = some (.cells #[.slice none 0 0] 25 (0, 0)) := by
    rw [alloc_block (by simp; omega), alloc_block (by simp)]; exact heap_alloc_new w _
  have hr1 : (((w.alloc (.cells #[.slice none 0 0] 25)).alloc (.cells #[.bool false, .int .i64 0, .int .i64 0, .int .i64 0, .int .i64 0, .int .i64 0, .int .i64 0] 27)).alloc (.cells #[.bool false, .int .i64 0, .int .i64 0, .int .i64 0, .int .i64 0, .int .i64 0, .int .i64 0] 27)).heap[w.heap.size + 1]? = some (.cells #[.bool false, .int .i64 0, .int .i64 0, .int .i64 0, .int .i64 0, .int .i64 0, .int .i64 0] 27 (0, 0)) := by
    rw [alloc_block (by simp)]
    have := heap_alloc_new (w.alloc (.cells #[.slice none 0 0] 25)) (.cells #[.bool false, .int .i64 0, .int .i64 0, .int .i64 0, .int .i64 0, .int .i64 0, .int .i64 0] 27)
    simpa using this
  have hr2 : (((w.alloc (.cells #[.slice none 0 0] 25)).alloc (.cells #[.bool false, .int .i64 0, .int .i64 0, .int .i64 0, .int .i64 0, .int .i64 0, .int .i64 0] 27)).alloc (.cells #[.bool false, .int .i64 0, .int .i64 0, .int .i64 0, .int .i64 0, .int .i64 0, .int .i64 0] 27)).heap[w.heap.size + 2]? = some (.cells #[.bool false, .int .i64 0, .int .i64 0, .int .i64 0, .int .i64 0, .int .i64 0, .int .i64 0] 27 (0, 0)) := by
    have := heap_alloc_new ((w.alloc (.cells #[.slice none 0 0] 25)).alloc (.cells #[.bool false, .int .i64 0, .int .i64 0, .int .i64 0, .int .i64 0, .int .i64 0, .int .i64 0] 27)) (.cells #[.bool false, .int .i64 0, .int .i64 0, .int .i64 0, .int .i64 0, .int .i64 0, .int .i64 0] 27)
    simpa using this
  have hsz : (((w.alloc (.cells #[.slice none 0 0] 25)).alloc (.cells #[.bool false, .int .i64 0, .int .i64 0, .int .i64 0, .int .i64 0, .int .i64 0, .int .i64 0] 27)).alloc (.cells #[.bool false, .int .i64 0, .int .i64 0, .int .i64 0, .int .i64 0, .int .i64 0, .int .i64 0] 27)).heap.size = w.heap.size + 3 := by simp
  have hR := h.below hb0
  clear h
  go_enter Tryd.func9, Tryd.ntmps9
  go_upto_region 1 with fail
  generalize ((w.alloc (.cells #[.slice none 0 0] 25)).alloc (.cells #[.bool false, .int .i64 0, .int .i64 0, .int .i64 0, .int .i64 0, .int .i64 0, .int .i64 0] 27)).alloc (.cells #[.bool false, .int .i64 0, .int .i64 0, .int .i64 0, .int .i64 0, .int .i64 0, .int .i64 0] 27) = w1 at *
  generalize hg : w.heap.size = gs at *
  have HG : Hid (w.heap.size = gs) := hg
  have HR : Hid (BRow w1 ar nr lr) := hR
  have H0 : Hid (w1.heap[gs]? = some (.cells #[.slice none 0 0] 25 (0, 0)) ∧ w1.heap[gs + 1]? = some (.cells #[.bool false, .int .i64 0, .int .i64 0, .int .i64 0, .int .i64 0, .int .i64 0, .int .i64 0] 27 (0, 0)) ∧ w1.heap[gs + 2]? = some (.cells #[.bool false, .int .i64 0, .int .i64 0, .int .i64 0, .int .i64 0, .int .i64 0, .int .i64 0] 27 (0, 0)) ∧ Below gs w w1 ∧ w1.heap.size = gs + 3) := ⟨hr0, hr1, hr2, hb0, hsz⟩
  clear hg hR hr0 hr1 hr2 hb0 hsz
  go_wp2_with fail
  refine (newM ar nr cr lr w1 HR.out hnr).mono ?_
  rintro e w2 ⟨g, rfl, hg2, hc2, hb2⟩
  have HC2 : Hid (Cur w2 g) := hc2
  have HB2 : Hid (Below w1.heap.size w1 w2) := hb2
  have HG2 : Hid (w1.heap.size ≤ g) := hg2
  clear hg2 hc2 hb2 HR
  go_wp2_with fail
  refine (memoryM g w2 HC2.out).mono ?_
  rintro e w3 ⟨a, n, c, l, rfl, hmd, hd3⟩
  have hn40 : n ≤ 40 := hmd.2.1
  have L3 : Hid (L0 w gs (w3.alloc (.cells #[.slice a n c] 25)) g w3.heap.size a n c l) := by
    obtain ⟨q0, q1, q2, qb, qs⟩ := H0.out
    have hge := HG2.out
    have hb := HB2.out
    have hgl := HC2.out.lt
    have hs3 := hd3.2.size
    have hne : ∀ k, k ≠ g → some k ≠ some g := fun k hk e => hk (by simpa using e)
    have k0 := (hd3.2.block gs (by have := hb.size; omega) (hne _ (by omega))).trans ((hb.block gs (by omega)).trans q0)
    have k1 := (hd3.2.block (gs + 1) (by have := hb.size; omega) (hne _ (by omega))).trans ((hb.block (gs + 1) (by omega)).trans q1)
    have k2 := (hd3.2.block (gs + 2) (by have := hb.size; omega) (hne _ (by omega))).trans ((hb.block (gs + 2) (by omega)).trans q2)
    have kb := (qb.trans (hb.mono (by omega))).grown hd3.2 (by have := hb.size; omega) (fun k hk => by cases hk; omega)
    have kmd := hmd.mono (show g + 1 ≤ w2.heap.size by omega)
    refine ⟨(alloc_block (by omega)).trans k0, (alloc_block (by omega)).trans k1, (alloc_block (by omega)).trans k2, kb.alloc (by omega) _, hd3.1.alloc _, heap_alloc_new w3 _, kmd.kept (row := none) (World.grownBy_alloc w3 _ none) (by intro k hk; cases hk), ?_, by omega, by omega, by simp⟩
    intro gb e hp
    obtain ⟨gb', e', hw, _⟩ := hmd.2.2.1 hp
    rw [e'] at e
    cases e
    exact hw.lt
  clear hmd hd3 H0 HC2 HB2 HG2
  go_upto_region 3 with fail
  generalize w3.alloc (.cells #[.slice a n c] 25) = w4 at *
  generalize w3.heap.size = gm at *
  obtain ⟨cm, _⟩ := one_facts L3.out.mm
  have hnI : InInt (n : Int) := ⟨by omega, by omega⟩
  go_wp2_with fail
  refine (belowM g _ w4 L3.out.cu (by omega)).mono ?_
  rintro e w5 ⟨lo, rfl, lo0, lo1, _, hd5⟩
  replace lo1 := lo1 (by omega)
  have L5 : Hid (L0 w gs w5 g gm a n c l) := L3.out.drawn hd5
  clear hd5 L3 cm
  go_wp2_with fail
  refine (belowM g _ w5 L5.out.cu (by omega)).mono ?_
  rintro e w6 ⟨z, rfl, z0, z1, _, hd6⟩
  replace z1 := z1 (by omega)
  have L6 : Hid (L0 w gs w6 g gm a n c l) := L5.out.drawn hd6
  have hl6 : g < w6.heap.size := L6.out.cu.lt
  clear hd6 L5
  go_wp2_with fail
  refine (pickM g w6.heap.size 8 8 _ (L6.out.cu.alloc _) hl6 (by omega) (by omega) (ints_block w6 [31, 7, 15, 3, 1, 2, 23, 0] (inInt_all _ (by decide)))).mono ?_
  rintro e w7 ⟨p, rfl, hp, hd7⟩
  have L7 : Hid (L0 w gs w7 g gm a n c l) := (L6.out.alloc _).drawn hd7
  clear hd7 L6 hl6 hp
  go_upto_region 5 with fail
  rw [show gs + 1 + 1 = gs + 2 from rfl]
  have L8 : Hid (LS w gs (w7.alloc (.cells #[.bool true, .int .i64 0, .int .i64 lo, .int .i64 ((n : Int) - z), .int .i64 0, .int .i64 p, .int .i64 0] 27)) g gm w7.heap.size a n c l (.bool true) (.int .i64 0) (.int .i64 lo) (.int .i64 ((n : Int) - z)) (.int .i64 0) (.int .i64 p) (.int .i64 0)) := L7.out.var
  clear L7
  generalize w7.alloc (.cells #[.bool true, .int .i64 0, .int .i64 lo, .int .i64 ((n : Int) - z), .int .i64 0, .int .i64 p, .int .i64 0] 27) = w8 at *
  generalize w7.heap.size = gw at *
  have L8d : Hid (LS w gs w8.drew g gm gw a n c l (.bool true) (.int .i64 0) (.int .i64 lo) (.int .i64 ((n : Int) - z)) (.int .i64 0) (.int .i64 p) (.int .i64 0)) := L8.out.below (Below.refl _ _).drew
  clear L8
  refine wp_region_held_drew (S := fun wx => wx.cell? ⟨gw, 2, none⟩ = some (.int .i64 lo)) (by kernel_rfl) (row_facts L8d.out.xx).2.2.1 (fun hHeld => ?_)
  generalize w8.drew = wS0 at L8d hHeld ⊢
  have HC : Hid (Cur wS0 g) := L8d.out.cu
  refine wpAnyH_take (i := 0) (oi := ?o501) (v := ?v501) ?i501 (by kernel_rfl) (by kernel_rfl) (by kernel_rfl) ?q501 ?y501 (hHeld) ?r501
  case i501 => exact rfl
  case q501 => exact (fun _ _ _ h => h)
  case y501 =>
    refine Or.inl ⟨by rfl, ?_⟩
    intro w hSw
    (try dsimp only at hSw)
    go_simp
    first | done | rfl
  try simp only [Act.put, List.getElem_toArray, List.getElem_cons_zero, List.getElem_cons_succ, List.setIfInBounds_toArray, List.set_cons_zero, List.set_cons_succ]
  refine wpAnyH_take (i := 1) (oi := ?o502) (v := ?v502) ?i502 (by kernel_rfl) (by kernel_rfl) (by kernel_rfl) ?q502 ?y502 (hHeld) ?r502
  case i502 => exact rfl
  case q502 => exact (fun _ _ _ h => h)
  case y502 =>
    refine Or.inl ⟨by rfl, ?_⟩
    intro w hSw
    (try dsimp only at hSw)
    go_simp
    first | done | rfl
  try simp only [Act.put, List.getElem_toArray, List.getElem_cons_zero, List.getElem_cons_succ, List.setIfInBounds_toArray, List.set_cons_zero, List.set_cons_succ]
  refine wpAnyH_take (i := 2) (oi := ?o503) (v := ?v503) ?i503 (by kernel_rfl) (by kernel_rfl) (by kernel_rfl) ?q503 ?y503 (hHeld) ?r503
  case i503 => exact rfl
  case q503 => exact (fun _ _ _ h => h)
  case y503 =>
    refine Or.inl ⟨by rfl, ?_⟩
    intro w hSw
    (try dsimp only at hSw)
    go_simp
    first | done | rfl
  try simp only [Act.put, List.getElem_toArray, List.getElem_cons_zero, List.getElem_cons_succ, List.setIfInBounds_toArray, List.set_cons_zero, List.set_cons_succ]
  refine wpAnyH_ready (rs := [3]) (by kernel_rfl) (by simp) ?_
  refine AllReadyH.cons (i := 3) (o := ?o504) ?i504 (fun K hK => ?_) AllReadyH.nil
  case i504 => exact rfl
  go_simp
  (with_reducible refine (belowM g _ wS0 HC.out (by omega)).mono ?_)
  rintro e wQ ⟨q, rfl, q0, q1, _, hdQ⟩
  replace q1 : q < 5 := q1 (by omega)
  have LQ : Hid (LS w gs wQ g gm gw a n c l (.bool true) (.int .i64 0) (.int .i64 lo) (.int .i64 ((n : Int) - z)) (.int .i64 0) (.int .i64 p) (.int .i64 0)) := L8d.out.drawn hdQ
  clear hdQ L8d HC
  go_wp2_with fail
  refine hK.out _ _ ((row_facts LQ.out.xx).2.2.1) (fun hHeld => ?_)
  clear hK K
  try simp only [Act.put, List.getElem_toArray, List.getElem_cons_zero, List.getElem_cons_succ, List.setIfInBounds_toArray, List.set_cons_zero, List.set_cons_succ]
  refine wpAnyH_take (i := 4) (oi := ?o505) (v := ?v505) ?i505 (by kernel_rfl) (by kernel_rfl) (by kernel_rfl) ?q505 ?y505 (hHeld) ?r505
  case i505 => exact rfl
  case q505 => exact (fun _ _ _ h => h)
  case y505 =>
    refine Or.inl ⟨by rfl, ?_⟩
    intro w hSw
    (try dsimp only at hSw)
    go_simp
    first | done | rfl
  try simp only [Act.put, List.getElem_toArray, List.getElem_cons_zero, List.getElem_cons_succ, List.setIfInBounds_toArray, List.set_cons_zero, List.set_cons_succ]
  refine wpAnyH_take (i := 5) (oi := ?o506) (v := ?v506) ?i506 (by kernel_rfl) (by kernel_rfl) (by kernel_rfl) ?q506 ?y506 (hHeld) ?r506
  case i506 => exact rfl
  case q506 => exact (fun _ _ _ h => h)
  case y506 =>
    refine Or.inl ⟨by rfl, ?_⟩
    intro w hSw
    (try dsimp only at hSw)
    go_simp
    first | done | rfl
  try simp only [Act.put, List.getElem_toArray, List.getElem_cons_zero, List.getElem_cons_succ, List.setIfInBounds_toArray, List.set_cons_zero, List.set_cons_succ]
  obtain ⟨c0, c1, c2, c3, c4, c5, c6, f0, f1, f2, f3, f4, f5, f6⟩ := row_facts LQ.out.xx
  refine wpAnyH_ready (rs := [6]) (by kernel_rfl) (by simp) ?_
  refine AllReadyH.cons (i := 6) (o := ?o507) ?i507 (fun K hK => ?_) AllReadyH.nil
  case i507 => exact rfl
  go_simp
  have LW : Hid (LS w gs (wQ.setCell ⟨gw, 4, none⟩ (.int .i64 (IntKind.i64.wrap (lo + q)))) g gm gw a n c l (.bool true) (.int .i64 0) (.int .i64 lo) (.int .i64 ((n : Int) - z)) (.int .i64 (IntKind.i64.wrap (lo + q))) (.int .i64 p) (.int .i64 0)) := LQ.out.word (set_grown ..) (by rw [heap_setCell_same wQ gw 4 _ _ _ LQ.out.xx]; rfl)
  clear LQ c0 c1 c2 c3 c4 c5 c6 f0 f1 f2 f3 f4 f5 f6
  generalize wQ.setCell ⟨gw, 4, none⟩ (.int .i64 (IntKind.i64.wrap (lo + q))) = wW at *
  refine hK.out _ _ ((row_facts LW.out.xx).2.2.1) (fun hHeld => ?_)
  clear hK K
  try simp only [Act.put, List.getElem_toArray, List.getElem_cons_zero, List.getElem_cons_succ, List.setIfInBounds_toArray, List.set_cons_zero, List.set_cons_succ]
  refine wpAnyH_done (by kernel_rfl) ?_ _
  go_wp2_with fail
  refine (onceM g _ wW LW.out.cu (by omega)).mono ?_
  rintro e wO ⟨b, rfl, hdO⟩
  have LO : Hid (LS w gs wO g gm gw a n c l (.bool true) (.int .i64 0) (.int .i64 lo) (.int .i64 ((n : Int) - z)) (.int .i64 (IntKind.i64.wrap (lo + q))) (.int .i64 p) (.int .i64 0)) := LW.out.drawn hdO
  clear hdO LW
  cases b
  · obtain ⟨xt, xn, xl, xh, xa, xp, xs, hX, hxs⟩ : ∃ xt xn xl xh xa xp xs, LS w gs wO g gm gw a n c l (.bool xt) (.int .i64 xn) (.int .i64 xl) (.int .i64 xh) (.int .i64 xa) (.int .i64 xp) (.int .i64 xs) ∧ In64 xs := ⟨_, _, _, _, _, _, _, LO.out, in64_0⟩
    have LX : Hid (LS w gs wO g gm gw a n c l (.bool xt) (.int .i64 xn) (.int .i64 xl) (.int .i64 xh) (.int .i64 xa) (.int .i64 xp) (.int .i64 xs)) := hX
    have HXS : Hid (In64 xs) := hxs
    clear LO hX hxs
    have Lw : Hid (LS w gs wO.drew g gm gw a n c l (.bool xt) (.int .i64 xn) (.int .i64 xl) (.int .i64 xh) (.int .i64 xa) (.int .i64 xp) (.int .i64 xs)) := LX.out.below (Below.refl _ _).drew
    clear LX
    go_upto_region 8 with fail
    refine wp_region_held_drew (S := fun wx => wx.cell? ⟨gm, 0, none⟩ = some (.slice a n c) ∧ wx.cell? ⟨gw, 0, none⟩ = some (.bool xt) ∧ wx.cell? ⟨gw, 1, none⟩ = some (.int .i64 xn) ∧ wx.cell? ⟨gw, 2, none⟩ = some (.int .i64 xl) ∧ wx.cell? ⟨gw, 3, none⟩ = some (.int .i64 xh) ∧ wx.cell? ⟨gw, 4, none⟩ = some (.int .i64 xa) ∧ wx.cell? ⟨gw, 5, none⟩ = some (.int .i64 xp) ∧ wx.cell? ⟨gw, 6, none⟩ = some (.int .i64 xs)) (by kernel_rfl) (Lw.out.facts) (fun hHeld => ?_)
    generalize wO.drew = wS at Lw hHeld ⊢
    have HC : Hid (Cur wS g) := Lw.out.cu
    refine wpAnyH_take (i := 0) (oi := ?o508) (v := ?v508) ?i508 (by kernel_rfl) (by kernel_rfl) (by kernel_rfl) ?q508 ?y508 (hHeld) ?r508
    case i508 => exact rfl
    case q508 => exact (fun _ _ _ h => h)
    case y508 =>
      refine Or.inl ⟨by rfl, ?_⟩
      intro w hSw
      (try dsimp only at hSw)
      go_simp
      first | done | rfl
    try simp only [Act.put, List.getElem_toArray, List.getElem_cons_zero, List.getElem_cons_succ, List.setIfInBounds_toArray, List.set_cons_zero, List.set_cons_succ]
    refine wpAnyH_take (i := 1) (oi := ?o509) (v := ?v509) ?i509 (by kernel_rfl) (by kernel_rfl) (by kernel_rfl) ?q509 ?y509 (hHeld) ?r509
    case i509 => exact rfl
    case q509 => exact (fun _ _ _ h => h)
    case y509 =>
      refine Or.inl ⟨by rfl, ?_⟩
      intro w hSw
      (try dsimp only at hSw)
      go_simp
      first | done | rfl
    try simp only [Act.put, List.getElem_toArray, List.getElem_cons_zero, List.getElem_cons_succ, List.setIfInBounds_toArray, List.set_cons_zero, List.set_cons_succ]
    refine wpAnyH_take (i := 2) (oi := ?o510) (v := ?v510) ?i510 (by kernel_rfl) (by kernel_rfl) (by kernel_rfl) ?q510 ?y510 (hHeld) ?r510
    case i510 => exact rfl
    case q510 => exact (fun _ _ _ h => h)
    case y510 =>
      refine Or.inl ⟨by rfl, ?_⟩
      intro w hSw
      (try dsimp only at hSw)
      go_simp
      first | done | rfl
    try simp only [Act.put, List.getElem_toArray, List.getElem_cons_zero, List.getElem_cons_succ, List.setIfInBounds_toArray, List.set_cons_zero, List.set_cons_succ]
    refine wpAnyH_take (i := 3) (oi := ?o511) (v := ?v511) ?i511 (by kernel_rfl) (by kernel_rfl) (by kernel_rfl) ?q511 ?y511 (hHeld) ?r511
    case i511 => exact rfl
    case q511 => exact (fun _ _ _ h => h)
    case y511 =>
      refine Or.inl ⟨by rfl, ?_⟩
      intro w hSw
      (try dsimp only at hSw)
      go_simp
      first | done | rfl
    try simp only [Act.put, List.getElem_toArray, List.getElem_cons_zero, List.getElem_cons_succ, List.setIfInBounds_toArray, List.set_cons_zero, List.set_cons_succ]
    refine wpAnyH_take (i := 4) (oi := ?o512) (v := ?v512) ?i512 (by kernel_rfl) (by kernel_rfl) (by kernel_rfl) ?q512 ?y512 (hHeld) ?r512
    case i512 => exact rfl
    case q512 => exact (fun _ _ _ h => h)
    case y512 =>
      refine Or.inl ⟨by rfl, ?_⟩
      intro w hSw
      (try dsimp only at hSw)
      go_simp
      first | done | rfl
    try simp only [Act.put, List.getElem_toArray, List.getElem_cons_zero, List.getElem_cons_succ, List.setIfInBounds_toArray, List.set_cons_zero, List.set_cons_succ]
    refine wpAnyH_take (i := 8) (oi := ?o513) (v := ?v513) ?i513 (by kernel_rfl) (by kernel_rfl) (by kernel_rfl) ?q513 ?y513 (hHeld) ?r513
    case i513 => exact rfl
    case q513 => exact (fun _ _ _ h => h)
    case y513 =>
      refine Or.inl ⟨by rfl, ?_⟩
      intro w hSw
      (try dsimp only at hSw)
      go_simp
      first | done | rfl
    try simp only [Act.put, List.getElem_toArray, List.getElem_cons_zero, List.getElem_cons_succ, List.setIfInBounds_toArray, List.set_cons_zero, List.set_cons_succ]
    refine wpAnyH_ready (rs := [5]) (by kernel_rfl) (by simp) ?_
    refine AllReadyH.cons (i := 5) (o := ?o514) ?i514 (fun K hK => ?_) AllReadyH.nil
    case i514 => exact rfl
    go_simp
    (with_reducible refine (belowM g _ wS HC.out (by omega)).mono ?_)
    rintro e wA ⟨q, rfl, q0, q1, _, hdA⟩
    replace q1 : q < 20 := q1 (by omega)
    have LA : Hid (LS w gs wA g gm gw a n c l (.bool xt) (.int .i64 xn) (.int .i64 xl) (.int .i64 xh) (.int .i64 xa) (.int .i64 xp) (.int .i64 xs)) := Lw.out.drawn hdA
    clear hdA Lw HC
    go_wp2_with fail
    refine hK.out _ _ (LA.out.facts) (fun hHeld => ?_)
    clear hK K
    try simp only [Act.put, List.getElem_toArray, List.getElem_cons_zero, List.getElem_cons_succ, List.setIfInBounds_toArray, List.set_cons_zero, List.set_cons_succ]
    refine wpAnyH_ready (rs := [6]) (by kernel_rfl) (by simp) ?_
    refine AllReadyH.cons (i := 6) (o := ?o515) ?i515 (fun K hK => ?_) AllReadyH.nil
    case i515 => exact rfl
    go_simp
    have hints := ints_block wA [0, 1, 2, -1, 5, (n : Int), 9223372036854775807, -9223372036854775808, q] (nine_in (n : Int) q hnI ⟨by omega, by omega⟩)
    have LB : Hid (LS w gs (wA.alloc (.cells #[.int .i64 0, .int .i64 1, .int .i64 2, .int .i64 (-1), .int .i64 5, .int .i64 (n : Int), .int .i64 9223372036854775807, .int .i64 (-9223372036854775808), .int .i64 q] 3)) g gm gw a n c l (.bool xt) (.int .i64 xn) (.int .i64 xl) (.int .i64 xh) (.int .i64 xa) (.int .i64 xp) (.int .i64 xs)) := LA.out.alloc _
    have hgA : g < wA.heap.size := LA.out.cu.lt
    have HN : Hid (∀ j, j < 9 → ∃ v, (wA.alloc (.cells #[.int .i64 0, .int .i64 1, .int .i64 2, .int .i64 (-1), .int .i64 5, .int .i64 (n : Int), .int .i64 9223372036854775807, .int .i64 (-9223372036854775808), .int .i64 q] 3)).cell? ⟨wA.heap.size, j, none⟩ = some (.int .i64 v) ∧ InInt v) := hints
    clear hints LA
    generalize wA.alloc (.cells #[.int .i64 0, .int .i64 1, .int .i64 2, .int .i64 (-1), .int .i64 5, .int .i64 (n : Int), .int .i64 9223372036854775807, .int .i64 (-9223372036854775808), .int .i64 q] 3) = wB at *
    generalize wA.heap.size = gi at *
    have HC : Hid (Cur wB g) := LB.out.cu
    refine hK.out _ _ (LB.out.facts) (fun hHeld => ?_)
    clear hK K
    try simp only [Act.put, List.getElem_toArray, List.getElem_cons_zero, List.getElem_cons_succ, List.setIfInBounds_toArray, List.set_cons_zero, List.set_cons_succ]
    refine wpAnyH_ready (rs := [7]) (by kernel_rfl) (by simp) ?_
    refine AllReadyH.cons (i := 7) (o := ?o516) ?i516 (fun K hK => ?_) AllReadyH.nil
    case i516 => exact rfl
    go_simp
    (with_reducible refine (pickM g gi 9 9 wB HC.out hgA (by omega) (by omega) HN.out).mono ?_)
    rintro e wC ⟨by_, rfl, hby, hdC⟩
    have HBY : Hid (InInt by_) := hby
    have LC : Hid (LS w gs wC g gm gw a n c l (.bool xt) (.int .i64 xn) (.int .i64 xl) (.int .i64 xh) (.int .i64 xa) (.int .i64 xp) (.int .i64 xs)) := LB.out.drawn hdC
    clear hby hdC LB HC HN
    have HC : Hid (Cur wC g) := LC.out.cu
    go_wp2_with fail
    refine hK.out _ _ (LC.out.facts) (fun hHeld => ?_)
    clear hK K
    try simp only [Act.put, List.getElem_toArray, List.getElem_cons_zero, List.getElem_cons_succ, List.setIfInBounds_toArray, List.set_cons_zero, List.set_cons_succ]
    refine wpAnyH_ready (rs := [9]) (by kernel_rfl) (by simp) ?_
    refine AllReadyH.cons (i := 9) (o := ?o517) ?i517 (fun K hK => ?_) AllReadyH.nil
    case i517 => exact rfl
    go_simp
    (with_reducible refine (l2bentS g wC HC.out).mono ?_)
    rintro e wD ⟨yt, yn, yl, yh, ya, yp, ys, rfl, hys, hdD⟩
    have HYS : Hid (In64 ys) := hys
    have LD : Hid (LS w gs wD g gm gw a n c l (.bool xt) (.int .i64 xn) (.int .i64 xl) (.int .i64 xh) (.int .i64 xa) (.int .i64 xp) (.int .i64 xs)) := LC.out.drawn hdD
    clear hys hdD LC HC
    go_wp2_with fail
    refine hK.out _ _ (LD.out.facts) (fun hHeld => ?_)
    clear hK K
    try simp only [Act.put, List.getElem_toArray, List.getElem_cons_zero, List.getElem_cons_succ, List.setIfInBounds_toArray, List.set_cons_zero, List.set_cons_succ]
    have RD : Hid (RS w gs wD g gm gw a n c l #[.slice none 0 0] #[.bool false, .int .i64 0, .int .i64 0, .int .i64 0, .int .i64 0, .int .i64 0, .int .i64 0] #[.bool false, .int .i64 0, .int .i64 0, .int .i64 0, .int .i64 0, .int .i64 0, .int .i64 0] (.bool xt) (.int .i64 xn) (.int .i64 xl) (.int .i64 xh) (.int .i64 xa) (.int .i64 xp) (.int .i64 xs)) := LD.out.rs
    clear LD
    obtain ⟨c0, f0⟩ := one_facts RD.out.r0
    have RE : Hid (RS w gs (wD.setCell ⟨gs, 0, none⟩ (.slice a n c)) g gm gw a n c l #[.slice a n c] #[.bool false, .int .i64 0, .int .i64 0, .int .i64 0, .int .i64 0, .int .i64 0, .int .i64 0] #[.bool false, .int .i64 0, .int .i64 0, .int .i64 0, .int .i64 0, .int .i64 0, .int .i64 0] (.bool xt) (.int .i64 xn) (.int .i64 xl) (.int .i64 xh) (.int .i64 xa) (.int .i64 xp) (.int .i64 xs)) := RD.out.set0 (set_grown ..) (by rw [heap_setCell_same wD gs 0 _ _ _ RD.out.r0]; rfl)
    refine wpAnyH_ready (rs := [10]) (by kernel_rfl) (by simp) ?_
    refine AllReadyH.cons (i := 10) (o := ?o518) ?i518 (fun K hK => ?_) AllReadyH.nil
    case i518 => exact rfl
    go_simp
    clear RD c0 f0
    generalize wD.setCell ⟨gs, 0, none⟩ (.slice a n c) = wE at *
    refine hK.out _ _ (RE.out.facts) (fun hHeld => ?_)
    clear hK K
    try simp only [Act.put, List.getElem_toArray, List.getElem_cons_zero, List.getElem_cons_succ, List.setIfInBounds_toArray, List.set_cons_zero, List.set_cons_succ]
    obtain ⟨c0, c1, c2, c3, c4, c5, c6, f0, f1, f2, f3, f4, f5, f6⟩ := row_facts RE.out.r1
    have RF : Hid (RS w gs (((((((wE.setCell ⟨gs + 1, 0, none⟩ (.bool xt)).setCell ⟨gs + 1, 1, none⟩ (.int .i64 xn)).setCell ⟨gs + 1, 2, none⟩ (.int .i64 xl)).setCell ⟨gs + 1, 3, none⟩ (.int .i64 xh)).setCell ⟨gs + 1, 4, none⟩ (.int .i64 xa)).setCell ⟨gs + 1, 5, none⟩ (.int .i64 xp)).setCell ⟨gs + 1, 6, none⟩ (.int .i64 xs)) g gm gw a n c l #[.slice a n c] #[.bool xt, .int .i64 xn, .int .i64 xl, .int .i64 xh, .int .i64 xa, .int .i64 xp, .int .i64 xs] #[.bool false, .int .i64 0, .int .i64 0, .int .i64 0, .int .i64 0, .int .i64 0, .int .i64 0] (.bool xt) (.int .i64 xn) (.int .i64 xl) (.int .i64 xh) (.int .i64 xa) (.int .i64 xp) (.int .i64 xs)) := RE.out.set1 (put7_grown wE (gs + 1) (.bool xt) (.int .i64 xn) (.int .i64 xl) (.int .i64 xh) (.int .i64 xa) (.int .i64 xp) (.int .i64 xs)) (put7_block (.bool xt) (.int .i64 xn) (.int .i64 xl) (.int .i64 xh) (.int .i64 xa) (.int .i64 xp) (.int .i64 xs) RE.out.r1)
    refine wpAnyH_ready (rs := [11]) (by kernel_rfl) (by simp) ?_
    refine AllReadyH.cons (i := 11) (o := ?o519) ?i519 (fun K hK => ?_) AllReadyH.nil
    case i519 => exact rfl
    go_simp
    clear RE c0 c1 c2 c3 c4 c5 c6 f0 f1 f2 f3 f4 f5 f6
    generalize (((((((wE.setCell ⟨gs + 1, 0, none⟩ (.bool xt)).setCell ⟨gs + 1, 1, none⟩ (.int .i64 xn)).setCell ⟨gs + 1, 2, none⟩ (.int .i64 xl)).setCell ⟨gs + 1, 3, none⟩ (.int .i64 xh)).setCell ⟨gs + 1, 4, none⟩ (.int .i64 xa)).setCell ⟨gs + 1, 5, none⟩ (.int .i64 xp)).setCell ⟨gs + 1, 6, none⟩ (.int .i64 xs)) = wF at *
    refine hK.out _ _ (RF.out.facts) (fun hHeld => ?_)
    clear hK K
    try simp only [Act.put, List.getElem_toArray, List.getElem_cons_zero, List.getElem_cons_succ, List.setIfInBounds_toArray, List.set_cons_zero, List.set_cons_succ]
    refine wpAnyH_take (i := 12) (oi := ?o520) (v := ?v520) ?i520 (by kernel_rfl) (by kernel_rfl) (by kernel_rfl) ?q520 ?y520 (hHeld) ?r520
    case i520 => exact rfl
    case q520 => exact (fun _ _ _ h => h)
    case y520 =>
      refine Or.inl ⟨by rfl, ?_⟩
      intro w hSw
      (try dsimp only at hSw)
      go_simp
      first | done | rfl
    try simp only [Act.put, List.getElem_toArray, List.getElem_cons_zero, List.getElem_cons_succ, List.setIfInBounds_toArray, List.set_cons_zero, List.set_cons_succ]
    obtain ⟨c0, c1, c2, c3, c4, c5, c6, f0, f1, f2, f3, f4, f5, f6⟩ := row_facts RF.out.r2
    have RG : Hid (RS w gs (((((((wF.setCell ⟨gs + 2, 0, none⟩ (.bool yt)).setCell ⟨gs + 2, 1, none⟩ (.int .i64 yn)).setCell ⟨gs + 2, 2, none⟩ (.int .i64 yl)).setCell ⟨gs + 2, 3, none⟩ (.int .i64 yh)).setCell ⟨gs + 2, 4, none⟩ (.int .i64 ya)).setCell ⟨gs + 2, 5, none⟩ (.int .i64 yp)).setCell ⟨gs + 2, 6, none⟩ (.int .i64 ys)) g gm gw a n c l #[.slice a n c] #[.bool xt, .int .i64 xn, .int .i64 xl, .int .i64 xh, .int .i64 xa, .int .i64 xp, .int .i64 xs] #[.bool yt, .int .i64 yn, .int .i64 yl, .int .i64 yh, .int .i64 ya, .int .i64 yp, .int .i64 ys] (.bool xt) (.int .i64 xn) (.int .i64 xl) (.int .i64 xh) (.int .i64 xa) (.int .i64 xp) (.int .i64 xs)) := RF.out.set2 (put7_grown wF (gs + 2) (.bool yt) (.int .i64 yn) (.int .i64 yl) (.int .i64 yh) (.int .i64 ya) (.int .i64 yp) (.int .i64 ys)) (put7_block (.bool yt) (.int .i64 yn) (.int .i64 yl) (.int .i64 yh) (.int .i64 ya) (.int .i64 yp) (.int .i64 ys) RF.out.r2)
    refine wpAnyH_ready (rs := [13]) (by kernel_rfl) (by simp) ?_
    refine AllReadyH.cons (i := 13) (o := ?o521) ?i521 (fun K hK => ?_) AllReadyH.nil
    case i521 => exact rfl
    go_simp
    clear RF c0 c1 c2 c3 c4 c5 c6 f0 f1 f2 f3 f4 f5 f6
    generalize (((((((wF.setCell ⟨gs + 2, 0, none⟩ (.bool yt)).setCell ⟨gs + 2, 1, none⟩ (.int .i64 yn)).setCell ⟨gs + 2, 2, none⟩ (.int .i64 yl)).setCell ⟨gs + 2, 3, none⟩ (.int .i64 yh)).setCell ⟨gs + 2, 4, none⟩ (.int .i64 ya)).setCell ⟨gs + 2, 5, none⟩ (.int .i64 yp)).setCell ⟨gs + 2, 6, none⟩ (.int .i64 ys)) = wG at *
    refine hK.out _ _ (RG.out.facts) (fun hHeld => ?_)
    clear hK K
    try simp only [Act.put, List.getElem_toArray, List.getElem_cons_zero, List.getElem_cons_succ, List.setIfInBounds_toArray, List.set_cons_zero, List.set_cons_succ]
    refine wpAnyH_done (by kernel_rfl) ?_ _
    go_wp2_with fail
    obtain ⟨m0, _⟩ := one_facts RG.out.r0
    obtain ⟨d0, d1, d2, d3, d4, d5, d6, _⟩ := row_facts RG.out.r1
    obtain ⟨e0, e1, e2, e3, e4, e5, e6, _⟩ := row_facts RG.out.r2
    have hfb := RG.out.bl
    have hfm := RG.out.md.mono (show gs ≤ g + 1 by have := RG.out.o1; omega)
    refine bodyPost_ret (v := .tuple #[.agg #[.slice a n c], .agg #[.bool xt, .int .i64 xn, .int .i64 xl, .int .i64 xh, .int .i64 xa, .int .i64 xp, .int .i64 xs], .int .i64 by_, .agg #[.bool yt, .int .i64 yn, .int .i64 yl, .int .i64 yh, .int .i64 ya, .int .i64 yp, .int .i64 ys]]) (by simp [results, Tryd.results9, go_sem, m0, d0, d1, d2, d3, d4, d5, d6, e0, e1, e2, e3, e4, e5, e6]) rfl ⟨_, _, _, _, xt, xn, xl, xh, xa, xp, xs, by_, yt, yn, yl, yh, ya, yp, ys, rfl, HXS.out, HYS.out, HBY.out, by rw [HG.out]; exact hfm, by rw [HG.out]; exact hfb⟩
  · go_wp2_with fail
    refine (l2bentS g wO LO.out.cu).mono ?_
    rintro e wT ⟨xt, xn, xl, xh, xa, xp, xs, rfl, hxs, hdT⟩
    have LT : Hid (LS w gs wT g gm gw a n c l (.bool true) (.int .i64 0) (.int .i64 lo) (.int .i64 ((n : Int) - z)) (.int .i64 (IntKind.i64.wrap (lo + q))) (.int .i64 p) (.int .i64 0)) := LO.out.drawn hdT
    have HXS : Hid (In64 xs) := hxs
    clear LO hxs hdT
    obtain ⟨c0, c1, c2, c3, c4, c5, c6, f0, f1, f2, f3, f4, f5, f6⟩ := row_facts LT.out.xx
    have LX : Hid (LS w gs (((((((wT.setCell ⟨gw, 0, none⟩ (.bool xt)).setCell ⟨gw, 1, none⟩ (.int .i64 xn)).setCell ⟨gw, 2, none⟩ (.int .i64 xl)).setCell ⟨gw, 3, none⟩ (.int .i64 xh)).setCell ⟨gw, 4, none⟩ (.int .i64 xa)).setCell ⟨gw, 5, none⟩ (.int .i64 xp)).setCell ⟨gw, 6, none⟩ (.int .i64 xs)) g gm gw a n c l (.bool xt) (.int .i64 xn) (.int .i64 xl) (.int .i64 xh) (.int .i64 xa) (.int .i64 xp) (.int .i64 xs)) := LT.out.word (put7_grown wT gw (.bool xt) (.int .i64 xn) (.int .i64 xl) (.int .i64 xh) (.int .i64 xa) (.int .i64 xp) (.int .i64 xs)) (put7_block (.bool xt) (.int .i64 xn) (.int .i64 xl) (.int .i64 xh) (.int .i64 xa) (.int .i64 xp) (.int .i64 xs) LT.out.xx)
    clear LT
    go_upto_region 8 with fail
    clear c0 c1 c2 c3 c4 c5 c6 f0 f1 f2 f3 f4 f5 f6
    generalize (((((((wT.setCell ⟨gw, 0, none⟩ (.bool xt)).setCell ⟨gw, 1, none⟩ (.int .i64 xn)).setCell ⟨gw, 2, none⟩ (.int .i64 xl)).setCell ⟨gw, 3, none⟩ (.int .i64 xh)).setCell ⟨gw, 4, none⟩ (.int .i64 xa)).setCell ⟨gw, 5, none⟩ (.int .i64 xp)).setCell ⟨gw, 6, none⟩ (.int .i64 xs)) = wU at *
    have Lw : Hid (LS w gs wU.drew g gm gw a n c l (.bool xt) (.int .i64 xn) (.int .i64 xl) (.int .i64 xh) (.int .i64 xa) (.int .i64 xp) (.int .i64 xs)) := LX.out.below (Below.refl _ _).drew
    clear LX
    go_upto_region 8 with fail
    refine wp_region_held_drew (S := fun wx => wx.cell? ⟨gm, 0, none⟩ = some (.slice a n c) ∧ wx.cell? ⟨gw, 0, none⟩ = some (.bool xt) ∧ wx.cell? ⟨gw, 1, none⟩ = some (.int .i64 xn) ∧ wx.cell? ⟨gw, 2, none⟩ = some (.int .i64 xl) ∧ wx.cell? ⟨gw, 3, none⟩ = some (.int .i64 xh) ∧ wx.cell? ⟨gw, 4, none⟩ = some (.int .i64 xa) ∧ wx.cell? ⟨gw, 5, none⟩ = some (.int .i64 xp) ∧ wx.cell? ⟨gw, 6, none⟩ = some (.int .i64 xs)) (by kernel_rfl) (Lw.out.facts) (fun hHeld => ?_)
    generalize wU.drew = wS at Lw hHeld ⊢
    have HC : Hid (Cur wS g) := Lw.out.cu
    refine wpAnyH_take (i := 0) (oi := ?o522) (v := ?v522) ?i522 (by kernel_rfl) (by kernel_rfl) (by kernel_rfl) ?q522 ?y522 (hHeld) ?r522
    case i522 => exact rfl
    case q522 => exact (fun _ _ _ h => h)
    case y522 =>
      refine Or.inl ⟨by rfl, ?_⟩
      intro w hSw
      (try dsimp only at hSw)
      go_simp
      first | done | rfl
    try simp only [Act.put, List.getElem_toArray, List.getElem_cons_zero, List.getElem_cons_succ, List.setIfInBounds_toArray, List.set_cons_zero, List.set_cons_succ]
    refine wpAnyH_take (i := 1) (oi := ?o523) (v := ?v523) ?i523 (by kernel_rfl) (by kernel_rfl) (by kernel_rfl) ?q523 ?y523 (hHeld) ?r523
    case i523 => exact rfl
    case q523 => exact (fun _ _ _ h => h)
    case y523 =>
      refine Or.inl ⟨by rfl, ?_⟩
      intro w hSw
      (try dsimp only at hSw)
      go_simp
      first | done | rfl
    try simp only [Act.put, List.getElem_toArray, List.getElem_cons_zero, List.getElem_cons_succ, List.setIfInBounds_toArray, List.set_cons_zero, List.set_cons_succ]
    refine wpAnyH_take (i := 2) (oi := ?o524) (v := ?v524) ?i524 (by kernel_rfl) (by kernel_rfl) (by kernel_rfl) ?q524 ?y524 (hHeld) ?r524
    case i524 => exact rfl
    case q524 => exact (fun _ _ _ h => h)
    case y524 =>
      refine Or.inl ⟨by rfl, ?_⟩
      intro w hSw
      (try dsimp only at hSw)
      go_simp
      first | done | rfl
    try simp only [Act.put, List.getElem_toArray, List.getElem_cons_zero, List.getElem_cons_succ, List.setIfInBounds_toArray, List.set_cons_zero, List.set_cons_succ]
    refine wpAnyH_take (i := 3) (oi := ?o525) (v := ?v525) ?i525 (by kernel_rfl) (by kernel_rfl) (by kernel_rfl) ?q525 ?y525 (hHeld) ?r525
    case i525 => exact rfl
    case q525 => exact (fun _ _ _ h => h)
    case y525 =>
      refine Or.inl ⟨by rfl, ?_⟩
      intro w hSw
      (try dsimp only at hSw)
      go_simp
      first | done | rfl
    try simp only [Act.put, List.getElem_toArray, List.getElem_cons_zero, List.getElem_cons_succ, List.setIfInBounds_toArray, List.set_cons_zero, List.set_cons_succ]
    refine wpAnyH_take (i := 4) (oi := ?o526) (v := ?v526) ?i526 (by kernel_rfl) (by kernel_rfl) (by kernel_rfl) ?q526 ?y526 (hHeld) ?r526
    case i526 => exact rfl
    case q526 => exact (fun _ _ _ h => h)
    case y526 =>
      refine Or.inl ⟨by rfl, ?_⟩
      intro w hSw
      (try dsimp only at hSw)
      go_simp
      first | done | rfl
    try simp only [Act.put, List.getElem_toArray, List.getElem_cons_zero, List.getElem_cons_succ, List.setIfInBounds_toArray, List.set_cons_zero, List.set_cons_succ]
    refine wpAnyH_take (i := 8) (oi := ?o527) (v := ?v527) ?i527 (by kernel_rfl) (by kernel_rfl) (by kernel_rfl) ?q527 ?y527 (hHeld) ?r527
    case i527 => exact rfl
    case q527 => exact (fun _ _ _ h => h)
    case y527 =>
      refine Or.inl ⟨by rfl, ?_⟩
      intro w hSw
      (try dsimp only at hSw)
      go_simp
      first | done | rfl
    try simp only [Act.put, List.getElem_toArray, List.getElem_cons_zero, List.getElem_cons_succ, List.setIfInBounds_toArray, List.set_cons_zero, List.set_cons_succ]
    refine wpAnyH_ready (rs := [5]) (by kernel_rfl) (by simp) ?_
    refine AllReadyH.cons (i := 5) (o := ?o528) ?i528 (fun K hK => ?_) AllReadyH.nil
    case i528 => exact rfl
    go_simp
    (with_reducible refine (belowM g _ wS HC.out (by omega)).mono ?_)
    rintro e wA ⟨q, rfl, q0, q1, _, hdA⟩
    replace q1 : q < 20 := q1 (by omega)
    have LA : Hid (LS w gs wA g gm gw a n c l (.bool xt) (.int .i64 xn) (.int .i64 xl) (.int .i64 xh) (.int .i64 xa) (.int .i64 xp) (.int .i64 xs)) := Lw.out.drawn hdA
    clear hdA Lw HC
    go_wp2_with fail
    refine hK.out _ _ (LA.out.facts) (fun hHeld => ?_)
    clear hK K
    try simp only [Act.put, List.getElem_toArray, List.getElem_cons_zero, List.getElem_cons_succ, List.setIfInBounds_toArray, List.set_cons_zero, List.set_cons_succ]
    refine wpAnyH_ready (rs := [6]) (by kernel_rfl) (by simp) ?_
    refine AllReadyH.cons (i := 6) (o := ?o529) ?i529 (fun K hK => ?_) AllReadyH.nil
    case i529 => exact rfl
    go_simp
    have hints := ints_block wA [0, 1, 2, -1, 5, (n : Int), 9223372036854775807, -9223372036854775808, q] (nine_in (n : Int) q hnI ⟨by omega, by omega⟩)
    have LB : Hid (LS w gs (wA.alloc (.cells #[.int .i64 0, .int .i64 1, .int .i64 2, .int .i64 (-1), .int .i64 5, .int .i64 (n : Int), .int .i64 9223372036854775807, .int .i64 (-9223372036854775808), .int .i64 q] 3)) g gm gw a n c l (.bool xt) (.int .i64 xn) (.int .i64 xl) (.int .i64 xh) (.int .i64 xa) (.int .i64 xp) (.int .i64 xs)) := LA.out.alloc _
    have hgA : g < wA.heap.size := LA.out.cu.lt
    have HN : Hid (∀ j, j < 9 → ∃ v, (wA.alloc (.cells #[.int .i64 0, .int .i64 1, .int .i64 2, .int .i64 (-1), .int .i64 5, .int .i64 (n : Int), .int .i64 9223372036854775807, .int .i64 (-9223372036854775808), .int .i64 q] 3)).cell? ⟨wA.heap.size, j, none⟩ = some (.int .i64 v) ∧ InInt v) := hints
    clear hints LA
    generalize wA.alloc (.cells #[.int .i64 0, .int .i64 1, .int .i64 2, .int .i64 (-1), .int .i64 5, .int .i64 (n : Int), .int .i64 9223372036854775807, .int .i64 (-9223372036854775808), .int .i64 q] 3) = wB at *
    generalize wA.heap.size = gi at *
    have HC : Hid (Cur wB g) := LB.out.cu
    refine hK.out _ _ (LB.out.facts) (fun hHeld => ?_)
    clear hK K
    try simp only [Act.put, List.getElem_toArray, List.getElem_cons_zero, List.getElem_cons_succ, List.setIfInBounds_toArray, List.set_cons_zero, List.set_cons_succ]
    refine wpAnyH_ready (rs := [7]) (by kernel_rfl) (by simp) ?_
    refine AllReadyH.cons (i := 7) (o := ?o530) ?i530 (fun K hK => ?_) AllReadyH.nil
    case i530 => exact rfl
    go_simp
    (with_reducible refine (pickM g gi 9 9 wB HC.out hgA (by omega) (by omega) HN.out).mono ?_)
    rintro e wC ⟨by_, rfl, hby, hdC⟩
    have HBY : Hid (InInt by_) := hby
    have LC : Hid (LS w gs wC g gm gw a n c l (.bool xt) (.int .i64 xn) (.int .i64 xl) (.int .i64 xh) (.int .i64 xa) (.int .i64 xp) (.int .i64 xs)) := LB.out.drawn hdC
    clear hby hdC LB HC HN
    have HC : Hid (Cur wC g) := LC.out.cu
    go_wp2_with fail
    refine hK.out _ _ (LC.out.facts) (fun hHeld => ?_)
    clear hK K
    try simp only [Act.put, List.getElem_toArray, List.getElem_cons_zero, List.getElem_cons_succ, List.setIfInBounds_toArray, List.set_cons_zero, List.set_cons_succ]
    refine wpAnyH_ready (rs := [9]) (by kernel_rfl) (by simp) ?_
    refine AllReadyH.cons (i := 9) (o := ?o531) ?i531 (fun K hK => ?_) AllReadyH.nil
    case i531 => exact rfl
    go_simp
    (with_reducible refine (l2bentS g wC HC.out).mono ?_)
    rintro e wD ⟨yt, yn, yl, yh, ya, yp, ys, rfl, hys, hdD⟩
    have HYS : Hid (In64 ys) := hys
    have LD : Hid (LS w gs wD g gm gw a n c l (.bool xt) (.int .i64 xn) (.int .i64 xl) (.int .i64 xh) (.int .i64 xa) (.int .i64 xp) (.int .i64 xs)) := LC.out.drawn hdD
    clear hys hdD LC HC
    go_wp2_with fail
    refine hK.out _ _ (LD.out.facts) (fun hHeld => ?_)
    clear hK K
    try simp only [Act.put, List.getElem_toArray, List.getElem_cons_zero, List.getElem_cons_succ, List.setIfInBounds_toArray, List.set_cons_zero, List.set_cons_succ]
    have RD : Hid (RS w gs wD g gm gw a n c l #[.slice none 0 0] #[.bool false, .int .i64 0, .int .i64 0, .int .i64 0, .int .i64 0, .int .i64 0, .int .i64 0] #[.bool false, .int .i64 0, .int .i64 0, .int .i64 0, .int .i64 0, .int .i64 0, .int .i64 0] (.bool xt) (.int .i64 xn) (.int .i64 xl) (.int .i64 xh) (.int .i64 xa) (.int .i64 xp) (.int .i64 xs)) := LD.out.rs
    clear LD
    obtain ⟨c0, f0⟩ := one_facts RD.out.r0
    have RE : Hid (RS w gs (wD.setCell ⟨gs, 0, none⟩ (.slice a n c)) g gm gw a n c l #[.slice a n c] #[.bool false, .int .i64 0, .int .i64 0, .int .i64 0, .int .i64 0, .int .i64 0, .int .i64 0] #[.bool false, .int .i64 0, .int .i64 0, .int .i64 0, .int .i64 0, .int .i64 0, .int .i64 0] (.bool xt) (.int .i64 xn) (.int .i64 xl) (.int .i64 xh) (.int .i64 xa) (.int .i64 xp) (.int .i64 xs)) := RD.out.set0 (set_grown ..) (by rw [heap_setCell_same wD gs 0 _ _ _ RD.out.r0]; rfl)
    refine wpAnyH_ready (rs := [10]) (by kernel_rfl) (by simp) ?_
    refine AllReadyH.cons (i := 10) (o := ?o532) ?i532 (fun K hK => ?_) AllReadyH.nil
    case i532 => exact rfl
    go_simp
    clear RD c0 f0
    generalize wD.setCell ⟨gs, 0, none⟩ (.slice a n c) = wE at *
    refine hK.out _ _ (RE.out.facts) (fun hHeld => ?_)
    clear hK K
    try simp only [Act.put, List.getElem_toArray, List.getElem_cons_zero, List.getElem_cons_succ, List.setIfInBounds_toArray, List.set_cons_zero, List.set_cons_succ]
    obtain ⟨c0, c1, c2, c3, c4, c5, c6, f0, f1, f2, f3, f4, f5, f6⟩ := row_facts RE.out.r1
    have RF : Hid (RS w gs (((((((wE.setCell ⟨gs + 1, 0, none⟩ (.bool xt)).setCell ⟨gs + 1, 1, none⟩ (.int .i64 xn)).setCell ⟨gs + 1, 2, none⟩ (.int .i64 xl)).setCell ⟨gs + 1, 3, none⟩ (.int .i64 xh)).setCell ⟨gs + 1, 4, none⟩ (.int .i64 xa)).setCell ⟨gs + 1, 5, none⟩ (.int .i64 xp)).setCell ⟨gs + 1, 6, none⟩ (.int .i64 xs)) g gm gw a n c l #[.slice a n c] #[.bool xt, .int .i64 xn, .int .i64 xl, .int .i64 xh, .int .i64 xa, .int .i64 xp, .int .i64 xs] #[.bool false, .int .i64 0, .int .i64 0, .int .i64 0, .int .i64 0, .int .i64 0, .int .i64 0] (.bool xt) (.int .i64 xn) (.int .i64 xl) (.int .i64 xh) (.int .i64 xa) (.int .i64 xp) (.int .i64 xs)) := RE.out.set1 (put7_grown wE (gs + 1) (.bool xt) (.int .i64 xn) (.int .i64 xl) (.int .i64 xh) (.int .i64 xa) (.int .i64 xp) (.int .i64 xs)) (put7_block (.bool xt) (.int .i64 xn) (.int .i64 xl) (.int .i64 xh) (.int .i64 xa) (.int .i64 xp) (.int .i64 xs) RE.out.r1)
    refine wpAnyH_ready (rs := [11]) (by kernel_rfl) (by simp) ?_
    refine AllReadyH.cons (i := 11) (o := ?o533) ?i533 (fun K hK => ?_) AllReadyH.nil
    case i533 => exact rfl
    go_simp
    clear RE c0 c1 c2 c3 c4 c5 c6 f0 f1 f2 f3 f4 f5 f6
    generalize (((((((wE.setCell ⟨gs + 1, 0, none⟩ (.bool xt)).setCell ⟨gs + 1, 1, none⟩ (.int .i64 xn)).setCell ⟨gs + 1, 2, none⟩ (.int .i64 xl)).setCell ⟨gs + 1, 3, none⟩ (.int .i64 xh)).setCell ⟨gs + 1, 4, none⟩ (.int .i64 xa)).setCell ⟨gs + 1, 5, none⟩ (.int .i64 xp)).setCell ⟨gs + 1, 6, none⟩ (.int .i64 xs)) = wF at *
    refine hK.out _ _ (RF.out.facts) (fun hHeld => ?_)
    clear hK K
    try simp only [Act.put, List.getElem_toArray, List.getElem_cons_zero, List.getElem_cons_succ, List.setIfInBounds_toArray, List.set_cons_zero, List.set_cons_succ]
    refine wpAnyH_take (i := 12) (oi := ?o534) (v := ?v534) ?i534 (by kernel_rfl) (by kernel_rfl) (by kernel_rfl) ?q534 ?y534 (hHeld) ?r534
    case i534 => exact rfl
    case q534 => exact (fun _ _ _ h => h)
    case y534 =>
      refine Or.inl ⟨by rfl, ?_⟩
      intro w hSw
      (try dsimp only at hSw)
      go_simp
      first | done | rfl
    try simp only [Act.put, List.getElem_toArray, List.getElem_cons_zero, List.getElem_cons_succ, List.setIfInBounds_toArray, List.set_cons_zero, List.set_cons_succ]
    obtain ⟨c0, c1, c2, c3, c4, c5, c6, f0, f1, f2, f3, f4, f5, f6⟩ := row_facts RF.out.r2
    have RG : Hid (RS w gs (((((((wF.setCell ⟨gs + 2, 0, none⟩ (.bool yt)).setCell ⟨gs + 2, 1, none⟩ (.int .i64 yn)).setCell ⟨gs + 2, 2, none⟩ (.int .i64 yl)).setCell ⟨gs + 2, 3, none⟩ (.int .i64 yh)).setCell ⟨gs + 2, 4, none⟩ (.int .i64 ya)).setCell ⟨gs + 2, 5, none⟩ (.int .i64 yp)).setCell ⟨gs + 2, 6, none⟩ (.int .i64 ys)) g gm gw a n c l #[.slice a n c] #[.bool xt, .int .i64 xn, .int .i64 xl, .int .i64 xh, .int .i64 xa, .int .i64 xp, .int .i64 xs] #[.bool yt, .int .i64 yn, .int .i64 yl, .int .i64 yh, .int .i64 ya, .int .i64 yp, .int .i64 ys] (.bool xt) (.int .i64 xn) (.int .i64 xl) (.int .i64 xh) (.int .i64 xa) (.int .i64 xp) (.int .i64 xs)) := RF.out.set2 (put7_grown wF (gs + 2) (.bool yt) (.int .i64 yn) (.int .i64 yl) (.int .i64 yh) (.int .i64 ya) (.int .i64 yp) (.int .i64 ys)) (put7_block (.bool yt) (.int .i64 yn) (.int .i64 yl) (.int .i64 yh) (.int .i64 ya) (.int .i64 yp) (.int .i64 ys) RF.out.r2)
    refine wpAnyH_ready (rs := [13]) (by kernel_rfl) (by simp) ?_
    refine AllReadyH.cons (i := 13) (o := ?o535) ?i535 (fun K hK => ?_) AllReadyH.nil
    case i535 => exact rfl
    go_simp
    clear RF c0 c1 c2 c3 c4 c5 c6 f0 f1 f2 f3 f4 f5 f6
    generalize (((((((wF.setCell ⟨gs + 2, 0, none⟩ (.bool yt)).setCell ⟨gs + 2, 1, none⟩ (.int .i64 yn)).setCell ⟨gs + 2, 2, none⟩ (.int .i64 yl)).setCell ⟨gs + 2, 3, none⟩ (.int .i64 yh)).setCell ⟨gs + 2, 4, none⟩ (.int .i64 ya)).setCell ⟨gs + 2, 5, none⟩ (.int .i64 yp)).setCell ⟨gs + 2, 6, none⟩ (.int .i64 ys)) = wG at *
    refine hK.out _ _ (RG.out.facts) (fun hHeld => ?_)
    clear hK K
    try simp only [Act.put, List.getElem_toArray, List.getElem_cons_zero, List.getElem_cons_succ, List.setIfInBounds_toArray, List.set_cons_zero, List.set_cons_succ]
    refine wpAnyH_done (by kernel_rfl) ?_ _
    go_wp2_with fail
    obtain ⟨m0, _⟩ := one_facts RG.out.r0
    obtain ⟨d0, d1, d2, d3, d4, d5, d6, _⟩ := row_facts RG.out.r1
    obtain ⟨e0, e1, e2, e3, e4, e5, e6, _⟩ := row_facts RG.out.r2
    have hfb := RG.out.bl
    have hfm := RG.out.md.mono (show gs ≤ g + 1 by have := RG.out.o1; omega)
    refine bodyPost_ret (v := .tuple #[.agg #[.slice a n c], .agg #[.bool xt, .int .i64 xn, .int .i64 xl, .int .i64 xh, .int .i64 xa, .int .i64 xp, .int .i64 xs], .int .i64 by_, .agg #[.bool yt, .int .i64 yn, .int .i64 yl, .int .i64 yh, .int .i64 ya, .int .i64 yp, .int .i64 ys]]) (by simp [results, Tryd.results9, go_sem, m0, d0, d1, d2, d3, d4, d5, d6, e0, e1, e2, e3, e4, e5, e6]) rfl ⟨_, _, _, _, xt, xn, xl, xh, xa, xp, xs, by_, yt, yn, yl, yh, ya, yp, ys, rfl, HXS.out, HYS.out, HBY.out, by rw [HG.out]; exact hfm, by rw [HG.out]; exact hfb⟩
end Go.Proofs.YtkiaglpgfgoaiaaDoor

/- An object whose code is anything. -/
import Derived.Test.YtnhebknckgffoaaObT
import Derived.Test.YtnhebknckgffoaaDrawOften
import Derived.Test.YtnhebknckgffoaaPackE
import Derived.Test.YtnhebknckgffoaaSpoil
import Derived.Test.YtnhebknckgffoaaPackI
import Derived.Test.YtnhebknckgffoaaPackH
import Derived.Deep.RegionHeld3
import Derived.Laws.IdiomStrings
import Derived.Deep.Cut
namespace Go.Proofs.Ytnhebknckgffoaa
open Go.RowKit
set_option linter.unusedVariables false
set_option linter.unusedSimpArgs false
set_option maxRecDepth 100000

/-- What the draw has laid: the answer, the object, its name, its imports. -/
structure WS (w wr : World) (g go : Nat) (o : O5) (imv : Value) (li : List R3) (ds : List D3) (B : Nat) (nmv : Value) (nm : List Int) : Prop where
  dr : Drawn w wr g
  res : B5 wr w.heap.size 26 ⟨.slice none 0 0, .slice none 0 0, .slice none 0 0, .int .i64 0, .slice none 0 0⟩
  obj : B5 wr go 26 o
  im : RL wr 47 B imv li ds
  nm : BT wr nmv nm
  ne : g < w.heap.size ∧ w.heap.size < go
theorem WS.drawn {w wr w' : World} {g go B : Nat} {o : O5} {imv nmv : Value} {li : List R3} {ds : List D3} {nm : List Int} (h : WS w wr g go o imv li ds B nmv nm) (hd : Drawn wr w' g) : WS w w' g go o imv li ds B nmv nm := by
  have := h.ne
  have hf := h.dr.1.free
  have kk := hd.keepO
  have e1 : ∀ k, some k ∈ [some g] → k = g := fun k hk => by simpa using hk
  exact ⟨h.dr.trans hd, B5.keep h.res kk (by simp; omega), B5.keep h.obj kk (by simp; omega), h.im.keep kk (fun k hk => by rw [e1 k hk]; exact ⟨hf.noB, fun cur e => (hf cur _ _ e).2.2 rfl⟩), h.nm.keep kk (fun k hk => by rw [e1 k hk]; exact hf.noB), h.ne⟩
theorem WS.below {w wr w' : World} {g go B : Nat} {o : O5} {imv nmv : Value} {li : List R3} {ds : List D3} {nm : List Int} (h : WS w wr g go o imv li ds B nmv nm) (hb : Below wr.heap.size wr w') : WS w w' g go o imv li ds B nmv nm := by
  have kk : KeepO [] wr w' := ⟨hb.os, hb.tape, hb.output, hb.size, fun g h1 _ => hb.block g h1⟩
  exact ⟨h.dr.below hb, B5.keep h.res kk (by simp), B5.keep h.obj kk (by simp), h.im.keep kk (by intro k hk; simp at hk), h.nm.keep kk (by intro k hk; simp at hk), h.ne⟩
theorem WS.alloc {w wr : World} {g go B : Nat} {o : O5} {imv nmv : Value} {li : List R3} {ds : List D3} {nm : List Int} (h : WS w wr g go o imv li ds B nmv nm) (ob : Obj) : WS w (wr.alloc ob) g go o imv li ds B nmv nm := h.below ((Below.refl _ _).alloc (Nat.le_refl _) _)
theorem WS.grown {w wr w' : World} {g go B : Nat} {o : O5} {imv nmv : Value} {li : List R3} {ds : List D3} {nm : List Int} {row : Option Nat} (h : WS w wr g go o imv li ds B nmv nm) (hg : wr.grownBy w' row)
    (hr : ∀ k, row = some k → w.heap.size ≤ k ∧ ∃ cur T, wr.heap[k]? = some (.cells cur T (0, 0)) ∧ T ≠ 5 ∧ T ≠ 47 ∧ T ≠ 26) : WS w w' g go o imv li ds B nmv nm := by
  have := h.ne
  have kk : KeepO [row] wr w' := KeepO.of hg (by simp)
  have hrr : ∀ k, some k ∈ [row] → w.heap.size ≤ k ∧ ∃ cur T, wr.heap[k]? = some (.cells cur T (0, 0)) ∧ T ≠ 5 ∧ T ≠ 47 ∧ T ≠ 26 := fun k hk => hr k (by have : some k = row := (by simpa using hk); exact this.symm)
  have nob : ∀ k, some k ∈ [row] → ∀ o' : O5, ¬ B5 wr k 26 o' := by
    intro k hk o' hb
    obtain ⟨_, cur, T, hh, _, _, hO⟩ := hrr k hk
    unfold B5 at hb
    rw [hh] at hb
    simp only [Option.some.injEq, Obj.cells.injEq] at hb
    exact hO hb.2.1
  refine ⟨⟨h.dr.1.kept hg (fun k hk => by have := (hr k hk).1; omega), grown_over h.dr.2 hg (fun k hk => (hr k hk).1)⟩, B5.keep h.res kk (fun hm => nob _ hm _ h.res), B5.keep h.obj kk (fun hm => nob _ hm _ h.obj), h.im.keep kk (fun k hk => ?_), h.nm.keep kk (fun k hk => ?_), h.ne⟩
  · obtain ⟨_, cur, T, hh, h1, h2, _⟩ := hrr k hk
    refine ⟨noB_of hh h1, fun cur' e => ?_⟩
    rw [hh] at e
    simp only [Option.some.injEq, Obj.cells.injEq] at e
    exact h2 e.2.1
  · obtain ⟨_, cur, T, hh, h1, _, _⟩ := hrr k hk
    exact noB_of hh h1
theorem WS.set {w wr : World} {g go B i : Nat} {o o' : O5} {imv nmv v : Value} {li : List R3} {ds : List D3} {nm : List Int} (h : WS w wr g go o imv li ds B nmv nm) (ho : B5 (wr.setCell ⟨go, i, none⟩ v) go 26 o') : WS w (wr.setCell ⟨go, i, none⟩ v) g go o' imv li ds B nmv nm := by
  have := h.ne
  have hf : Free wr go := free_of h.obj (by decide) (by decide) (by decide)
  have kk : KeepO [some go] wr (wr.setCell ⟨go, i, none⟩ v) := KeepO.of (grown_set wr go i v) (by simp)
  have e1 : ∀ k, some k ∈ [some go] → k = go := fun k hk => by simpa using hk
  exact ⟨⟨h.dr.1.kept (grown_set wr go i v) (by intro k hk; cases hk; omega), grown_over h.dr.2 (grown_set wr go i v) (by intro k hk; cases hk; omega)⟩, B5.other h.res (by omega), ho, h.im.keep kk (fun k hk => by rw [e1 k hk]; exact ⟨hf.noB, fun cur e => (hf cur _ _ e).2.2 rfl⟩), h.nm.keep kk (fun k hk => by rw [e1 k hk]; exact hf.noB), h.ne⟩
theorem WS.start {w w3 : World} {g B : Nat} {o : O5} {imv nmv : Value} {li : List R3} {ds : List D3} {nm : List Int} (hd : Drawn w w3 g) (hr : B5 w3 w.heap.size 26 ⟨.slice none 0 0, .slice none 0 0, .slice none 0 0, .int .i64 0, .slice none 0 0⟩) (hi : RL w3 47 B imv li ds) (hn : BT w3 nmv nm) (hg : g < w.heap.size) :
    WS w (w3.alloc (.cells #[o.x, o.e, o.i, o.d, o.c] 26 (0, 0))) g w3.heap.size o imv li ds B nmv nm :=
  ⟨hd.alloc _, hr.old, B5.new w3 _ o, hi.keep (keep_alloc _ _) (by intro k hk; simp at hk), hn.keep (keep_alloc _ _) (by intro k hk; simp at hk), hg, hr.lt⟩
theorem WS.go_lt {w wr : World} {g go B : Nat} {o : O5} {imv nmv : Value} {li : List R3} {ds : List D3} {nm : List Int} (h : WS w wr g go o imv li ds B nmv nm) : w.heap.size ≤ wr.heap.size := h.dr.2.size

theorem one_noB {w : World} {k g : Nat} (h : NoB w g) (hk : some k ∈ [some g]) : NoB w k := by
  have e : k = g := by simpa using hk
  rw [e]; exact h
theorem one_free {w : World} {k g : Nat} (h : Free w g) (hk : some k ∈ [some g]) : Free w k := by
  have e : k = g := by simpa using hk
  rw [e]; exact h

theorem BT.row {w : World} {a : Option Addr} {n c : Nat} {l : List Int} (h : BT w (.slice a n c) l) : BRow w a n l := by
  obtain ⟨a', c', e, hr, _⟩ := h
  simp only [Value.slice.injEq] at e
  obtain ⟨rfl, rfl, rfl⟩ := e
  exact hr
theorem BT.nil {w : World} {a : Option Addr} {n c : Nat} {l : List Int} (h : BT w (.slice a n c) l) : a = none → c = 0 := by
  obtain ⟨a', c', e, _, _, _, hn, _⟩ := h
  simp only [Value.slice.injEq] at e
  obtain ⟨rfl, rfl, rfl⟩ := e
  exact hn

/-- Five kinds of parameters, laid. -/
structure KL (w : World) (h : Nat) : Prop where
  b1 : w.heap[h]? = some (.cells #[.int .i64 0] 3 (0, 0))
  b2 : w.heap[h + 1]? = some (.cells #[.int .i64 0, .int .i64 0] 3 (0, 0))
  b3 : w.heap[h + 1 + 1]? = some (.cells #[.int .i64 1] 3 (0, 0))
  b4 : w.heap[h + 1 + 1 + 1]? = some (.cells #[.int .i64 1, .int .i64 0] 3 (0, 0))
  b5 : w.heap[h + 1 + 1 + 1 + 1]? = some (.cells #[.slice none 0 0, .slice (some ⟨h, 0, none⟩) 1 1, .slice (some ⟨h + 1, 0, none⟩) 2 2, .slice (some ⟨h + 1 + 1, 0, none⟩) 1 1, .slice (some ⟨h + 1 + 1 + 1, 0, none⟩) 2 2] 71 (0, 0))
def lay5w (w : World) : World := ((((w.alloc (.cells #[.int .i64 0] 3)).alloc (.cells #[.int .i64 0, .int .i64 0] 3)).alloc (.cells #[.int .i64 1] 3)).alloc (.cells #[.int .i64 1, .int .i64 0] 3)).alloc (.cells #[.slice none 0 0, .slice (some ⟨w.heap.size, 0, none⟩) 1 1, .slice (some ⟨w.heap.size + 1, 0, none⟩) 2 2, .slice (some ⟨w.heap.size + 1 + 1, 0, none⟩) 1 1, .slice (some ⟨w.heap.size + 1 + 1 + 1, 0, none⟩) 2 2] 71)
theorem KL.new (w : World) : KL (lay5w w) w.heap.size ∧ Below w.heap.size w (lay5w w) := by
  have n1 : ∀ (w : World) (o : Obj), (w.alloc o).heap[w.heap.size]? = some o := fun w o => heap_alloc_new w o
  have e1 : (w.alloc (.cells #[.int .i64 0] 3)).heap.size = w.heap.size + 1 := by simp
  have e2 : ((w.alloc (.cells #[.int .i64 0] 3)).alloc (.cells #[.int .i64 0, .int .i64 0] 3)).heap.size = w.heap.size + 1 + 1 := by simp
  have e3 : (((w.alloc (.cells #[.int .i64 0] 3)).alloc (.cells #[.int .i64 0, .int .i64 0] 3)).alloc (.cells #[.int .i64 1] 3)).heap.size = w.heap.size + 1 + 1 + 1 := by simp
  have e4 : ((((w.alloc (.cells #[.int .i64 0] 3)).alloc (.cells #[.int .i64 0, .int .i64 0] 3)).alloc (.cells #[.int .i64 1] 3)).alloc (.cells #[.int .i64 1, .int .i64 0] 3)).heap.size = w.heap.size + 1 + 1 + 1 + 1 := by simp
  refine ⟨⟨?_, ?_, ?_, ?_, ?_⟩, ((((Below.refl _ _).alloc (Nat.le_refl _) _).alloc (by simp) _).alloc (by simp; omega) _).alloc (by simp; omega) _ |>.alloc (by simp; omega) _⟩
  · unfold lay5w; rw [alloc_block (by rw [e4]; omega), alloc_block (by rw [e3]; omega), alloc_block (by rw [e2]; omega), alloc_block (by rw [e1]; omega)]; exact n1 _ _
  · unfold lay5w; rw [alloc_block (by rw [e4]; omega), alloc_block (by rw [e3]; omega), alloc_block (by rw [e2]; omega), ← e1]; exact n1 _ _
  · unfold lay5w; rw [alloc_block (by rw [e4]; omega), alloc_block (by rw [e3]; omega), ← e2]; exact n1 _ _
  · unfold lay5w; rw [alloc_block (by rw [e4]; omega), ← e3]; exact n1 _ _
  · unfold lay5w; rw [← e4]; exact n1 _ _
theorem KL.drawn {w w' : World} {h g : Nat} (k : KL w h) (hd : Drawn w w' g) (hg : g < h) : KL w' h :=
  ⟨(hd.block (lt_of_block k.b1) (by omega)).trans k.b1, (hd.block (lt_of_block k.b2) (by omega)).trans k.b2, (hd.block (lt_of_block k.b3) (by omega)).trans k.b3, (hd.block (lt_of_block k.b4) (by omega)).trans k.b4, (hd.block (lt_of_block k.b5) (by omega)).trans k.b5⟩
theorem ints_row {w : World} {h : Nat} {cs : List Int} (hb : w.heap[h]? = some (.cells (cs.map (Value.int .i64)).toArray 3 (0, 0))) (hin : ∀ x ∈ cs, -9223372036854775808 ≤ x ∧ x ≤ 9223372036854775807) : NRow w (some ⟨h, 0, none⟩) cs.length cs := by
  refine ⟨rfl, hin, fun _ => ⟨h, 0, rfl, fun i hi => ?_⟩⟩
  rw [cell_of_row w h (0 + i) _ _ (0, 0) hb]
  simp [hi]
theorem KL.at {w : World} {h : Nat} (k : KL w h) (x : Nat) (hx : x < 5) : ∃ ak nk lk, w.cell? ⟨h + 1 + 1 + 1 + 1, x, none⟩ = some (.slice ak nk nk) ∧ NRow w ak nk lk ∧ nk ≤ 2 := by
  have c : ∀ i, w.cell? ⟨h + 1 + 1 + 1 + 1, i, none⟩ = (#[.slice none 0 0, .slice (some ⟨h, 0, none⟩) 1 1, .slice (some ⟨h + 1, 0, none⟩) 2 2, .slice (some ⟨h + 1 + 1, 0, none⟩) 1 1, .slice (some ⟨h + 1 + 1 + 1, 0, none⟩) 2 2] : Array Value)[i]? := fun i => cell_of_row w _ i _ _ (0, 0) k.b5
  have : x = 0 ∨ x = 1 ∨ x = 2 ∨ x = 3 ∨ x = 4 := by omega
  rcases this with rfl | rfl | rfl | rfl | rfl
  · exact ⟨none, 0, [], by rw [c]; rfl, ⟨rfl, by simp, by omega⟩, by omega⟩
  · exact ⟨_, 1, [0], by rw [c]; rfl, ints_row (cs := [0]) k.b1 (by simp), by omega⟩
  · exact ⟨_, 2, [0, 0], by rw [c]; rfl, ints_row (cs := [0, 0]) k.b2 (by simp), by omega⟩
  · exact ⟨_, 1, [1], by rw [c]; rfl, ints_row (cs := [1]) k.b3 (by simp), by omega⟩
  · exact ⟨_, 2, [1, 0], by rw [c]; rfl, ints_row (cs := [1, 0]) k.b4 (by simp), by omega⟩

/-- append of a record, as one operation of a drawn region. -/
theorem wp_appendE {w : World} {o : Oper} {a : Act} {K : Act → World → Prop} {Q : Exit → Act → World → Prop} (s x : Operand)
    (ho : o.op = .call { callee := .builtin .append, args := #[s, x], argTypes := #[23, 23] })
    (base : Nat) (v : Value) (n : Nat) (l : List R3) (hs : a.eval s = v) (hown : w.ownsRow base 43 3 v n (flat3 l))
    (g : Nat) (r : R3) (hx : a.eval x = .slice (some ⟨g, 0, none⟩) 1 1) (hr : B3 w g 43 r.x r.y r.z) (h1 : ∀ u ∈ r.vals, u.oneCell' = true)
    (hsz : n ≤ 1000) (hbase : base ≤ w.heap.size)
    (h : ∀ v' w', w'.ownsRow base 43 3 v' (n + 1) (flat3 l ++ r.vals) → w.grownBy w' v.ownBlock → K (a.put o.dst v') w') : Oper.wp Try.prog o a w K Q := by
  obtain ⟨i0, hi, hz0, hz1, hz2⟩ := info_parts infoE
  refine wp_append_own w s x 23 ho base 43 i0 (.agg #[.slice none 0 0, .int .i64 0, .int .i64 0]) 3 40 Try.underlying23 hi hz0 hz1 hz2 rfl (by decide) v n _ hs hown ⟨g, 0, none⟩ 1 1 r.vals hx rfl ?_ h1 (by unfold maxLen; omega) (by omega) hbase ?_
  · obtain ⟨q0, q1, q2, _⟩ := hr.facts
    intro j u hu
    match j, hu with
    | 0, hu => simp [R3.vals] at hu; subst hu; exact q0
    | 1, hu => simp [R3.vals] at hu; subst hu; exact q1
    | 2, hu => simp [R3.vals] at hu; subst hu; exact q2
    | j + 3, hu => simp [R3.vals] at hu
  · intro v' w' ho' hg' _
    exact h v' w' ho' hg'

/-- A row of instructions beside it. -/
theorem row_drawn {w wr w' : World} {g n : Nat} {v : Value} {xs : List Value} (h : wr.ownsRow w.heap.size 92 6 v n xs) (hd : Drawn wr w' g) (hg : g < w.heap.size) : w'.ownsRow w.heap.size 92 6 v n xs := by
  refine ownsRow_keep h hd.keepO ?_
  cases hv : v.ownBlock with
  | none => exact .inl rfl
  | some k => right; have := (h.lt k hv).1; simp; omega
theorem row_alloc {wr : World} {base n : Nat} {v : Value} {xs : List Value} (h : wr.ownsRow base 92 6 v n xs) (o : Obj) : (wr.alloc o).ownsRow base 92 6 v n xs := ownsRow_keep h (keep_alloc wr o) (by simp)
theorem row_where {w wr : World} {n : Nat} {v : Value} {xs : List Value} (h : wr.ownsRow w.heap.size 92 6 v n xs) : ∀ k, v.ownBlock = some k → w.heap.size ≤ k ∧ ∃ cur T, wr.heap[k]? = some (.cells cur T (0, 0)) ∧ T ≠ 5 ∧ T ≠ 47 ∧ T ≠ 26 := by
  intro k hk
  obtain ⟨cur, hb⟩ := ownsRow_type h hk
  exact ⟨(h.lt k hk).1, cur, _, hb, by decide, by decide, by decide⟩
theorem row_shape {wr : World} {base n : Nat} {v : Value} {l : List In6} (h : wr.ownsRow base 92 6 v n (flatI l)) (hl : l.length = n) : ∃ a c, v = .slice a n c ∧ IRow wr a n l := by
  rcases h.2 with ⟨rfl, rfl⟩ | ⟨q, cap, cur, rfl, hg, hh, hnc, hcm, hs, ht⟩
  · exact ⟨none, 0, rfl, hl, by omega⟩
  · refine ⟨some ⟨q, 0, none⟩, cap, rfl, hl, fun _ => ⟨q, 0, rfl, fun i u hu => ?_⟩⟩
    rw [Nat.zero_add, cell_of_row wr q i cur _ (0, 0) hh]
    have hi : i < (flatI l).length := (List.getElem?_eq_some_iff.1 hu).1
    rw [flatI_len, hl] at hi
    have e : (cur.toList.take (n * 6))[i]? = cur[i]? := by rw [List.getElem?_take, if_pos hi]; simp
    rw [← e, ht]
    exact hu
theorem bt_string (w : World) (cap : Nat) (h1 : 1 ≤ cap) (h2 : cap ≤ maxLen) (m : Nat × Nat) : BT (w.alloc (.cells (bytesRow ⟨#[77]⟩ cap) 5 m)) (.slice (some ⟨w.heap.size, 0, none⟩) 1 cap) [77] := by
  have hb : (w.alloc (.cells (bytesRow ⟨#[77]⟩ cap) 5 m)).heap[w.heap.size]? = some (.cells (bytesRow ⟨#[77]⟩ cap) 5 m) := heap_alloc_new w _
  refine ⟨_, cap, rfl, ⟨rfl, by simp, fun _ => ⟨w.heap.size, 0, rfl, fun i hi => ?_⟩⟩, h1, h2, by simp, fun b off ha => ?_⟩
  · obtain rfl : i = 0 := by simp at hi; omega
    rw [Nat.zero_add, World.cell?_alloc_mark, bytesRow_at _ _ _ (by decide)]
    rfl
  · simp only [Option.some.injEq, Addr.mk.injEq, and_true] at ha
    exact ⟨_, _, by rw [← ha.1]; exact hb⟩

set_option maxHeartbeats 16000000 in
theorem l5wildM (g B : Nat) (ai : Option Addr) (ci : Nat) (li : List R3) (ds : List D3) (w : World) (h : Cur w g) (hgB : g < B) (hBw : B ≤ w.heap.size) (hI : RL w 47 B (.slice ai ds.length ci) li ds) (hds : ∀ d ∈ ds, isM d ∧ d.len ≤ 80) (hd2 : ds.length ≤ 2) :
    Calls Try.prog 35 #[.pointer (some ⟨g, 0, none⟩), .string ⟨#[77]⟩, .slice ai ds.length ci] w fun e w' => ∃ (o : O5), e = .returned (.agg #[o.x, o.e, o.i, o.d, o.c]) ∧ (∃ b : Ob, (∃ lE lI, DOb w' B o b lE lI) ∧ 1 ≤ b.ex.length ∧ b.ex.length ≤ 3 ∧ b.im.length ≤ 2 ∧ b.code.length ≤ 1000) ∧ Drawn w w' g := by
  have hgw : g < w.heap.size := h.lt
  have HDS : Hid (∀ d ∈ ds, isM d ∧ d.len ≤ 80) := hds
  clear hds
  have x0 := B5.new w 26 ⟨.slice none 0 0, .slice none 0 0, .slice none 0 0, .int .i64 0, .slice none 0 0⟩
  have d0 : Drawn w (w.alloc (.cells #[.slice none 0 0, .slice none 0 0, .slice none 0 0, .int .i64 0, .slice none 0 0] 26 (0, 0))) g := h.start _
  have i0 : RL (w.alloc (.cells #[.slice none 0 0, .slice none 0 0, .slice none 0 0, .int .i64 0, .slice none 0 0] 26 (0, 0))) 47 B (.slice ai ds.length ci) li ds := hI.keep (keep_alloc _ _) (by intro k hk; simp at hk)
  have z0 : (w.alloc (.cells #[.slice none 0 0, .slice none 0 0, .slice none 0 0, .int .i64 0, .slice none 0 0] 26 (0, 0))).heap.size = w.heap.size + 1 := by simp
  simp only at x0
  have hcv := fun w => run_bytes_of_string (P := Try.prog) w 9 22 5 ⟨#[77]⟩ Try.underlying9 Try.underlying22 Try.underlying5
  have HX : Hid (B5 (w.alloc (.cells #[.slice none 0 0, .slice none 0 0, .slice none 0 0, .int .i64 0, .slice none 0 0] 26 (0, 0))) w.heap.size 26 ⟨.slice none 0 0, .slice none 0 0, .slice none 0 0, .int .i64 0, .slice none 0 0⟩ ∧ Drawn w (w.alloc (.cells #[.slice none 0 0, .slice none 0 0, .slice none 0 0, .int .i64 0, .slice none 0 0] 26 (0, 0))) g ∧ RL (w.alloc (.cells #[.slice none 0 0, .slice none 0 0, .slice none 0 0, .int .i64 0, .slice none 0 0] 26 (0, 0))) 47 B (.slice ai ds.length ci) li ds ∧ (w.alloc (.cells #[.slice none 0 0, .slice none 0 0, .slice none 0 0, .int .i64 0, .slice none 0 0] 26 (0, 0))).heap.size = w.heap.size + 1) := ⟨x0, d0, i0, z0⟩
  clear x0 d0 i0 z0 h hI
  go_enter Try.func35, Try.ntmps35
  go_upto_region 1 with fail
  generalize w.alloc (.cells #[.slice none 0 0, .slice none 0 0, .slice none 0 0, .int .i64 0, .slice none 0 0] 26 (0, 0)) = w1 at *
  go_wp2_with fail
  have hc1 := grownCap_ge w1 1 0 5
  have hc2 := grownCap_le_maxLen w1 1 0 5 (by unfold maxLen; omega)
  have HY : Hid (Drawn w (w1.alloc (.cells (bytesRow ⟨#[77]⟩ (grownCap w1 1 0 5)) 5 ((bytesRow ⟨#[77]⟩ (grownCap w1 1 0 5)).size, (bytesRow ⟨#[77]⟩ (grownCap w1 1 0 5)).size + 1))).drew g ∧ B5 (w1.alloc (.cells (bytesRow ⟨#[77]⟩ (grownCap w1 1 0 5)) 5 ((bytesRow ⟨#[77]⟩ (grownCap w1 1 0 5)).size, (bytesRow ⟨#[77]⟩ (grownCap w1 1 0 5)).size + 1))).drew w.heap.size 26 ⟨.slice none 0 0, .slice none 0 0, .slice none 0 0, .int .i64 0, .slice none 0 0⟩ ∧ RL (w1.alloc (.cells (bytesRow ⟨#[77]⟩ (grownCap w1 1 0 5)) 5 ((bytesRow ⟨#[77]⟩ (grownCap w1 1 0 5)).size, (bytesRow ⟨#[77]⟩ (grownCap w1 1 0 5)).size + 1))).drew 47 B (.slice ai ds.length ci) li ds ∧ BT (w1.alloc (.cells (bytesRow ⟨#[77]⟩ (grownCap w1 1 0 5)) 5 ((bytesRow ⟨#[77]⟩ (grownCap w1 1 0 5)).size, (bytesRow ⟨#[77]⟩ (grownCap w1 1 0 5)).size + 1))).drew (.slice (some ⟨w1.heap.size, 0, none⟩) 1 (grownCap w1 1 0 5)) [77]) := by
    obtain ⟨q1, q2, q3, _⟩ := HX.out
    have b12 : Below w1.heap.size w1 (w1.alloc (.cells (bytesRow ⟨#[77]⟩ (grownCap w1 1 0 5)) 5 ((bytesRow ⟨#[77]⟩ (grownCap w1 1 0 5)).size, (bytesRow ⟨#[77]⟩ (grownCap w1 1 0 5)).size + 1))).drew := ((Below.refl _ _).alloc (Nat.le_refl _) _).drew
    have kk : KeepO [] w1 (w1.alloc (.cells (bytesRow ⟨#[77]⟩ (grownCap w1 1 0 5)) 5 ((bytesRow ⟨#[77]⟩ (grownCap w1 1 0 5)).size, (bytesRow ⟨#[77]⟩ (grownCap w1 1 0 5)).size + 1))).drew := ⟨b12.os, b12.tape, b12.output, b12.size, fun g h1 _ => b12.block g h1⟩
    have k2 : KeepO [] (w1.alloc (.cells (bytesRow ⟨#[77]⟩ (grownCap w1 1 0 5)) 5 ((bytesRow ⟨#[77]⟩ (grownCap w1 1 0 5)).size, (bytesRow ⟨#[77]⟩ (grownCap w1 1 0 5)).size + 1))) (w1.alloc (.cells (bytesRow ⟨#[77]⟩ (grownCap w1 1 0 5)) 5 ((bytesRow ⟨#[77]⟩ (grownCap w1 1 0 5)).size, (bytesRow ⟨#[77]⟩ (grownCap w1 1 0 5)).size + 1))).drew := ⟨rfl, rfl, rfl, Nat.le_refl _, fun _ _ _ => rfl⟩
    exact ⟨q2.below b12, B5.keep q1 kk (by simp), q3.keep kk (by intro k hk; simp at hk), (bt_string w1 _ hc1 hc2 _).keep k2 (by intro k hk; simp at hk)⟩
  clear hc1 hc2 hcv
  generalize (w1.alloc (.cells (bytesRow ⟨#[77]⟩ (grownCap w1 1 0 5)) 5 ((bytesRow ⟨#[77]⟩ (grownCap w1 1 0 5)).size, (bytesRow ⟨#[77]⟩ (grownCap w1 1 0 5)).size + 1))).drew = w2 at *
  generalize grownCap w1 1 0 5 = cn at *
  have HGN : Hid (w1.heap.size = w.heap.size + 1) := HX.out.2.2.2
  clear HX
  generalize w1.heap.size = gn at *
  refine (belowM g _ w2 HY.out.1.1 (by omega)).mono ?_
  rintro e w3 ⟨y0, rfl, y0a, y0b, _, hd⟩
  have W4 : Hid (WS w (w3.alloc (.cells #[.slice (some ⟨gn, 0, none⟩) 1 cn, .slice none 0 0, .slice ai ds.length ci, .int .i64 y0, .slice none 0 0] 26 (0, 0))) g w3.heap.size ⟨.slice (some ⟨gn, 0, none⟩) 1 cn, .slice none 0 0, .slice ai ds.length ci, .int .i64 y0, .slice none 0 0⟩ (.slice ai ds.length ci) li ds B (.slice (some ⟨gn, 0, none⟩) 1 cn) [77]) := by
    obtain ⟨q1, q2, q3, q4⟩ := HY.out
    have hf := q1.1.free
    have kk := hd.keepO
    have e1 : ∀ k, some k ∈ [some g] → k = g := fun k hk => by simpa using hk
    exact WS.start (o := ⟨.slice (some ⟨gn, 0, none⟩) 1 cn, .slice none 0 0, .slice ai ds.length ci, .int .i64 y0, .slice none 0 0⟩) (q1.trans hd) (B5.keep q2 kk (by simp; omega)) (q3.keep kk (fun k hk => by rw [e1 k hk]; exact ⟨hf.noB, fun cur e => (hf cur _ _ e).2.2 rfl⟩)) (q4.keep kk (fun k hk => by rw [e1 k hk]; exact hf.noB)) hgw
  clear hd HY y0a y0b
  go_upto_region 3 with fail
  generalize w3.alloc (.cells #[.slice (some ⟨gn, 0, none⟩) 1 cn, .slice none 0 0, .slice ai ds.length ci, .int .i64 y0, .slice none 0 0] 26 (0, 0)) = w4 at *
  generalize w3.heap.size = go at *
  go_wp2_with fail
  refine (belowM g _ w4 W4.out.dr.1 (by omega)).mono ?_
  rintro e w5 ⟨n1, rfl, n1a, n1b, _, hd⟩
  replace n1b : n1 < 14 := n1b (by omega)
  obtain ⟨m1, rfl⟩ := Int.eq_ofNat_of_zero_le n1a
  have hm1 : m1 < 14 := by omega
  have W5 : Hid (WS w w5 g go ⟨.slice (some ⟨gn, 0, none⟩) 1 cn, .slice none 0 0, .slice ai ds.length ci, .int .i64 y0, .slice none 0 0⟩ (.slice ai ds.length ci) li ds B (.slice (some ⟨gn, 0, none⟩) 1 cn) [77]) := W4.out.drawn hd
  clear hd n1a n1b W4
  have R5 : Hid (w5.ownsRow w.heap.size 92 6 (.slice none 0 0) 0 (flatI [])) := World.ownsRow_nil _ _ _ _
  go_wp2_with fail
  go_loopw [8, 10] (fun v i wr => ∃ j : Nat, j ≤ m1 + 1 ∧ i = .int .i64 j ∧ ∃ a' q c', v = .slice a' q c' ∧ q ≤ 5 * j ∧ Hid (∃ l' : List In6, wr.ownsRow w.heap.size 92 6 (.slice a' q c') q (flatI l') ∧ l'.length = q ∧ WS w wr g go ⟨.slice (some ⟨gn, 0, none⟩) 1 cn, .slice none 0 0, .slice ai ds.length ci, .int .i64 y0, .slice none 0 0⟩ (.slice ai ds.length ci) li ds B (.slice (some ⟨gn, 0, none⟩) 1 cn) [77])) (fun _ i _ => m1 + 1 - (intOf i).toNat)
  case atStart => exact ⟨0, Nat.zero_le _, rfl, none, 0, 0, rfl, by omega, [], R5.out, rfl, W5.out⟩
  case round =>
    obtain ⟨j, hj, rfl, a', q, c', rfl, hq, HR⟩ := hrel
    obtain ⟨l', hrow, hlen, hW⟩ := HR.out
    have Rr : Hid (wr.ownsRow w.heap.size 92 6 (.slice a' q c') q (flatI l') ∧ l'.length = q) := ⟨hrow, hlen⟩
    have Wr : Hid (WS w wr g go ⟨.slice (some ⟨gn, 0, none⟩) 1 cn, .slice none 0 0, .slice ai ds.length ci, .int .i64 y0, .slice none 0 0⟩ (.slice ai ds.length ci) li ds B (.slice (some ⟨gn, 0, none⟩) 1 cn) [77]) := hW
    clear hrow hlen hW HR
    by_cases hlt : j < m1 + 1
    · rcases Nat.eq_zero_or_pos ds.length with hz | hp
      · have hzi : ¬ ((0 : Int) < (ds.length : Int)) := by omega
        clear hz
        go_wp2_with fail
        refine (onceM g _ wr Wr.out.dr.1 (by omega)).mono ?_
        rintro e wq ⟨b2, rfl, hd⟩
        have Wrn : Hid (WS w wq g go ⟨.slice (some ⟨gn, 0, none⟩) 1 cn, .slice none 0 0, .slice ai ds.length ci, .int .i64 y0, .slice none 0 0⟩ (.slice ai ds.length ci) li ds B (.slice (some ⟨gn, 0, none⟩) 1 cn) [77]) := Wr.out.drawn hd
        have Rrn : Hid (wq.ownsRow w.heap.size 92 6 (.slice a' q c') q (flatI l') ∧ l'.length = q) := ⟨row_drawn Rr.out.1 hd hgw, Rr.out.2⟩
        clear hd Wr Rr
        cases b2
        · go_wp2_with fail
          refine (l5oftenM g wq Wrn.out.dr.1).mono ?_
          rintro e wo ⟨xo, xa, xb, xc, xn, xm, rfl, hd⟩
          have Wo : Hid (WS w wo g go ⟨.slice (some ⟨gn, 0, none⟩) 1 cn, .slice none 0 0, .slice ai ds.length ci, .int .i64 y0, .slice none 0 0⟩ (.slice ai ds.length ci) li ds B (.slice (some ⟨gn, 0, none⟩) 1 cn) [77]) := Wrn.out.drawn hd
          have Ro : Hid (wo.ownsRow w.heap.size 92 6 (.slice a' q c') q (flatI l') ∧ l'.length = q) := ⟨row_drawn Rrn.out.1 hd hgw, Rrn.out.2⟩
          clear hd Wrn Rrn
          have WA : Hid (WS w (wo.alloc (.cells #[.int .i64 (xo), .int .i64 (xa), .int .i64 (xb), .int .i64 (xc), .int .i64 (xn), .int .i64 (xm)] 92)) g go ⟨.slice (some ⟨gn, 0, none⟩) 1 cn, .slice none 0 0, .slice ai ds.length ci, .int .i64 y0, .slice none 0 0⟩ (.slice ai ds.length ci) li ds B (.slice (some ⟨gn, 0, none⟩) 1 cn) [77]) := Wo.out.alloc _
          have RA : Hid ((wo.alloc (.cells #[.int .i64 (xo), .int .i64 (xa), .int .i64 (xb), .int .i64 (xc), .int .i64 (xn), .int .i64 (xm)] 92)).ownsRow w.heap.size 92 6 (.slice a' q c') q (flatI l')) := row_alloc Ro.out.1 _
          have hwc : w.heap.size ≤ wo.heap.size := Wo.out.go_lt
          go_wp2_with (at_builtin; refine wpList_appendIs rfl _ _ rfl w.heap.size _ q l' rfl RA.out wo.heap.size 1 [⟨xo, xa, xb, xc, xn, xm⟩] rfl (heap_new wo _ _) rfl (by omega) (by simp; omega) ?_)
          intro v9 w9 ho hg9
          have W9 := WA.out.grown hg9 (row_where RA.out)
          obtain ⟨a9, c9, e9, _⟩ := row_shape ho (by rw [List.length_append, Ro.out.2]; rfl)
          subst e9
          have HF : Hid (∃ l'' : List In6, w9.ownsRow w.heap.size 92 6 (.slice a9 (q + 1) c9) (q + 1) (flatI l'') ∧ l''.length = q + 1 ∧ WS w w9 g go ⟨.slice (some ⟨gn, 0, none⟩) 1 cn, .slice none 0 0, .slice ai ds.length ci, .int .i64 y0, .slice none 0 0⟩ (.slice ai ds.length ci) li ds B (.slice (some ⟨gn, 0, none⟩) 1 cn) [77]) := ⟨_, ho, by rw [List.length_append, Ro.out.2]; rfl, W9⟩
          clear W9 ho hg9 WA RA Wo Ro
          go_wp2_with fail
          go_roundw
          case rel => exact ⟨j + 1, by omega, by go_num, a9, q + 1, c9, rfl, by omega, HF⟩
          case measure => simp [intOf]; omega
        · go_wp2_with fail
          refine (belowM g _ wq Wrn.out.dr.1 (by omega)).mono ?_
          rintro e wp ⟨p0, rfl, p0a, p0b, p0z, hd⟩
          have Wrnn : Hid (WS w wp g go ⟨.slice (some ⟨gn, 0, none⟩) 1 cn, .slice none 0 0, .slice ai ds.length ci, .int .i64 y0, .slice none 0 0⟩ (.slice ai ds.length ci) li ds B (.slice (some ⟨gn, 0, none⟩) 1 cn) [77]) := Wrn.out.drawn hd
          have Rrnn : Hid (wp.ownsRow w.heap.size 92 6 (.slice a' q c') q (flatI l') ∧ l'.length = q) := ⟨row_drawn Rrn.out.1 hd hgw, Rrn.out.2⟩
          clear hd Wrn Rrn
          have WA : Hid (WS w (wp.alloc (.cells #[.int .i64 (1), .int .i64 (0), .int .i64 (0), .int .i64 (0), .int .i64 (p0), .int .i64 (0), .int .i64 (20), .int .i64 (0), .int .i64 (0), .int .i64 (0), .int .i64 (0), .int .i64 (0)] 92)) g go ⟨.slice (some ⟨gn, 0, none⟩) 1 cn, .slice none 0 0, .slice ai ds.length ci, .int .i64 y0, .slice none 0 0⟩ (.slice ai ds.length ci) li ds B (.slice (some ⟨gn, 0, none⟩) 1 cn) [77]) := Wrnn.out.alloc _
          have RA : Hid ((wp.alloc (.cells #[.int .i64 (1), .int .i64 (0), .int .i64 (0), .int .i64 (0), .int .i64 (p0), .int .i64 (0), .int .i64 (20), .int .i64 (0), .int .i64 (0), .int .i64 (0), .int .i64 (0), .int .i64 (0)] 92)).ownsRow w.heap.size 92 6 (.slice a' q c') q (flatI l')) := row_alloc Rrnn.out.1 _
          have hwc : w.heap.size ≤ wp.heap.size := Wrnn.out.go_lt
          go_wp2_with (at_builtin; refine wpList_appendIs rfl _ _ rfl w.heap.size _ q l' rfl RA.out wp.heap.size 2 [⟨1, 0, 0, 0, p0, 0⟩, ⟨20, 0, 0, 0, 0, 0⟩] rfl (heap_new wp _ _) rfl (by omega) (by simp; omega) ?_)
          intro v9 w9 ho hg9
          have W9 := WA.out.grown hg9 (row_where RA.out)
          obtain ⟨a9, c9, e9, _⟩ := row_shape ho (by rw [List.length_append, Rrnn.out.2]; rfl)
          subst e9
          have HF : Hid (∃ l'' : List In6, w9.ownsRow w.heap.size 92 6 (.slice a9 (q + 2) c9) (q + 2) (flatI l'') ∧ l''.length = q + 2 ∧ WS w w9 g go ⟨.slice (some ⟨gn, 0, none⟩) 1 cn, .slice none 0 0, .slice ai ds.length ci, .int .i64 y0, .slice none 0 0⟩ (.slice ai ds.length ci) li ds B (.slice (some ⟨gn, 0, none⟩) 1 cn) [77]) := ⟨_, ho, by rw [List.length_append, Rrnn.out.2]; rfl, W9⟩
          clear W9 ho hg9 WA RA Wrnn Rrnn
          go_wp2_with fail
          go_roundw
          case rel => exact ⟨j + 1, by omega, by go_num, a9, q + 2, c9, rfl, by omega, HF⟩
          case measure => simp [intOf]; omega
      · have hpi : (0 : Int) < (ds.length : Int) := by omega
        go_wp2_with fail
        refine (onceM g _ wr Wr.out.dr.1 (by omega)).mono ?_
        rintro e wb ⟨b1, rfl, hd⟩
        have Wrn : Hid (WS w wb g go ⟨.slice (some ⟨gn, 0, none⟩) 1 cn, .slice none 0 0, .slice ai ds.length ci, .int .i64 y0, .slice none 0 0⟩ (.slice ai ds.length ci) li ds B (.slice (some ⟨gn, 0, none⟩) 1 cn) [77]) := Wr.out.drawn hd
        have Rrn : Hid (wb.ownsRow w.heap.size 92 6 (.slice a' q c') q (flatI l') ∧ l'.length = q) := ⟨row_drawn Rr.out.1 hd hgw, Rr.out.2⟩
        clear hd Wr Rr
        cases b1
        · go_wp2_with fail
          refine (onceM g _ wb Wrn.out.dr.1 (by omega)).mono ?_
          rintro e wq ⟨b2, rfl, hd⟩
          have Wrnn : Hid (WS w wq g go ⟨.slice (some ⟨gn, 0, none⟩) 1 cn, .slice none 0 0, .slice ai ds.length ci, .int .i64 y0, .slice none 0 0⟩ (.slice ai ds.length ci) li ds B (.slice (some ⟨gn, 0, none⟩) 1 cn) [77]) := Wrn.out.drawn hd
          have Rrnn : Hid (wq.ownsRow w.heap.size 92 6 (.slice a' q c') q (flatI l') ∧ l'.length = q) := ⟨row_drawn Rrn.out.1 hd hgw, Rrn.out.2⟩
          clear hd Wrn Rrn
          cases b2
          · go_wp2_with fail
            refine (l5oftenM g wq Wrnn.out.dr.1).mono ?_
            rintro e wo ⟨xo, xa, xb, xc, xn, xm, rfl, hd⟩
            have Wo : Hid (WS w wo g go ⟨.slice (some ⟨gn, 0, none⟩) 1 cn, .slice none 0 0, .slice ai ds.length ci, .int .i64 y0, .slice none 0 0⟩ (.slice ai ds.length ci) li ds B (.slice (some ⟨gn, 0, none⟩) 1 cn) [77]) := Wrnn.out.drawn hd
            have Ro : Hid (wo.ownsRow w.heap.size 92 6 (.slice a' q c') q (flatI l') ∧ l'.length = q) := ⟨row_drawn Rrnn.out.1 hd hgw, Rrnn.out.2⟩
            clear hd Wrnn Rrnn
            have WA : Hid (WS w (wo.alloc (.cells #[.int .i64 (xo), .int .i64 (xa), .int .i64 (xb), .int .i64 (xc), .int .i64 (xn), .int .i64 (xm)] 92)) g go ⟨.slice (some ⟨gn, 0, none⟩) 1 cn, .slice none 0 0, .slice ai ds.length ci, .int .i64 y0, .slice none 0 0⟩ (.slice ai ds.length ci) li ds B (.slice (some ⟨gn, 0, none⟩) 1 cn) [77]) := Wo.out.alloc _
            have RA : Hid ((wo.alloc (.cells #[.int .i64 (xo), .int .i64 (xa), .int .i64 (xb), .int .i64 (xc), .int .i64 (xn), .int .i64 (xm)] 92)).ownsRow w.heap.size 92 6 (.slice a' q c') q (flatI l')) := row_alloc Ro.out.1 _
            have hwc : w.heap.size ≤ wo.heap.size := Wo.out.go_lt
            go_wp2_with (at_builtin; refine wpList_appendIs rfl _ _ rfl w.heap.size _ q l' rfl RA.out wo.heap.size 1 [⟨xo, xa, xb, xc, xn, xm⟩] rfl (heap_new wo _ _) rfl (by omega) (by simp; omega) ?_)
            intro v9 w9 ho hg9
            have W9 := WA.out.grown hg9 (row_where RA.out)
            obtain ⟨a9, c9, e9, _⟩ := row_shape ho (by rw [List.length_append, Ro.out.2]; rfl)
            subst e9
            have HF : Hid (∃ l'' : List In6, w9.ownsRow w.heap.size 92 6 (.slice a9 (q + 1) c9) (q + 1) (flatI l'') ∧ l''.length = q + 1 ∧ WS w w9 g go ⟨.slice (some ⟨gn, 0, none⟩) 1 cn, .slice none 0 0, .slice ai ds.length ci, .int .i64 y0, .slice none 0 0⟩ (.slice ai ds.length ci) li ds B (.slice (some ⟨gn, 0, none⟩) 1 cn) [77]) := ⟨_, ho, by rw [List.length_append, Ro.out.2]; rfl, W9⟩
            clear W9 ho hg9 WA RA Wo Ro
            go_wp2_with fail
            go_roundw
            case rel => exact ⟨j + 1, by omega, by go_num, a9, q + 1, c9, rfl, by omega, HF⟩
            case measure => simp [intOf]; omega
          · go_wp2_with fail
            refine (belowM g _ wq Wrnn.out.dr.1 (by omega)).mono ?_
            rintro e wp ⟨p0, rfl, p0a, p0b, p0z, hd⟩
            have Wrnnn : Hid (WS w wp g go ⟨.slice (some ⟨gn, 0, none⟩) 1 cn, .slice none 0 0, .slice ai ds.length ci, .int .i64 y0, .slice none 0 0⟩ (.slice ai ds.length ci) li ds B (.slice (some ⟨gn, 0, none⟩) 1 cn) [77]) := Wrnn.out.drawn hd
            have Rrnnn : Hid (wp.ownsRow w.heap.size 92 6 (.slice a' q c') q (flatI l') ∧ l'.length = q) := ⟨row_drawn Rrnn.out.1 hd hgw, Rrnn.out.2⟩
            clear hd Wrnn Rrnn
            have WA : Hid (WS w (wp.alloc (.cells #[.int .i64 (1), .int .i64 (0), .int .i64 (0), .int .i64 (0), .int .i64 (p0), .int .i64 (0), .int .i64 (20), .int .i64 (0), .int .i64 (0), .int .i64 (0), .int .i64 (0), .int .i64 (0)] 92)) g go ⟨.slice (some ⟨gn, 0, none⟩) 1 cn, .slice none 0 0, .slice ai ds.length ci, .int .i64 y0, .slice none 0 0⟩ (.slice ai ds.length ci) li ds B (.slice (some ⟨gn, 0, none⟩) 1 cn) [77]) := Wrnnn.out.alloc _
            have RA : Hid ((wp.alloc (.cells #[.int .i64 (1), .int .i64 (0), .int .i64 (0), .int .i64 (0), .int .i64 (p0), .int .i64 (0), .int .i64 (20), .int .i64 (0), .int .i64 (0), .int .i64 (0), .int .i64 (0), .int .i64 (0)] 92)).ownsRow w.heap.size 92 6 (.slice a' q c') q (flatI l')) := row_alloc Rrnnn.out.1 _
            have hwc : w.heap.size ≤ wp.heap.size := Wrnnn.out.go_lt
            go_wp2_with (at_builtin; refine wpList_appendIs rfl _ _ rfl w.heap.size _ q l' rfl RA.out wp.heap.size 2 [⟨1, 0, 0, 0, p0, 0⟩, ⟨20, 0, 0, 0, 0, 0⟩] rfl (heap_new wp _ _) rfl (by omega) (by simp; omega) ?_)
            intro v9 w9 ho hg9
            have W9 := WA.out.grown hg9 (row_where RA.out)
            obtain ⟨a9, c9, e9, _⟩ := row_shape ho (by rw [List.length_append, Rrnnn.out.2]; rfl)
            subst e9
            have HF : Hid (∃ l'' : List In6, w9.ownsRow w.heap.size 92 6 (.slice a9 (q + 2) c9) (q + 2) (flatI l'') ∧ l''.length = q + 2 ∧ WS w w9 g go ⟨.slice (some ⟨gn, 0, none⟩) 1 cn, .slice none 0 0, .slice ai ds.length ci, .int .i64 y0, .slice none 0 0⟩ (.slice ai ds.length ci) li ds B (.slice (some ⟨gn, 0, none⟩) 1 cn) [77]) := ⟨_, ho, by rw [List.length_append, Rrnnn.out.2]; rfl, W9⟩
            clear W9 ho hg9 WA RA Wrnnn Rrnnn
            go_wp2_with fail
            go_roundw
            case rel => exact ⟨j + 1, by omega, by go_num, a9, q + 2, c9, rfl, by omega, HF⟩
            case measure => simp [intOf]; omega
        · go_wp2_with fail
          refine (belowM g _ wb Wrn.out.dr.1 (by omega)).mono ?_
          rintro e wf0 ⟨f0, rfl, f0a, f0b, f0z, hd⟩
          have Wrnn : Hid (WS w wf0 g go ⟨.slice (some ⟨gn, 0, none⟩) 1 cn, .slice none 0 0, .slice ai ds.length ci, .int .i64 y0, .slice none 0 0⟩ (.slice ai ds.length ci) li ds B (.slice (some ⟨gn, 0, none⟩) 1 cn) [77]) := Wrn.out.drawn hd
          have Rrnn : Hid (wf0.ownsRow w.heap.size 92 6 (.slice a' q c') q (flatI l') ∧ l'.length = q) := ⟨row_drawn Rrn.out.1 hd hgw, Rrn.out.2⟩
          clear hd Wrn Rrn
          replace f0b : f0 < 7 := f0b (by omega)
          go_wp2_with fail
          refine (belowM g _ wf0 Wrnn.out.dr.1 (by omega)).mono ?_
          rintro e wf1 ⟨f1, rfl, f1a, f1b, f1z, hd⟩
          have Wrnnn : Hid (WS w wf1 g go ⟨.slice (some ⟨gn, 0, none⟩) 1 cn, .slice none 0 0, .slice ai ds.length ci, .int .i64 y0, .slice none 0 0⟩ (.slice ai ds.length ci) li ds B (.slice (some ⟨gn, 0, none⟩) 1 cn) [77]) := Wrnn.out.drawn hd
          have Rrnnn : Hid (wf1.ownsRow w.heap.size 92 6 (.slice a' q c') q (flatI l') ∧ l'.length = q) := ⟨row_drawn Rrnn.out.1 hd hgw, Rrnn.out.2⟩
          clear hd Wrnn Rrnn
          go_wp2_with fail
          refine (belowM g _ wf1 Wrnnn.out.dr.1 (by omega)).mono ?_
          rintro e wf2 ⟨f2, rfl, f2a, f2b, f2z, hd⟩
          have Wrnnnn : Hid (WS w wf2 g go ⟨.slice (some ⟨gn, 0, none⟩) 1 cn, .slice none 0 0, .slice ai ds.length ci, .int .i64 y0, .slice none 0 0⟩ (.slice ai ds.length ci) li ds B (.slice (some ⟨gn, 0, none⟩) 1 cn) [77]) := Wrnnn.out.drawn hd
          have Rrnnnn : Hid (wf2.ownsRow w.heap.size 92 6 (.slice a' q c') q (flatI l') ∧ l'.length = q) := ⟨row_drawn Rrnnn.out.1 hd hgw, Rrnnn.out.2⟩
          clear hd Wrnnn Rrnnn
          go_wp2_with fail
          refine (belowM g _ wf2 Wrnnnn.out.dr.1 (by omega)).mono ?_
          rintro e wf3 ⟨f3, rfl, f3a, f3b, f3z, hd⟩
          have Wrnnnnn : Hid (WS w wf3 g go ⟨.slice (some ⟨gn, 0, none⟩) 1 cn, .slice none 0 0, .slice ai ds.length ci, .int .i64 y0, .slice none 0 0⟩ (.slice ai ds.length ci) li ds B (.slice (some ⟨gn, 0, none⟩) 1 cn) [77]) := Wrnnnn.out.drawn hd
          have Rrnnnnn : Hid (wf3.ownsRow w.heap.size 92 6 (.slice a' q c') q (flatI l') ∧ l'.length = q) := ⟨row_drawn Rrnnnn.out.1 hd hgw, Rrnnnn.out.2⟩
          clear hd Wrnnnn Rrnnnn
          go_wp2_with fail
          refine (belowM g _ wf3 Wrnnnnn.out.dr.1 (by omega)).mono ?_
          rintro e wf4 ⟨f4, rfl, f4a, f4b, f4z, hd⟩
          have Wrnnnnnn : Hid (WS w wf4 g go ⟨.slice (some ⟨gn, 0, none⟩) 1 cn, .slice none 0 0, .slice ai ds.length ci, .int .i64 y0, .slice none 0 0⟩ (.slice ai ds.length ci) li ds B (.slice (some ⟨gn, 0, none⟩) 1 cn) [77]) := Wrnnnnn.out.drawn hd
          have Rrnnnnnn : Hid (wf4.ownsRow w.heap.size 92 6 (.slice a' q c') q (flatI l') ∧ l'.length = q) := ⟨row_drawn Rrnnnnn.out.1 hd hgw, Rrnnnnn.out.2⟩
          clear hd Wrnnnnn Rrnnnnn
          have WA : Hid (WS w (wf4.alloc (.cells #[.int .i64 (1), .int .i64 (0), .int .i64 (0), .int .i64 (0), .int .i64 (f0 - 1), .int .i64 (0), .int .i64 (1), .int .i64 (1), .int .i64 (0), .int .i64 (0), .int .i64 (f1), .int .i64 (0), .int .i64 (4), .int .i64 (4), .int .i64 (6), .int .i64 (0), .int .i64 (f2), .int .i64 (0), .int .i64 (19), .int .i64 (4), .int .i64 (0), .int .i64 (0), .int .i64 (f3), .int .i64 (f4), .int .i64 (16), .int .i64 (0), .int .i64 (0), .int .i64 (0), .int .i64 (0), .int .i64 (0)] 92)) g go ⟨.slice (some ⟨gn, 0, none⟩) 1 cn, .slice none 0 0, .slice ai ds.length ci, .int .i64 y0, .slice none 0 0⟩ (.slice ai ds.length ci) li ds B (.slice (some ⟨gn, 0, none⟩) 1 cn) [77]) := Wrnnnnnn.out.alloc _
          have RA : Hid ((wf4.alloc (.cells #[.int .i64 (1), .int .i64 (0), .int .i64 (0), .int .i64 (0), .int .i64 (f0 - 1), .int .i64 (0), .int .i64 (1), .int .i64 (1), .int .i64 (0), .int .i64 (0), .int .i64 (f1), .int .i64 (0), .int .i64 (4), .int .i64 (4), .int .i64 (6), .int .i64 (0), .int .i64 (f2), .int .i64 (0), .int .i64 (19), .int .i64 (4), .int .i64 (0), .int .i64 (0), .int .i64 (f3), .int .i64 (f4), .int .i64 (16), .int .i64 (0), .int .i64 (0), .int .i64 (0), .int .i64 (0), .int .i64 (0)] 92)).ownsRow w.heap.size 92 6 (.slice a' q c') q (flatI l')) := row_alloc Rrnnnnnn.out.1 _
          have hwc : w.heap.size ≤ wf4.heap.size := Wrnnnnnn.out.go_lt
          go_wp2_with (at_builtin; refine wpList_appendIs rfl _ _ rfl w.heap.size _ q l' rfl RA.out wf4.heap.size 5 [⟨1, 0, 0, 0, f0 - 1, 0⟩, ⟨1, 1, 0, 0, f1, 0⟩, ⟨4, 4, 6, 0, f2, 0⟩, ⟨19, 4, 0, 0, f3, f4⟩, ⟨16, 0, 0, 0, 0, 0⟩] rfl (heap_new wf4 _ _) rfl (by omega) (by simp; omega) ?_)
          intro v9 w9 ho hg9
          have W9 := WA.out.grown hg9 (row_where RA.out)
          obtain ⟨a9, c9, e9, _⟩ := row_shape ho (by rw [List.length_append, Rrnnnnnn.out.2]; rfl)
          subst e9
          have HF : Hid (∃ l'' : List In6, w9.ownsRow w.heap.size 92 6 (.slice a9 (q + 5) c9) (q + 5) (flatI l'') ∧ l''.length = q + 5 ∧ WS w w9 g go ⟨.slice (some ⟨gn, 0, none⟩) 1 cn, .slice none 0 0, .slice ai ds.length ci, .int .i64 y0, .slice none 0 0⟩ (.slice ai ds.length ci) li ds B (.slice (some ⟨gn, 0, none⟩) 1 cn) [77]) := ⟨_, ho, by rw [List.length_append, Rrnnnnnn.out.2]; rfl, W9⟩
          clear W9 ho hg9 WA RA Wrnnnnnn Rrnnnnnn
          go_wp2_with fail
          go_roundw
          case rel => exact ⟨j + 1, by omega, by go_num, a9, q + 5, c9, rfl, by omega, HF⟩
          case measure => simp [intOf]; omega
    · have hjm : j = m1 + 1 := by omega
      subst hjm
      have WA : Hid (WS w (wr.alloc (.cells #[.int .i64 (20), .int .i64 (0), .int .i64 (0), .int .i64 (0), .int .i64 (0), .int .i64 (0)] 92)) g go ⟨.slice (some ⟨gn, 0, none⟩) 1 cn, .slice none 0 0, .slice ai ds.length ci, .int .i64 y0, .slice none 0 0⟩ (.slice ai ds.length ci) li ds B (.slice (some ⟨gn, 0, none⟩) 1 cn) [77]) := Wr.out.alloc _
      have RA : Hid ((wr.alloc (.cells #[.int .i64 (20), .int .i64 (0), .int .i64 (0), .int .i64 (0), .int .i64 (0), .int .i64 (0)] 92)).ownsRow w.heap.size 92 6 (.slice a' q c') q (flatI l')) := row_alloc Rr.out.1 _
      have hwc : w.heap.size ≤ wr.heap.size := Wr.out.go_lt
      go_wp2_with (at_builtin; refine wpList_appendIs rfl _ _ rfl w.heap.size _ q l' rfl RA.out wr.heap.size 1 [⟨20, 0, 0, 0, 0, 0⟩] rfl (heap_new wr _ _) rfl (by omega) (by simp; omega) ?_)
      intro v9 w9 ho hg9
      have W9 := WA.out.grown hg9 (row_where RA.out)
      have hl9 : (l' ++ ([⟨20, 0, 0, 0, 0, 0⟩] : List In6)).length = q + 1 := by rw [List.length_append, Rr.out.2]; rfl
      obtain ⟨a9, c9, e9, hI9⟩ := row_shape ho hl9
      subst e9
      have V9 : Hid (WS w w9 g go ⟨.slice (some ⟨gn, 0, none⟩) 1 cn, .slice none 0 0, .slice ai ds.length ci, .int .i64 y0, .slice none 0 0⟩ (.slice ai ds.length ci) li ds B (.slice (some ⟨gn, 0, none⟩) 1 cn) [77]) := W9
      have H9 := bytesAll a9 (q + 1) c9 _ w9 hI9 (by omega)
      have hE9 : (encL (l' ++ ([⟨20, 0, 0, 0, 0, 0⟩] : List In6))).length = 12 * (q + 1) := by rw [encL_len, hl9]
      generalize encL (l' ++ ([⟨20, 0, 0, 0, 0, 0⟩] : List In6)) = L10 at *
      clear W9 ho hg9 WA RA Wr Rr hI9 hl9
      go_wp2_with fail
      refine H9.mono ?_
      rintro e w10 ⟨v10, rfl, ho10, hb10⟩
      have V10 : Hid (WS w w10 g go ⟨.slice (some ⟨gn, 0, none⟩) 1 cn, .slice none 0 0, .slice ai ds.length ci, .int .i64 y0, .slice none 0 0⟩ (.slice ai ds.length ci) li ds B (.slice (some ⟨gn, 0, none⟩) 1 cn) [77]) := V9.out.below hb10
      have C10 : Hid (BT w10 v10 L10) := ho10.bt
      obtain ⟨a10, c10, e10, _⟩ := ho10.shape
      subst e10
      generalize hk10 : 12 * (q + 1) = k10 at *
      have hk900 : k10 ≤ 900 := by omega
      have HL10 : Hid (L10.length = k10) := hE9
      clear ho10 hb10 V9 H9 hE9 hk10
      obtain ⟨_, _, _, _, _⟩ := V10.out.obj.facts
      obtain ⟨f0, f1, f2, f3, f4⟩ := V10.out.obj.frozen
      go_upto_region 13 with fail
      have V11 : Hid (WS w (w10.setCell ⟨go, 4, none⟩ (.slice a10 k10 c10)) g go ⟨.slice (some ⟨gn, 0, none⟩) 1 cn, .slice none 0 0, .slice ai ds.length ci, .int .i64 y0, .slice a10 k10 c10⟩ (.slice ai ds.length ci) li ds B (.slice (some ⟨gn, 0, none⟩) 1 cn) [77]) := V10.out.set (V10.out.obj.set4 _)
      have C11 : Hid (BT (w10.setCell ⟨go, 4, none⟩ (.slice a10 k10 c10)) (.slice a10 k10 c10) L10) := C10.out.keep (keep_set _ _ _ _) (fun k hk => one_noB (noB_of V10.out.obj (by decide)) hk)
      clear f0 f1 f2 f3 f4 V10 C10
      generalize w10.setCell ⟨go, 4, none⟩ (.slice a10 k10 c10) = w11 at *
      go_wp2_with fail
      refine (onceM g _ w11 V11.out.dr.1 (by omega)).mono ?_
      rintro e w12 ⟨b8, rfl, hd⟩
      have V12 : Hid (WS w w12 g go ⟨.slice (some ⟨gn, 0, none⟩) 1 cn, .slice none 0 0, .slice ai ds.length ci, .int .i64 y0, .slice a10 k10 c10⟩ (.slice ai ds.length ci) li ds B (.slice (some ⟨gn, 0, none⟩) 1 cn) [77]) := V11.out.drawn hd
      have C12 : Hid (BT w12 (.slice a10 k10 c10) L10) := C11.out.keep hd.keepO (fun k hk => one_noB V11.out.dr.1.free.noB hk)
      clear hd V11 C11
      cases b8
      · obtain ⟨ac, hac⟩ : ∃ ac, ac = a10 := ⟨_, rfl⟩
        obtain ⟨cc, hcc⟩ : ∃ cc, cc = c10 := ⟨_, rfl⟩
        obtain ⟨kc, hkc⟩ : ∃ kc, kc = k10 := ⟨_, rfl⟩
        obtain ⟨Lc, hLL⟩ : ∃ Lc, Lc = L10 := ⟨_, rfl⟩
        subst hac hcc hkc hLL
        have hLc : Hid (Lc.length = kc ∧ kc ≤ 901) := ⟨HL10.out, by omega⟩
        go_wp2_with fail
        refine (belowM g _ w12 V12.out.dr.1 (by omega)).mono ?_
        rintro e wk ⟨k1, rfl, k1a, k1b, _, hd⟩
        replace k1b : k1 < 3 := k1b (by omega)
        obtain ⟨m3, rfl⟩ := Int.eq_ofNat_of_zero_le k1a
        have hm3 : m3 < 3 := by omega
        have H0 : Hid (∃ ae ce lE de, RL wk 43 w.heap.size (.slice ae 0 ce) lE de ∧ de.length = 0 ∧ (∀ d ∈ de, isE d ∧ d.len ≤ 80) ∧ WS w wk g go ⟨.slice (some ⟨gn, 0, none⟩) 1 cn, .slice ae 0 ce, .slice ai ds.length ci, .int .i64 y0, .slice ac kc cc⟩ (.slice ai ds.length ci) li ds B (.slice (some ⟨gn, 0, none⟩) 1 cn) [77] ∧ BT wk (.slice ac kc cc) Lc) := ⟨none, 0, [], [], RL.nil _ _ _, rfl, by simp, V12.out.drawn hd, BT.keep C12.out hd.keepO (fun k hk => one_noB V12.out.dr.1.free.noB hk)⟩
        clear hd k1a k1b V12 C12
        go_wp2_with fail
        go_loopw [12, 13, 14] (fun i _ _ wr => ∃ j2 : Nat, j2 ≤ m3 + 1 ∧ i = .int .i64 j2 ∧ Hid (∃ ae ce lE de, RL wr 43 w.heap.size (.slice ae j2 ce) lE de ∧ de.length = j2 ∧ (∀ d ∈ de, isE d ∧ d.len ≤ 80) ∧ WS w wr g go ⟨.slice (some ⟨gn, 0, none⟩) 1 cn, .slice ae j2 ce, .slice ai ds.length ci, .int .i64 y0, .slice ac kc cc⟩ (.slice ai ds.length ci) li ds B (.slice (some ⟨gn, 0, none⟩) 1 cn) [77] ∧ BT wr (.slice ac kc cc) Lc)) (fun i _ _ _ => m3 + 1 - (intOf i).toNat)
        case atStart => exact ⟨0, Nat.zero_le _, rfl, H0.out⟩
        case round =>
          obtain ⟨j2, hj2, rfl, HR2⟩ := hrel
          obtain ⟨ae, ce, lE, de, hX, hdl, hde, hW2, hC2⟩ := HR2.out
          have X2 : Hid (RL wr 43 w.heap.size (.slice ae j2 ce) lE de ∧ de.length = j2 ∧ (∀ d ∈ de, isE d ∧ d.len ≤ 80)) := ⟨hX, hdl, hde⟩
          have V2 : Hid (WS w wr g go ⟨.slice (some ⟨gn, 0, none⟩) 1 cn, .slice ae j2 ce, .slice ai ds.length ci, .int .i64 y0, .slice ac kc cc⟩ (.slice ai ds.length ci) li ds B (.slice (some ⟨gn, 0, none⟩) 1 cn) [77]) := hW2
          have C2 : Hid (BT wr (.slice ac kc cc) Lc) := hC2
          clear hX hdl hde hW2 hC2 HR2
          by_cases hl2 : j2 < m3 + 1
          · have hwc2 : w.heap.size ≤ wr.heap.size := V2.out.go_lt
            have hgr2 : g < wr.heap.size := V2.out.dr.1.lt
            obtain ⟨hK0, hb0⟩ := KL.new wr
            have V3 : Hid (WS w (lay5w wr) g go ⟨.slice (some ⟨gn, 0, none⟩) 1 cn, .slice ae j2 ce, .slice ai ds.length ci, .int .i64 y0, .slice ac kc cc⟩ (.slice ai ds.length ci) li ds B (.slice (some ⟨gn, 0, none⟩) 1 cn) [77]) := V2.out.below hb0
            have kk0 : KeepO [] wr (lay5w wr) := ⟨hb0.os, hb0.tape, hb0.output, hb0.size, fun g h1 _ => hb0.block g h1⟩
            have X3 : Hid (RL (lay5w wr) 43 w.heap.size (.slice ae j2 ce) lE de ∧ de.length = j2 ∧ (∀ d ∈ de, isE d ∧ d.len ≤ 80)) := ⟨X2.out.1.keep kk0 (by intro k hk; simp at hk), X2.out.2⟩
            have C3 : Hid (BT (lay5w wr) (.slice ac kc cc) Lc) := C2.out.keep kk0 (by intro k hk; simp at hk)
            have K3 : Hid (KL (lay5w wr) wr.heap.size) := hK0
            unfold lay5w at V3 X3 C3 K3
            clear hb0 kk0 hK0 V2 X2 C2
            go_wp2_with fail
            generalize ((((wr.alloc (.cells #[.int .i64 0] 3)).alloc (.cells #[.int .i64 0, .int .i64 0] 3)).alloc (.cells #[.int .i64 1] 3)).alloc (.cells #[.int .i64 1, .int .i64 0] 3)).alloc (.cells #[.slice none 0 0, .slice (some ⟨wr.heap.size, 0, none⟩) 1 1, .slice (some ⟨wr.heap.size + 1, 0, none⟩) 2 2, .slice (some ⟨wr.heap.size + 1 + 1, 0, none⟩) 1 1, .slice (some ⟨wr.heap.size + 1 + 1 + 1, 0, none⟩) 2 2] 71) = w3 at *
            generalize wr.heap.size = h0 at *
            refine (belowM g _ w3 V3.out.dr.1 (by omega)).mono ?_
            rintro e wz ⟨x5, rfl, x5a, x5b, _, hd⟩
            replace x5b : x5 < 5 := x5b (by omega)
            obtain ⟨x5, rfl⟩ := Int.eq_ofNat_of_zero_le x5a
            have hx5 : x5 < 5 := by omega
            have V4 : Hid (WS w wz g go ⟨.slice (some ⟨gn, 0, none⟩) 1 cn, .slice ae j2 ce, .slice ai ds.length ci, .int .i64 y0, .slice ac kc cc⟩ (.slice ai ds.length ci) li ds B (.slice (some ⟨gn, 0, none⟩) 1 cn) [77]) := V3.out.drawn hd
            have hfr := V3.out.dr.1.free
            have X4 : Hid (RL wz 43 w.heap.size (.slice ae j2 ce) lE de ∧ de.length = j2 ∧ (∀ d ∈ de, isE d ∧ d.len ≤ 80)) := ⟨X3.out.1.keep hd.keepO (fun k hk => ⟨one_noB hfr.noB hk, fun cur e => (one_free hfr hk cur _ _ e).2.1 rfl⟩), X3.out.2⟩
            have C4 : Hid (BT wz (.slice ac kc cc) Lc) := C3.out.keep hd.keepO (fun k hk => one_noB hfr.noB hk)
            obtain ⟨ak, nk, lk, hkc, hkr, hnk⟩ := (K3.out.drawn hd hgr2).at x5 hx5
            have N4 : Hid (NRow wz ak nk lk) := hkr
            clear hd V3 X3 C3 K3 x5a x5b hkr hfr
            have hwrp : IntKind.u8.wrap (112 + (j2 : Int)) = 112 + (j2 : Int) := by rw [IntKind.wrap_u8]; omega
            go_upto_region 21 with fail
            have bn : Below wz.heap.size wz (wz.alloc (.cells #[.int .u8 (112 + (j2 : Int))] 5)) := (Below.refl _ _).alloc (Nat.le_refl _) _
            have V5 : Hid (WS w (wz.alloc (.cells #[.int .u8 (112 + (j2 : Int))] 5)).drew g go ⟨.slice (some ⟨gn, 0, none⟩) 1 cn, .slice ae j2 ce, .slice ai ds.length ci, .int .i64 y0, .slice ac kc cc⟩ (.slice ai ds.length ci) li ds B (.slice (some ⟨gn, 0, none⟩) 1 cn) [77]) := V4.out.below bn.drew
            have kn : KeepO [] wz (wz.alloc (.cells #[.int .u8 (112 + (j2 : Int))] 5)).drew := ⟨rfl, rfl, rfl, bn.size, fun g h1 _ => bn.block g h1⟩
            have X5 : Hid (RL (wz.alloc (.cells #[.int .u8 (112 + (j2 : Int))] 5)).drew 43 w.heap.size (.slice ae j2 ce) lE de ∧ de.length = j2 ∧ (∀ d ∈ de, isE d ∧ d.len ≤ 80)) := ⟨X4.out.1.keep kn (by intro k hk; simp at hk), X4.out.2⟩
            have C5 : Hid (BT (wz.alloc (.cells #[.int .u8 (112 + (j2 : Int))] 5)).drew (.slice ac kc cc) Lc) := C4.out.keep kn (by intro k hk; simp at hk)
            have kd : KeepO [] (wz.alloc (.cells #[.int .u8 (112 + (j2 : Int))] 5)) (wz.alloc (.cells #[.int .u8 (112 + (j2 : Int))] 5)).drew := ⟨rfl, rfl, rfl, Nat.le_refl _, fun _ _ _ => rfl⟩
            have M5 : Hid (BT (wz.alloc (.cells #[.int .u8 (112 + (j2 : Int))] 5)).drew (.slice (some ⟨wz.heap.size, 0, none⟩) 1 1) [112 + (j2 : Int)]) := (bt_one wz (112 + (j2 : Int)) (by omega) (by omega) (0, 0)).keep kd (by intro k hk; simp at hk)
            have N5 : Hid (NRow (wz.alloc (.cells #[.int .u8 (112 + (j2 : Int))] 5)).drew ak nk lk) := N4.out.below bn.drew
            clear bn kn kd V4 X4 C4 N4
            refine wp_region_held_drew (S := fun _ => True) (by kernel_rfl) trivial (fun hHeld => ?_)
            generalize (wz.alloc (.cells #[.int .u8 (112 + (j2 : Int))] 5)).drew = wn at *
            generalize wz.heap.size = gm at *
            refine wpAnyH_take (i := 0) (oi := ?o501) (v := ?v501) ?i501 (by kernel_rfl) (by kernel_rfl) (by kernel_rfl) ?q501 ?y501 (hHeld) ?r501
            case i501 => exact rfl
            case q501 => exact (fun _ _ _ h => h)
            case y501 =>
              refine Or.inl ⟨by rfl, ?_⟩
              intro w hSw
              (try dsimp only at hSw)
              go_simp
              first | done | rfl
            try simp only [Act.put, List.getElem_toArray, List.getElem_cons_zero, List.getElem_cons_succ, List.setIfInBounds_toArray, List.set_cons_zero, List.set_cons_succ]
            refine wpAnyH_take (i := 2) (oi := ?o502) (v := ?v502) ?i502 (by kernel_rfl) (by kernel_rfl) (by kernel_rfl) ?q502 ?y502 (hHeld) ?r502
            case i502 => exact rfl
            case q502 => exact (fun _ _ _ h => h)
            case y502 =>
              refine Or.inl ⟨by rfl, ?_⟩
              intro w hSw
              (try dsimp only at hSw)
              go_simp
              first | done | rfl
            try simp only [Act.put, List.getElem_toArray, List.getElem_cons_zero, List.getElem_cons_succ, List.setIfInBounds_toArray, List.set_cons_zero, List.set_cons_succ]
            refine wpAnyH_take (i := 3) (oi := ?o503) (v := ?v503) ?i503 (by kernel_rfl) (by kernel_rfl) (by kernel_rfl) ?q503 ?y503 (hHeld) ?r503
            case i503 => exact rfl
            case q503 => exact (fun _ _ _ h => h)
            case y503 =>
              refine Or.inl ⟨by rfl, ?_⟩
              intro w hSw
              (try dsimp only at hSw)
              go_simp
              first | done | rfl
            try simp only [Act.put, List.getElem_toArray, List.getElem_cons_zero, List.getElem_cons_succ, List.setIfInBounds_toArray, List.set_cons_zero, List.set_cons_succ]
            refine wpAnyH_take (i := 4) (oi := ?o504) (v := ?v504) ?i504 (by kernel_rfl) (by kernel_rfl) (by kernel_rfl) ?q504 ?y504 (hHeld) ?r504
            case i504 => exact rfl
            case q504 => exact (fun _ _ _ h => h)
            case y504 =>
              refine Or.inl ⟨by rfl, ?_⟩
              intro w hSw
              (try dsimp only at hSw)
              go_simp
              first | done | rfl
            try simp only [Act.put, List.getElem_toArray, List.getElem_cons_zero, List.getElem_cons_succ, List.setIfInBounds_toArray, List.set_cons_zero, List.set_cons_succ]
            refine wpAnyH_take (i := 6) (oi := ?o505) (v := ?v505) ?i505 (by kernel_rfl) (by kernel_rfl) (by kernel_rfl) ?q505 ?y505 (hHeld) ?r505
            case i505 => exact rfl
            case q505 => exact (fun _ _ _ h => h)
            case y505 =>
              refine Or.inl ⟨by rfl, ?_⟩
              intro w hSw
              (try dsimp only at hSw)
              go_simp
              first | done | rfl
            try simp only [Act.put, List.getElem_toArray, List.getElem_cons_zero, List.getElem_cons_succ, List.setIfInBounds_toArray, List.set_cons_zero, List.set_cons_succ]
            refine wpAnyH_take (i := 7) (oi := ?o506) (v := ?v506) ?i506 (by kernel_rfl) (by kernel_rfl) (by kernel_rfl) ?q506 ?y506 (hHeld) ?r506
            case i506 => exact rfl
            case q506 => exact (fun _ _ _ h => h)
            case y506 =>
              refine Or.inl ⟨by rfl, ?_⟩
              intro w hSw
              (try dsimp only at hSw)
              go_simp
              first | done | rfl
            try simp only [Act.put, List.getElem_toArray, List.getElem_cons_zero, List.getElem_cons_succ, List.setIfInBounds_toArray, List.set_cons_zero, List.set_cons_succ]
            have k1 : wn.cell? ⟨go, 1, none⟩ = some (.slice ae j2 ce) := V5.out.obj.facts.2.1
            refine wpAnyH_ready (rs := [1, 5]) (by kernel_rfl) (by simp) ?_
            refine AllReadyH.cons (i := 1) (o := ?oK1) ?iK1 ?gK1 (AllReadyH.cons (i := 5) (o := ?oK2) ?iK2 ?gK2 AllReadyH.nil)
            case iK1 => exact rfl
            case iK2 => exact rfl
            case gK1 =>
              intro K hK
              go_simp
              clear k1
              refine hK.out _ _ trivial (fun hHeld => ?_)
              clear hK K
              try simp only [Act.put, List.getElem_toArray, List.getElem_cons_zero, List.getElem_cons_succ, List.setIfInBounds_toArray, List.set_cons_zero, List.set_cons_succ]
              refine wpAnyH_ready (rs := [5]) (by kernel_rfl) (by simp) ?_
              refine AllReadyH.cons (i := 5) (o := ?oK3) ?iK3 ?gK3 AllReadyH.nil
              case iK3 => exact rfl
              case gK3 =>
                intro K hK
                go_simp
                (with_reducible refine (specFinger (some ⟨gm, 0, none⟩) 1 1 [112 + (j2 : Int)] ak nk nk lk wn (BT.row M5.out) (by intro e; cases e) N5.out (by omega) (by omega)).mono ?_)
                rintro e wA ⟨rfl, hbA⟩
                generalize sumTo ([112 + (j2 : Int)] ++ kindsB lk) (1 + nk) = pr at *
                have V6 : Hid (WS w wA g go ⟨.slice (some ⟨gn, 0, none⟩) 1 cn, .slice ae j2 ce, .slice ai ds.length ci, .int .i64 y0, .slice ac kc cc⟩ (.slice ai ds.length ci) li ds B (.slice (some ⟨gn, 0, none⟩) 1 cn) [77]) := V5.out.below hbA
                have kA : KeepO [] wn wA := ⟨hbA.os, hbA.tape, hbA.output, hbA.size, fun g h1 _ => hbA.block g h1⟩
                have X6 : Hid (RL wA 43 w.heap.size (.slice ae j2 ce) lE de ∧ de.length = j2 ∧ (∀ d ∈ de, isE d ∧ d.len ≤ 80)) := ⟨X5.out.1.keep kA (by intro k hk; simp at hk), X5.out.2⟩
                have C6 : Hid (BT wA (.slice ac kc cc) Lc) := C5.out.keep kA (by intro k hk; simp at hk)
                have M6 : Hid (BT wA (.slice (some ⟨gm, 0, none⟩) 1 1) [112 + (j2 : Int)]) := M5.out.keep kA (by intro k hk; simp at hk)
                have HcA : Hid (Cur wA g) := V6.out.dr.1
                clear hbA kA V5 X5 C5 M5 N5
                go_wp2_with fail
                refine hK.out _ _ trivial (fun hHeld => ?_)
                clear hK K
                try simp only [Act.put, List.getElem_toArray, List.getElem_cons_zero, List.getElem_cons_succ, List.setIfInBounds_toArray, List.set_cons_zero, List.set_cons_succ]
                refine wpAnyH_ready (rs := [8]) (by kernel_rfl) (by simp) ?_
                refine AllReadyH.cons (i := 8) (o := ?oK4) ?iK4 ?gK4 AllReadyH.nil
                case iK4 => exact rfl
                case gK4 =>
                  intro K hK
                  go_simp
                  (with_reducible refine (belowM g _ wA HcA.out (by omega)).mono ?_)
                  rintro e wB ⟨y9, rfl, y9a, y9b, _, hd⟩
                  have V7 : Hid (WS w wB g go ⟨.slice (some ⟨gn, 0, none⟩) 1 cn, .slice ae j2 ce, .slice ai ds.length ci, .int .i64 y0, .slice ac kc cc⟩ (.slice ai ds.length ci) li ds B (.slice (some ⟨gn, 0, none⟩) 1 cn) [77]) := V6.out.drawn hd
                  have hfr := V6.out.dr.1.free
                  have X7 : Hid (RL wB 43 w.heap.size (.slice ae j2 ce) lE de ∧ de.length = j2 ∧ (∀ d ∈ de, isE d ∧ d.len ≤ 80)) := ⟨X6.out.1.keep hd.keepO (fun k hk => ⟨one_noB hfr.noB hk, fun cur e => (one_free hfr hk cur _ _ e).2.1 rfl⟩), X6.out.2⟩
                  have C7 : Hid (BT wB (.slice ac kc cc) Lc) := C6.out.keep hd.keepO (fun k hk => one_noB hfr.noB hk)
                  have M7 : Hid (BT wB (.slice (some ⟨gm, 0, none⟩) 1 1) [112 + (j2 : Int)]) := M6.out.keep hd.keepO (fun k hk => one_noB hfr.noB hk)
                  clear hd V6 X6 C6 M6 y9a y9b hfr
                  go_wp2_with fail
                  refine hK.out _ _ trivial (fun hHeld => ?_)
                  clear hK K
                  try simp only [Act.put, List.getElem_toArray, List.getElem_cons_zero, List.getElem_cons_succ, List.setIfInBounds_toArray, List.set_cons_zero, List.set_cons_succ]
                  refine wpAnyH_take (i := 9) (oi := ?o507) (v := ?v507) ?i507 (by kernel_rfl) (by kernel_rfl) (by kernel_rfl) ?q507 ?y507 (hHeld) ?r507
                  case i507 => exact rfl
                  case q507 => exact (fun _ _ _ h => h)
                  case y507 =>
                    refine Or.inl ⟨by rfl, ?_⟩
                    intro w hSw
                    (try dsimp only at hSw)
                    go_simp
                    first | done | rfl
                  try simp only [Act.put, List.getElem_toArray, List.getElem_cons_zero, List.getElem_cons_succ, List.setIfInBounds_toArray, List.set_cons_zero, List.set_cons_succ]
                  refine wpAnyH_ready (rs := [10]) (by kernel_rfl) (by simp) ?_
                  refine AllReadyH.cons (i := 10) (o := ?oK5) ?iK5 ?gK5 AllReadyH.nil
                  case iK5 => exact rfl
                  case gK5 =>
                    intro K hK
                    go_simp
                    have bR : Below wB.heap.size wB (wB.alloc (.cells #[.slice (some ⟨gm, 0, none⟩) 1 1, .int .i64 pr, .int .i64 y9] 43 (0, 0))) := (Below.refl _ _).alloc (Nat.le_refl _) _
                    have kR : KeepO [] wB (wB.alloc (.cells #[.slice (some ⟨gm, 0, none⟩) 1 1, .int .i64 pr, .int .i64 y9] 43 (0, 0))) := keep_alloc _ _
                    have V8 : Hid (WS w (wB.alloc (.cells #[.slice (some ⟨gm, 0, none⟩) 1 1, .int .i64 pr, .int .i64 y9] 43 (0, 0))) g go ⟨.slice (some ⟨gn, 0, none⟩) 1 cn, .slice ae j2 ce, .slice ai ds.length ci, .int .i64 y0, .slice ac kc cc⟩ (.slice ai ds.length ci) li ds B (.slice (some ⟨gn, 0, none⟩) 1 cn) [77]) := V7.out.below bR
                    have X8 : Hid (RL (wB.alloc (.cells #[.slice (some ⟨gm, 0, none⟩) 1 1, .int .i64 pr, .int .i64 y9] 43 (0, 0))) 43 w.heap.size (.slice ae j2 ce) lE de ∧ de.length = j2 ∧ (∀ d ∈ de, isE d ∧ d.len ≤ 80)) := ⟨X7.out.1.keep kR (by intro k hk; simp at hk), X7.out.2⟩
                    have C8 : Hid (BT (wB.alloc (.cells #[.slice (some ⟨gm, 0, none⟩) 1 1, .int .i64 pr, .int .i64 y9] 43 (0, 0))) (.slice ac kc cc) Lc) := C7.out.keep kR (by intro k hk; simp at hk)
                    have RR : Hid (RT (wB.alloc (.cells #[.slice (some ⟨gm, 0, none⟩) 1 1, .int .i64 pr, .int .i64 y9] 43 (0, 0))) ⟨.slice (some ⟨gm, 0, none⟩) 1 1, .int .i64 pr, .int .i64 y9⟩ ⟨.b [112 + (j2 : Int)], .n pr, .n y9⟩) := ⟨M7.out.keep kR (by intro k hk; simp at hk), rfl, rfl⟩
                    have B8 : Hid (B3 (wB.alloc (.cells #[.slice (some ⟨gm, 0, none⟩) 1 1, .int .i64 pr, .int .i64 y9] 43 (0, 0))) wB.heap.size 43 (.slice (some ⟨gm, 0, none⟩) 1 1) (.int .i64 pr) (.int .i64 y9)) := B3.new _ _ _ _ _
                    have hwR : w.heap.size ≤ (wB.alloc (.cells #[.slice (some ⟨gm, 0, none⟩) 1 1, .int .i64 pr, .int .i64 y9] 43 (0, 0))).heap.size := V8.out.go_lt
                    clear bR kR V7 X7 C7 M7
                    generalize wB.alloc (.cells #[.slice (some ⟨gm, 0, none⟩) 1 1, .int .i64 pr, .int .i64 y9] 43 (0, 0)) = wR at *
                    generalize wB.heap.size = gR at *
                    refine hK.out _ _ trivial (fun hHeld => ?_)
                    clear hK K
                    try simp only [Act.put, List.getElem_toArray, List.getElem_cons_zero, List.getElem_cons_succ, List.setIfInBounds_toArray, List.set_cons_zero, List.set_cons_succ]
                    refine wpAnyH_ready (rs := [11]) (by kernel_rfl) (by simp) ?_
                    refine AllReadyH.cons (i := 11) (o := ?oA) ?iA (fun K hK => ?_) AllReadyH.nil
                    case iA => exact rfl
                    rw [if_pos (by kernel_rfl)]
                    refine wp_appendE _ _ rfl w.heap.size (.slice ae j2 ce) j2 lE rfl (by have := X8.out.1.row; rw [X8.out.2.1] at this; exact this) gR ⟨.slice (some ⟨gm, 0, none⟩) 1 1, .int .i64 pr, .int .i64 y9⟩ rfl B8.out RR.out.one (by omega) hwR ?_
                    intro v9 w9 ho hg9
                    have X9' := X8.out.1.push (by decide) RR.out (by rw [X8.out.2.1]; exact ho) hg9
                    obtain ⟨a9, c9, e9, _⟩ := X9'.shape
                    have e9' : v9 = .slice a9 (j2 + 1) c9 := by rw [e9]; simp [X8.out.2.1]
                    subst e9'
                    have rw8 := fun (k : Nat) (hk : (Value.slice ae j2 ce).ownBlock = some k) => ownsRow_type X8.out.1.row hk
                    have V9 : Hid (WS w w9 g go ⟨.slice (some ⟨gn, 0, none⟩) 1 cn, .slice ae j2 ce, .slice ai ds.length ci, .int .i64 y0, .slice ac kc cc⟩ (.slice ai ds.length ci) li ds B (.slice (some ⟨gn, 0, none⟩) 1 cn) [77]) := V8.out.grown hg9 (fun k hk => by obtain ⟨cur, hb⟩ := rw8 k hk; exact ⟨(X8.out.1.row.lt k hk).1, cur, _, hb, by decide, by decide, by decide⟩)
                    have C9 : Hid (BT w9 (.slice ac kc cc) Lc) := C8.out.keep (os := [(Value.slice ae j2 ce).ownBlock]) (KeepO.of hg9 (by simp)) (fun k hk => by
                      have e : (Value.slice ae j2 ce).ownBlock = some k := (by have h0 : some k = (Value.slice ae j2 ce).ownBlock := (by simpa using hk); exact h0.symm)
                      obtain ⟨cur, hb⟩ := rw8 k e
                      exact noB_of hb (by decide))
                    have X9 : Hid (RL w9 43 w.heap.size (.slice a9 (j2 + 1) c9) (lE ++ [⟨.slice (some ⟨gm, 0, none⟩) 1 1, .int .i64 pr, .int .i64 y9⟩]) (de ++ [⟨.b [112 + (j2 : Int)], .n pr, .n y9⟩])) := X9'
                    have HDE : Hid ((de ++ [(⟨.b [112 + (j2 : Int)], .n pr, .n y9⟩ : D3)]).length = j2 + 1 ∧ ∀ d ∈ de ++ [(⟨.b [112 + (j2 : Int)], .n pr, .n y9⟩ : D3)], isE d ∧ d.len ≤ 80) := by
                      refine ⟨by simp [X8.out.2.1], fun d hd => ?_⟩
                      rcases List.mem_append.1 hd with hm | hm
                      · exact X8.out.2.2 d hm
                      · simp at hm; rw [hm]; exact ⟨⟨_, _, _, rfl⟩, by simp [D3.len, Fd.len]⟩
                    clear ho hg9 X9' e9 rw8 V8 X8 C8 RR B8
                    refine hK.out _ _ trivial (fun hHeld => ?_)
                    clear hK K
                    try simp only [Act.put, List.getElem_toArray, List.getElem_cons_zero, List.getElem_cons_succ, List.setIfInBounds_toArray, List.set_cons_zero, List.set_cons_succ]
                    refine wpAnyH_take (i := 12) (oi := ?o508) (v := ?v508) ?i508 (by kernel_rfl) (by kernel_rfl) (by kernel_rfl) ?q508 ?y508 (hHeld) ?r508
                    case i508 => exact rfl
                    case q508 => exact (fun _ _ _ h => h)
                    case y508 =>
                      refine Or.inl ⟨by rfl, ?_⟩
                      intro w hSw
                      (try dsimp only at hSw)
                      go_simp
                      first | done | rfl
                    try simp only [Act.put, List.getElem_toArray, List.getElem_cons_zero, List.getElem_cons_succ, List.setIfInBounds_toArray, List.set_cons_zero, List.set_cons_succ]
                    obtain ⟨_, _, _, _, _⟩ := V9.out.obj.facts
                    obtain ⟨f0, f1, f2, f3, f4⟩ := V9.out.obj.frozen
                    have HF : Hid (∃ ae ce lE de, RL (w9.setCell ⟨go, 1, none⟩ (.slice a9 (j2 + 1) c9)) 43 w.heap.size (.slice ae (j2 + 1) ce) lE de ∧ de.length = (j2 + 1) ∧ (∀ d ∈ de, isE d ∧ d.len ≤ 80) ∧ WS w (w9.setCell ⟨go, 1, none⟩ (.slice a9 (j2 + 1) c9)) g go ⟨.slice (some ⟨gn, 0, none⟩) 1 cn, .slice ae (j2 + 1) ce, .slice ai ds.length ci, .int .i64 y0, .slice ac kc cc⟩ (.slice ai ds.length ci) li ds B (.slice (some ⟨gn, 0, none⟩) 1 cn) [77] ∧ BT (w9.setCell ⟨go, 1, none⟩ (.slice a9 (j2 + 1) c9)) (.slice ac kc cc) Lc) := ⟨_, _, _, _, X9.out.keep (keep_set _ _ _ _) (fun k hk => ⟨one_noB (noB_of V9.out.obj (by decide)) hk, fun cur e => (one_free (free_of V9.out.obj (by decide) (by decide) (by decide)) hk cur _ _ e).2.1 rfl⟩), HDE.out.1, HDE.out.2, V9.out.set (V9.out.obj.set1 _), C9.out.keep (keep_set _ _ _ _) (fun k hk => one_noB (noB_of V9.out.obj (by decide)) hk)⟩
                    refine wpAnyH_ready (rs := [13]) (by kernel_rfl) (by simp) ?_
                    refine AllReadyH.cons (i := 13) (o := ?o509) ?i509 (fun K hK => ?_) AllReadyH.nil
                    case i509 => exact rfl
                    go_simp
                    clear f0 f1 f2 f3 f4 V9 C9 X9 HDE
                    generalize w9.setCell ⟨go, 1, none⟩ (.slice a9 (j2 + 1) c9) = wZ at *
                    refine hK.out _ _ trivial (fun hHeld => ?_)
                    clear hK K
                    try simp only [Act.put, List.getElem_toArray, List.getElem_cons_zero, List.getElem_cons_succ, List.setIfInBounds_toArray, List.set_cons_zero, List.set_cons_succ]
                    refine wpAnyH_done (by kernel_rfl) ?_ _
                    go_wp2_with fail
                    go_roundw
                    case rel => exact ⟨j2 + 1, by omega, by go_num, HF⟩
                    case measure => simp [intOf]; omega
            case gK2 =>
              intro K hK
              clear k1
              go_simp
              (with_reducible refine (specFinger (some ⟨gm, 0, none⟩) 1 1 [112 + (j2 : Int)] ak nk nk lk wn (BT.row M5.out) (by intro e; cases e) N5.out (by omega) (by omega)).mono ?_)
              rintro e wA ⟨rfl, hbA⟩
              generalize sumTo ([112 + (j2 : Int)] ++ kindsB lk) (1 + nk) = pr at *
              have V6 : Hid (WS w wA g go ⟨.slice (some ⟨gn, 0, none⟩) 1 cn, .slice ae j2 ce, .slice ai ds.length ci, .int .i64 y0, .slice ac kc cc⟩ (.slice ai ds.length ci) li ds B (.slice (some ⟨gn, 0, none⟩) 1 cn) [77]) := V5.out.below hbA
              have kA : KeepO [] wn wA := ⟨hbA.os, hbA.tape, hbA.output, hbA.size, fun g h1 _ => hbA.block g h1⟩
              have X6 : Hid (RL wA 43 w.heap.size (.slice ae j2 ce) lE de ∧ de.length = j2 ∧ (∀ d ∈ de, isE d ∧ d.len ≤ 80)) := ⟨X5.out.1.keep kA (by intro k hk; simp at hk), X5.out.2⟩
              have C6 : Hid (BT wA (.slice ac kc cc) Lc) := C5.out.keep kA (by intro k hk; simp at hk)
              have M6 : Hid (BT wA (.slice (some ⟨gm, 0, none⟩) 1 1) [112 + (j2 : Int)]) := M5.out.keep kA (by intro k hk; simp at hk)
              have HcA : Hid (Cur wA g) := V6.out.dr.1
              clear hbA kA V5 X5 C5 M5 N5
              go_wp2_with fail
              refine hK.out _ _ trivial (fun hHeld => ?_)
              clear hK K
              try simp only [Act.put, List.getElem_toArray, List.getElem_cons_zero, List.getElem_cons_succ, List.setIfInBounds_toArray, List.set_cons_zero, List.set_cons_succ]
              have k1 : wA.cell? ⟨go, 1, none⟩ = some (.slice ae j2 ce) := V6.out.obj.facts.2.1
              refine wpAnyH_ready (rs := [1, 8]) (by kernel_rfl) (by simp) ?_
              refine AllReadyH.cons (i := 1) (o := ?oK6) ?iK6 ?gK6 (AllReadyH.cons (i := 8) (o := ?oK7) ?iK7 ?gK7 AllReadyH.nil)
              case iK6 => exact rfl
              case iK7 => exact rfl
              case gK6 =>
                intro K hK
                go_simp
                clear k1
                refine hK.out _ _ trivial (fun hHeld => ?_)
                clear hK K
                try simp only [Act.put, List.getElem_toArray, List.getElem_cons_zero, List.getElem_cons_succ, List.setIfInBounds_toArray, List.set_cons_zero, List.set_cons_succ]
                refine wpAnyH_ready (rs := [8]) (by kernel_rfl) (by simp) ?_
                refine AllReadyH.cons (i := 8) (o := ?oK8) ?iK8 ?gK8 AllReadyH.nil
                case iK8 => exact rfl
                case gK8 =>
                  intro K hK
                  go_simp
                  (with_reducible refine (belowM g _ wA HcA.out (by omega)).mono ?_)
                  rintro e wB ⟨y9, rfl, y9a, y9b, _, hd⟩
                  have V7 : Hid (WS w wB g go ⟨.slice (some ⟨gn, 0, none⟩) 1 cn, .slice ae j2 ce, .slice ai ds.length ci, .int .i64 y0, .slice ac kc cc⟩ (.slice ai ds.length ci) li ds B (.slice (some ⟨gn, 0, none⟩) 1 cn) [77]) := V6.out.drawn hd
                  have hfr := V6.out.dr.1.free
                  have X7 : Hid (RL wB 43 w.heap.size (.slice ae j2 ce) lE de ∧ de.length = j2 ∧ (∀ d ∈ de, isE d ∧ d.len ≤ 80)) := ⟨X6.out.1.keep hd.keepO (fun k hk => ⟨one_noB hfr.noB hk, fun cur e => (one_free hfr hk cur _ _ e).2.1 rfl⟩), X6.out.2⟩
                  have C7 : Hid (BT wB (.slice ac kc cc) Lc) := C6.out.keep hd.keepO (fun k hk => one_noB hfr.noB hk)
                  have M7 : Hid (BT wB (.slice (some ⟨gm, 0, none⟩) 1 1) [112 + (j2 : Int)]) := M6.out.keep hd.keepO (fun k hk => one_noB hfr.noB hk)
                  clear hd V6 X6 C6 M6 y9a y9b hfr
                  go_wp2_with fail
                  refine hK.out _ _ trivial (fun hHeld => ?_)
                  clear hK K
                  try simp only [Act.put, List.getElem_toArray, List.getElem_cons_zero, List.getElem_cons_succ, List.setIfInBounds_toArray, List.set_cons_zero, List.set_cons_succ]
                  refine wpAnyH_take (i := 9) (oi := ?o510) (v := ?v510) ?i510 (by kernel_rfl) (by kernel_rfl) (by kernel_rfl) ?q510 ?y510 (hHeld) ?r510
                  case i510 => exact rfl
                  case q510 => exact (fun _ _ _ h => h)
                  case y510 =>
                    refine Or.inl ⟨by rfl, ?_⟩
                    intro w hSw
                    (try dsimp only at hSw)
                    go_simp
                    first | done | rfl
                  try simp only [Act.put, List.getElem_toArray, List.getElem_cons_zero, List.getElem_cons_succ, List.setIfInBounds_toArray, List.set_cons_zero, List.set_cons_succ]
                  refine wpAnyH_ready (rs := [10]) (by kernel_rfl) (by simp) ?_
                  refine AllReadyH.cons (i := 10) (o := ?oK9) ?iK9 ?gK9 AllReadyH.nil
                  case iK9 => exact rfl
                  case gK9 =>
                    intro K hK
                    go_simp
                    have bR : Below wB.heap.size wB (wB.alloc (.cells #[.slice (some ⟨gm, 0, none⟩) 1 1, .int .i64 pr, .int .i64 y9] 43 (0, 0))) := (Below.refl _ _).alloc (Nat.le_refl _) _
                    have kR : KeepO [] wB (wB.alloc (.cells #[.slice (some ⟨gm, 0, none⟩) 1 1, .int .i64 pr, .int .i64 y9] 43 (0, 0))) := keep_alloc _ _
                    have V8 : Hid (WS w (wB.alloc (.cells #[.slice (some ⟨gm, 0, none⟩) 1 1, .int .i64 pr, .int .i64 y9] 43 (0, 0))) g go ⟨.slice (some ⟨gn, 0, none⟩) 1 cn, .slice ae j2 ce, .slice ai ds.length ci, .int .i64 y0, .slice ac kc cc⟩ (.slice ai ds.length ci) li ds B (.slice (some ⟨gn, 0, none⟩) 1 cn) [77]) := V7.out.below bR
                    have X8 : Hid (RL (wB.alloc (.cells #[.slice (some ⟨gm, 0, none⟩) 1 1, .int .i64 pr, .int .i64 y9] 43 (0, 0))) 43 w.heap.size (.slice ae j2 ce) lE de ∧ de.length = j2 ∧ (∀ d ∈ de, isE d ∧ d.len ≤ 80)) := ⟨X7.out.1.keep kR (by intro k hk; simp at hk), X7.out.2⟩
                    have C8 : Hid (BT (wB.alloc (.cells #[.slice (some ⟨gm, 0, none⟩) 1 1, .int .i64 pr, .int .i64 y9] 43 (0, 0))) (.slice ac kc cc) Lc) := C7.out.keep kR (by intro k hk; simp at hk)
                    have RR : Hid (RT (wB.alloc (.cells #[.slice (some ⟨gm, 0, none⟩) 1 1, .int .i64 pr, .int .i64 y9] 43 (0, 0))) ⟨.slice (some ⟨gm, 0, none⟩) 1 1, .int .i64 pr, .int .i64 y9⟩ ⟨.b [112 + (j2 : Int)], .n pr, .n y9⟩) := ⟨M7.out.keep kR (by intro k hk; simp at hk), rfl, rfl⟩
                    have B8 : Hid (B3 (wB.alloc (.cells #[.slice (some ⟨gm, 0, none⟩) 1 1, .int .i64 pr, .int .i64 y9] 43 (0, 0))) wB.heap.size 43 (.slice (some ⟨gm, 0, none⟩) 1 1) (.int .i64 pr) (.int .i64 y9)) := B3.new _ _ _ _ _
                    have hwR : w.heap.size ≤ (wB.alloc (.cells #[.slice (some ⟨gm, 0, none⟩) 1 1, .int .i64 pr, .int .i64 y9] 43 (0, 0))).heap.size := V8.out.go_lt
                    clear bR kR V7 X7 C7 M7
                    generalize wB.alloc (.cells #[.slice (some ⟨gm, 0, none⟩) 1 1, .int .i64 pr, .int .i64 y9] 43 (0, 0)) = wR at *
                    generalize wB.heap.size = gR at *
                    refine hK.out _ _ trivial (fun hHeld => ?_)
                    clear hK K
                    try simp only [Act.put, List.getElem_toArray, List.getElem_cons_zero, List.getElem_cons_succ, List.setIfInBounds_toArray, List.set_cons_zero, List.set_cons_succ]
                    refine wpAnyH_ready (rs := [11]) (by kernel_rfl) (by simp) ?_
                    refine AllReadyH.cons (i := 11) (o := ?oA) ?iA (fun K hK => ?_) AllReadyH.nil
                    case iA => exact rfl
                    rw [if_pos (by kernel_rfl)]
                    refine wp_appendE _ _ rfl w.heap.size (.slice ae j2 ce) j2 lE rfl (by have := X8.out.1.row; rw [X8.out.2.1] at this; exact this) gR ⟨.slice (some ⟨gm, 0, none⟩) 1 1, .int .i64 pr, .int .i64 y9⟩ rfl B8.out RR.out.one (by omega) hwR ?_
                    intro v9 w9 ho hg9
                    have X9' := X8.out.1.push (by decide) RR.out (by rw [X8.out.2.1]; exact ho) hg9
                    obtain ⟨a9, c9, e9, _⟩ := X9'.shape
                    have e9' : v9 = .slice a9 (j2 + 1) c9 := by rw [e9]; simp [X8.out.2.1]
                    subst e9'
                    have rw8 := fun (k : Nat) (hk : (Value.slice ae j2 ce).ownBlock = some k) => ownsRow_type X8.out.1.row hk
                    have V9 : Hid (WS w w9 g go ⟨.slice (some ⟨gn, 0, none⟩) 1 cn, .slice ae j2 ce, .slice ai ds.length ci, .int .i64 y0, .slice ac kc cc⟩ (.slice ai ds.length ci) li ds B (.slice (some ⟨gn, 0, none⟩) 1 cn) [77]) := V8.out.grown hg9 (fun k hk => by obtain ⟨cur, hb⟩ := rw8 k hk; exact ⟨(X8.out.1.row.lt k hk).1, cur, _, hb, by decide, by decide, by decide⟩)
                    have C9 : Hid (BT w9 (.slice ac kc cc) Lc) := C8.out.keep (os := [(Value.slice ae j2 ce).ownBlock]) (KeepO.of hg9 (by simp)) (fun k hk => by
                      have e : (Value.slice ae j2 ce).ownBlock = some k := (by have h0 : some k = (Value.slice ae j2 ce).ownBlock := (by simpa using hk); exact h0.symm)
                      obtain ⟨cur, hb⟩ := rw8 k e
                      exact noB_of hb (by decide))
                    have X9 : Hid (RL w9 43 w.heap.size (.slice a9 (j2 + 1) c9) (lE ++ [⟨.slice (some ⟨gm, 0, none⟩) 1 1, .int .i64 pr, .int .i64 y9⟩]) (de ++ [⟨.b [112 + (j2 : Int)], .n pr, .n y9⟩])) := X9'
                    have HDE : Hid ((de ++ [(⟨.b [112 + (j2 : Int)], .n pr, .n y9⟩ : D3)]).length = j2 + 1 ∧ ∀ d ∈ de ++ [(⟨.b [112 + (j2 : Int)], .n pr, .n y9⟩ : D3)], isE d ∧ d.len ≤ 80) := by
                      refine ⟨by simp [X8.out.2.1], fun d hd => ?_⟩
                      rcases List.mem_append.1 hd with hm | hm
                      · exact X8.out.2.2 d hm
                      · simp at hm; rw [hm]; exact ⟨⟨_, _, _, rfl⟩, by simp [D3.len, Fd.len]⟩
                    clear ho hg9 X9' e9 rw8 V8 X8 C8 RR B8
                    refine hK.out _ _ trivial (fun hHeld => ?_)
                    clear hK K
                    try simp only [Act.put, List.getElem_toArray, List.getElem_cons_zero, List.getElem_cons_succ, List.setIfInBounds_toArray, List.set_cons_zero, List.set_cons_succ]
                    refine wpAnyH_take (i := 12) (oi := ?o511) (v := ?v511) ?i511 (by kernel_rfl) (by kernel_rfl) (by kernel_rfl) ?q511 ?y511 (hHeld) ?r511
                    case i511 => exact rfl
                    case q511 => exact (fun _ _ _ h => h)
                    case y511 =>
                      refine Or.inl ⟨by rfl, ?_⟩
                      intro w hSw
                      (try dsimp only at hSw)
                      go_simp
                      first | done | rfl
                    try simp only [Act.put, List.getElem_toArray, List.getElem_cons_zero, List.getElem_cons_succ, List.setIfInBounds_toArray, List.set_cons_zero, List.set_cons_succ]
                    obtain ⟨_, _, _, _, _⟩ := V9.out.obj.facts
                    obtain ⟨f0, f1, f2, f3, f4⟩ := V9.out.obj.frozen
                    have HF : Hid (∃ ae ce lE de, RL (w9.setCell ⟨go, 1, none⟩ (.slice a9 (j2 + 1) c9)) 43 w.heap.size (.slice ae (j2 + 1) ce) lE de ∧ de.length = (j2 + 1) ∧ (∀ d ∈ de, isE d ∧ d.len ≤ 80) ∧ WS w (w9.setCell ⟨go, 1, none⟩ (.slice a9 (j2 + 1) c9)) g go ⟨.slice (some ⟨gn, 0, none⟩) 1 cn, .slice ae (j2 + 1) ce, .slice ai ds.length ci, .int .i64 y0, .slice ac kc cc⟩ (.slice ai ds.length ci) li ds B (.slice (some ⟨gn, 0, none⟩) 1 cn) [77] ∧ BT (w9.setCell ⟨go, 1, none⟩ (.slice a9 (j2 + 1) c9)) (.slice ac kc cc) Lc) := ⟨_, _, _, _, X9.out.keep (keep_set _ _ _ _) (fun k hk => ⟨one_noB (noB_of V9.out.obj (by decide)) hk, fun cur e => (one_free (free_of V9.out.obj (by decide) (by decide) (by decide)) hk cur _ _ e).2.1 rfl⟩), HDE.out.1, HDE.out.2, V9.out.set (V9.out.obj.set1 _), C9.out.keep (keep_set _ _ _ _) (fun k hk => one_noB (noB_of V9.out.obj (by decide)) hk)⟩
                    refine wpAnyH_ready (rs := [13]) (by kernel_rfl) (by simp) ?_
                    refine AllReadyH.cons (i := 13) (o := ?o512) ?i512 (fun K hK => ?_) AllReadyH.nil
                    case i512 => exact rfl
                    go_simp
                    clear f0 f1 f2 f3 f4 V9 C9 X9 HDE
                    generalize w9.setCell ⟨go, 1, none⟩ (.slice a9 (j2 + 1) c9) = wZ at *
                    refine hK.out _ _ trivial (fun hHeld => ?_)
                    clear hK K
                    try simp only [Act.put, List.getElem_toArray, List.getElem_cons_zero, List.getElem_cons_succ, List.setIfInBounds_toArray, List.set_cons_zero, List.set_cons_succ]
                    refine wpAnyH_done (by kernel_rfl) ?_ _
                    go_wp2_with fail
                    go_roundw
                    case rel => exact ⟨j2 + 1, by omega, by go_num, HF⟩
                    case measure => simp [intOf]; omega
              case gK7 =>
                intro K hK
                clear k1
                go_simp
                (with_reducible refine (belowM g _ wA HcA.out (by omega)).mono ?_)
                rintro e wB ⟨y9, rfl, y9a, y9b, _, hd⟩
                have V7 : Hid (WS w wB g go ⟨.slice (some ⟨gn, 0, none⟩) 1 cn, .slice ae j2 ce, .slice ai ds.length ci, .int .i64 y0, .slice ac kc cc⟩ (.slice ai ds.length ci) li ds B (.slice (some ⟨gn, 0, none⟩) 1 cn) [77]) := V6.out.drawn hd
                have hfr := V6.out.dr.1.free
                have X7 : Hid (RL wB 43 w.heap.size (.slice ae j2 ce) lE de ∧ de.length = j2 ∧ (∀ d ∈ de, isE d ∧ d.len ≤ 80)) := ⟨X6.out.1.keep hd.keepO (fun k hk => ⟨one_noB hfr.noB hk, fun cur e => (one_free hfr hk cur _ _ e).2.1 rfl⟩), X6.out.2⟩
                have C7 : Hid (BT wB (.slice ac kc cc) Lc) := C6.out.keep hd.keepO (fun k hk => one_noB hfr.noB hk)
                have M7 : Hid (BT wB (.slice (some ⟨gm, 0, none⟩) 1 1) [112 + (j2 : Int)]) := M6.out.keep hd.keepO (fun k hk => one_noB hfr.noB hk)
                clear hd V6 X6 C6 M6 y9a y9b hfr
                go_wp2_with fail
                refine hK.out _ _ trivial (fun hHeld => ?_)
                clear hK K
                try simp only [Act.put, List.getElem_toArray, List.getElem_cons_zero, List.getElem_cons_succ, List.setIfInBounds_toArray, List.set_cons_zero, List.set_cons_succ]
                refine wpAnyH_take (i := 9) (oi := ?o513) (v := ?v513) ?i513 (by kernel_rfl) (by kernel_rfl) (by kernel_rfl) ?q513 ?y513 (hHeld) ?r513
                case i513 => exact rfl
                case q513 => exact (fun _ _ _ h => h)
                case y513 =>
                  refine Or.inl ⟨by rfl, ?_⟩
                  intro w hSw
                  (try dsimp only at hSw)
                  go_simp
                  first | done | rfl
                try simp only [Act.put, List.getElem_toArray, List.getElem_cons_zero, List.getElem_cons_succ, List.setIfInBounds_toArray, List.set_cons_zero, List.set_cons_succ]
                have k1 : wB.cell? ⟨go, 1, none⟩ = some (.slice ae j2 ce) := V7.out.obj.facts.2.1
                refine wpAnyH_ready (rs := [1, 10]) (by kernel_rfl) (by simp) ?_
                refine AllReadyH.cons (i := 1) (o := ?oK10) ?iK10 ?gK10 (AllReadyH.cons (i := 10) (o := ?oK11) ?iK11 ?gK11 AllReadyH.nil)
                case iK10 => exact rfl
                case iK11 => exact rfl
                case gK10 =>
                  intro K hK
                  go_simp
                  clear k1
                  refine hK.out _ _ trivial (fun hHeld => ?_)
                  clear hK K
                  try simp only [Act.put, List.getElem_toArray, List.getElem_cons_zero, List.getElem_cons_succ, List.setIfInBounds_toArray, List.set_cons_zero, List.set_cons_succ]
                  refine wpAnyH_ready (rs := [10]) (by kernel_rfl) (by simp) ?_
                  refine AllReadyH.cons (i := 10) (o := ?oK12) ?iK12 ?gK12 AllReadyH.nil
                  case iK12 => exact rfl
                  case gK12 =>
                    intro K hK
                    go_simp
                    have bR : Below wB.heap.size wB (wB.alloc (.cells #[.slice (some ⟨gm, 0, none⟩) 1 1, .int .i64 pr, .int .i64 y9] 43 (0, 0))) := (Below.refl _ _).alloc (Nat.le_refl _) _
                    have kR : KeepO [] wB (wB.alloc (.cells #[.slice (some ⟨gm, 0, none⟩) 1 1, .int .i64 pr, .int .i64 y9] 43 (0, 0))) := keep_alloc _ _
                    have V8 : Hid (WS w (wB.alloc (.cells #[.slice (some ⟨gm, 0, none⟩) 1 1, .int .i64 pr, .int .i64 y9] 43 (0, 0))) g go ⟨.slice (some ⟨gn, 0, none⟩) 1 cn, .slice ae j2 ce, .slice ai ds.length ci, .int .i64 y0, .slice ac kc cc⟩ (.slice ai ds.length ci) li ds B (.slice (some ⟨gn, 0, none⟩) 1 cn) [77]) := V7.out.below bR
                    have X8 : Hid (RL (wB.alloc (.cells #[.slice (some ⟨gm, 0, none⟩) 1 1, .int .i64 pr, .int .i64 y9] 43 (0, 0))) 43 w.heap.size (.slice ae j2 ce) lE de ∧ de.length = j2 ∧ (∀ d ∈ de, isE d ∧ d.len ≤ 80)) := ⟨X7.out.1.keep kR (by intro k hk; simp at hk), X7.out.2⟩
                    have C8 : Hid (BT (wB.alloc (.cells #[.slice (some ⟨gm, 0, none⟩) 1 1, .int .i64 pr, .int .i64 y9] 43 (0, 0))) (.slice ac kc cc) Lc) := C7.out.keep kR (by intro k hk; simp at hk)
                    have RR : Hid (RT (wB.alloc (.cells #[.slice (some ⟨gm, 0, none⟩) 1 1, .int .i64 pr, .int .i64 y9] 43 (0, 0))) ⟨.slice (some ⟨gm, 0, none⟩) 1 1, .int .i64 pr, .int .i64 y9⟩ ⟨.b [112 + (j2 : Int)], .n pr, .n y9⟩) := ⟨M7.out.keep kR (by intro k hk; simp at hk), rfl, rfl⟩
                    have B8 : Hid (B3 (wB.alloc (.cells #[.slice (some ⟨gm, 0, none⟩) 1 1, .int .i64 pr, .int .i64 y9] 43 (0, 0))) wB.heap.size 43 (.slice (some ⟨gm, 0, none⟩) 1 1) (.int .i64 pr) (.int .i64 y9)) := B3.new _ _ _ _ _
                    have hwR : w.heap.size ≤ (wB.alloc (.cells #[.slice (some ⟨gm, 0, none⟩) 1 1, .int .i64 pr, .int .i64 y9] 43 (0, 0))).heap.size := V8.out.go_lt
                    clear bR kR V7 X7 C7 M7
                    generalize wB.alloc (.cells #[.slice (some ⟨gm, 0, none⟩) 1 1, .int .i64 pr, .int .i64 y9] 43 (0, 0)) = wR at *
                    generalize wB.heap.size = gR at *
                    refine hK.out _ _ trivial (fun hHeld => ?_)
                    clear hK K
                    try simp only [Act.put, List.getElem_toArray, List.getElem_cons_zero, List.getElem_cons_succ, List.setIfInBounds_toArray, List.set_cons_zero, List.set_cons_succ]
                    refine wpAnyH_ready (rs := [11]) (by kernel_rfl) (by simp) ?_
                    refine AllReadyH.cons (i := 11) (o := ?oA) ?iA (fun K hK => ?_) AllReadyH.nil
                    case iA => exact rfl
                    rw [if_pos (by kernel_rfl)]
                    refine wp_appendE _ _ rfl w.heap.size (.slice ae j2 ce) j2 lE rfl (by have := X8.out.1.row; rw [X8.out.2.1] at this; exact this) gR ⟨.slice (some ⟨gm, 0, none⟩) 1 1, .int .i64 pr, .int .i64 y9⟩ rfl B8.out RR.out.one (by omega) hwR ?_
                    intro v9 w9 ho hg9
                    have X9' := X8.out.1.push (by decide) RR.out (by rw [X8.out.2.1]; exact ho) hg9
                    obtain ⟨a9, c9, e9, _⟩ := X9'.shape
                    have e9' : v9 = .slice a9 (j2 + 1) c9 := by rw [e9]; simp [X8.out.2.1]
                    subst e9'
                    have rw8 := fun (k : Nat) (hk : (Value.slice ae j2 ce).ownBlock = some k) => ownsRow_type X8.out.1.row hk
                    have V9 : Hid (WS w w9 g go ⟨.slice (some ⟨gn, 0, none⟩) 1 cn, .slice ae j2 ce, .slice ai ds.length ci, .int .i64 y0, .slice ac kc cc⟩ (.slice ai ds.length ci) li ds B (.slice (some ⟨gn, 0, none⟩) 1 cn) [77]) := V8.out.grown hg9 (fun k hk => by obtain ⟨cur, hb⟩ := rw8 k hk; exact ⟨(X8.out.1.row.lt k hk).1, cur, _, hb, by decide, by decide, by decide⟩)
                    have C9 : Hid (BT w9 (.slice ac kc cc) Lc) := C8.out.keep (os := [(Value.slice ae j2 ce).ownBlock]) (KeepO.of hg9 (by simp)) (fun k hk => by
                      have e : (Value.slice ae j2 ce).ownBlock = some k := (by have h0 : some k = (Value.slice ae j2 ce).ownBlock := (by simpa using hk); exact h0.symm)
                      obtain ⟨cur, hb⟩ := rw8 k e
                      exact noB_of hb (by decide))
                    have X9 : Hid (RL w9 43 w.heap.size (.slice a9 (j2 + 1) c9) (lE ++ [⟨.slice (some ⟨gm, 0, none⟩) 1 1, .int .i64 pr, .int .i64 y9⟩]) (de ++ [⟨.b [112 + (j2 : Int)], .n pr, .n y9⟩])) := X9'
                    have HDE : Hid ((de ++ [(⟨.b [112 + (j2 : Int)], .n pr, .n y9⟩ : D3)]).length = j2 + 1 ∧ ∀ d ∈ de ++ [(⟨.b [112 + (j2 : Int)], .n pr, .n y9⟩ : D3)], isE d ∧ d.len ≤ 80) := by
                      refine ⟨by simp [X8.out.2.1], fun d hd => ?_⟩
                      rcases List.mem_append.1 hd with hm | hm
                      · exact X8.out.2.2 d hm
                      · simp at hm; rw [hm]; exact ⟨⟨_, _, _, rfl⟩, by simp [D3.len, Fd.len]⟩
                    clear ho hg9 X9' e9 rw8 V8 X8 C8 RR B8
                    refine hK.out _ _ trivial (fun hHeld => ?_)
                    clear hK K
                    try simp only [Act.put, List.getElem_toArray, List.getElem_cons_zero, List.getElem_cons_succ, List.setIfInBounds_toArray, List.set_cons_zero, List.set_cons_succ]
                    refine wpAnyH_take (i := 12) (oi := ?o514) (v := ?v514) ?i514 (by kernel_rfl) (by kernel_rfl) (by kernel_rfl) ?q514 ?y514 (hHeld) ?r514
                    case i514 => exact rfl
                    case q514 => exact (fun _ _ _ h => h)
                    case y514 =>
                      refine Or.inl ⟨by rfl, ?_⟩
                      intro w hSw
                      (try dsimp only at hSw)
                      go_simp
                      first | done | rfl
                    try simp only [Act.put, List.getElem_toArray, List.getElem_cons_zero, List.getElem_cons_succ, List.setIfInBounds_toArray, List.set_cons_zero, List.set_cons_succ]
                    obtain ⟨_, _, _, _, _⟩ := V9.out.obj.facts
                    obtain ⟨f0, f1, f2, f3, f4⟩ := V9.out.obj.frozen
                    have HF : Hid (∃ ae ce lE de, RL (w9.setCell ⟨go, 1, none⟩ (.slice a9 (j2 + 1) c9)) 43 w.heap.size (.slice ae (j2 + 1) ce) lE de ∧ de.length = (j2 + 1) ∧ (∀ d ∈ de, isE d ∧ d.len ≤ 80) ∧ WS w (w9.setCell ⟨go, 1, none⟩ (.slice a9 (j2 + 1) c9)) g go ⟨.slice (some ⟨gn, 0, none⟩) 1 cn, .slice ae (j2 + 1) ce, .slice ai ds.length ci, .int .i64 y0, .slice ac kc cc⟩ (.slice ai ds.length ci) li ds B (.slice (some ⟨gn, 0, none⟩) 1 cn) [77] ∧ BT (w9.setCell ⟨go, 1, none⟩ (.slice a9 (j2 + 1) c9)) (.slice ac kc cc) Lc) := ⟨_, _, _, _, X9.out.keep (keep_set _ _ _ _) (fun k hk => ⟨one_noB (noB_of V9.out.obj (by decide)) hk, fun cur e => (one_free (free_of V9.out.obj (by decide) (by decide) (by decide)) hk cur _ _ e).2.1 rfl⟩), HDE.out.1, HDE.out.2, V9.out.set (V9.out.obj.set1 _), C9.out.keep (keep_set _ _ _ _) (fun k hk => one_noB (noB_of V9.out.obj (by decide)) hk)⟩
                    refine wpAnyH_ready (rs := [13]) (by kernel_rfl) (by simp) ?_
                    refine AllReadyH.cons (i := 13) (o := ?o515) ?i515 (fun K hK => ?_) AllReadyH.nil
                    case i515 => exact rfl
                    go_simp
                    clear f0 f1 f2 f3 f4 V9 C9 X9 HDE
                    generalize w9.setCell ⟨go, 1, none⟩ (.slice a9 (j2 + 1) c9) = wZ at *
                    refine hK.out _ _ trivial (fun hHeld => ?_)
                    clear hK K
                    try simp only [Act.put, List.getElem_toArray, List.getElem_cons_zero, List.getElem_cons_succ, List.setIfInBounds_toArray, List.set_cons_zero, List.set_cons_succ]
                    refine wpAnyH_done (by kernel_rfl) ?_ _
                    go_wp2_with fail
                    go_roundw
                    case rel => exact ⟨j2 + 1, by omega, by go_num, HF⟩
                    case measure => simp [intOf]; omega
                case gK11 =>
                  intro K hK
                  clear k1
                  go_simp
                  have bR : Below wB.heap.size wB (wB.alloc (.cells #[.slice (some ⟨gm, 0, none⟩) 1 1, .int .i64 pr, .int .i64 y9] 43 (0, 0))) := (Below.refl _ _).alloc (Nat.le_refl _) _
                  have kR : KeepO [] wB (wB.alloc (.cells #[.slice (some ⟨gm, 0, none⟩) 1 1, .int .i64 pr, .int .i64 y9] 43 (0, 0))) := keep_alloc _ _
                  have V8 : Hid (WS w (wB.alloc (.cells #[.slice (some ⟨gm, 0, none⟩) 1 1, .int .i64 pr, .int .i64 y9] 43 (0, 0))) g go ⟨.slice (some ⟨gn, 0, none⟩) 1 cn, .slice ae j2 ce, .slice ai ds.length ci, .int .i64 y0, .slice ac kc cc⟩ (.slice ai ds.length ci) li ds B (.slice (some ⟨gn, 0, none⟩) 1 cn) [77]) := V7.out.below bR
                  have X8 : Hid (RL (wB.alloc (.cells #[.slice (some ⟨gm, 0, none⟩) 1 1, .int .i64 pr, .int .i64 y9] 43 (0, 0))) 43 w.heap.size (.slice ae j2 ce) lE de ∧ de.length = j2 ∧ (∀ d ∈ de, isE d ∧ d.len ≤ 80)) := ⟨X7.out.1.keep kR (by intro k hk; simp at hk), X7.out.2⟩
                  have C8 : Hid (BT (wB.alloc (.cells #[.slice (some ⟨gm, 0, none⟩) 1 1, .int .i64 pr, .int .i64 y9] 43 (0, 0))) (.slice ac kc cc) Lc) := C7.out.keep kR (by intro k hk; simp at hk)
                  have RR : Hid (RT (wB.alloc (.cells #[.slice (some ⟨gm, 0, none⟩) 1 1, .int .i64 pr, .int .i64 y9] 43 (0, 0))) ⟨.slice (some ⟨gm, 0, none⟩) 1 1, .int .i64 pr, .int .i64 y9⟩ ⟨.b [112 + (j2 : Int)], .n pr, .n y9⟩) := ⟨M7.out.keep kR (by intro k hk; simp at hk), rfl, rfl⟩
                  have B8 : Hid (B3 (wB.alloc (.cells #[.slice (some ⟨gm, 0, none⟩) 1 1, .int .i64 pr, .int .i64 y9] 43 (0, 0))) wB.heap.size 43 (.slice (some ⟨gm, 0, none⟩) 1 1) (.int .i64 pr) (.int .i64 y9)) := B3.new _ _ _ _ _
                  have hwR : w.heap.size ≤ (wB.alloc (.cells #[.slice (some ⟨gm, 0, none⟩) 1 1, .int .i64 pr, .int .i64 y9] 43 (0, 0))).heap.size := V8.out.go_lt
                  clear bR kR V7 X7 C7 M7
                  generalize wB.alloc (.cells #[.slice (some ⟨gm, 0, none⟩) 1 1, .int .i64 pr, .int .i64 y9] 43 (0, 0)) = wR at *
                  generalize wB.heap.size = gR at *
                  refine hK.out _ _ trivial (fun hHeld => ?_)
                  clear hK K
                  try simp only [Act.put, List.getElem_toArray, List.getElem_cons_zero, List.getElem_cons_succ, List.setIfInBounds_toArray, List.set_cons_zero, List.set_cons_succ]
                  have k1 : wR.cell? ⟨go, 1, none⟩ = some (.slice ae j2 ce) := V8.out.obj.facts.2.1
                  refine wpAnyH_ready (rs := [1]) (by kernel_rfl) (by simp) ?_
                  refine AllReadyH.cons (i := 1) (o := ?oK13) ?iK13 ?gK13 AllReadyH.nil
                  case iK13 => exact rfl
                  case gK13 =>
                    intro K hK
                    go_simp
                    clear k1
                    refine hK.out _ _ trivial (fun hHeld => ?_)
                    clear hK K
                    try simp only [Act.put, List.getElem_toArray, List.getElem_cons_zero, List.getElem_cons_succ, List.setIfInBounds_toArray, List.set_cons_zero, List.set_cons_succ]
                    refine wpAnyH_ready (rs := [11]) (by kernel_rfl) (by simp) ?_
                    refine AllReadyH.cons (i := 11) (o := ?oA) ?iA (fun K hK => ?_) AllReadyH.nil
                    case iA => exact rfl
                    rw [if_pos (by kernel_rfl)]
                    refine wp_appendE _ _ rfl w.heap.size (.slice ae j2 ce) j2 lE rfl (by have := X8.out.1.row; rw [X8.out.2.1] at this; exact this) gR ⟨.slice (some ⟨gm, 0, none⟩) 1 1, .int .i64 pr, .int .i64 y9⟩ rfl B8.out RR.out.one (by omega) hwR ?_
                    intro v9 w9 ho hg9
                    have X9' := X8.out.1.push (by decide) RR.out (by rw [X8.out.2.1]; exact ho) hg9
                    obtain ⟨a9, c9, e9, _⟩ := X9'.shape
                    have e9' : v9 = .slice a9 (j2 + 1) c9 := by rw [e9]; simp [X8.out.2.1]
                    subst e9'
                    have rw8 := fun (k : Nat) (hk : (Value.slice ae j2 ce).ownBlock = some k) => ownsRow_type X8.out.1.row hk
                    have V9 : Hid (WS w w9 g go ⟨.slice (some ⟨gn, 0, none⟩) 1 cn, .slice ae j2 ce, .slice ai ds.length ci, .int .i64 y0, .slice ac kc cc⟩ (.slice ai ds.length ci) li ds B (.slice (some ⟨gn, 0, none⟩) 1 cn) [77]) := V8.out.grown hg9 (fun k hk => by obtain ⟨cur, hb⟩ := rw8 k hk; exact ⟨(X8.out.1.row.lt k hk).1, cur, _, hb, by decide, by decide, by decide⟩)
                    have C9 : Hid (BT w9 (.slice ac kc cc) Lc) := C8.out.keep (os := [(Value.slice ae j2 ce).ownBlock]) (KeepO.of hg9 (by simp)) (fun k hk => by
                      have e : (Value.slice ae j2 ce).ownBlock = some k := (by have h0 : some k = (Value.slice ae j2 ce).ownBlock := (by simpa using hk); exact h0.symm)
                      obtain ⟨cur, hb⟩ := rw8 k e
                      exact noB_of hb (by decide))
                    have X9 : Hid (RL w9 43 w.heap.size (.slice a9 (j2 + 1) c9) (lE ++ [⟨.slice (some ⟨gm, 0, none⟩) 1 1, .int .i64 pr, .int .i64 y9⟩]) (de ++ [⟨.b [112 + (j2 : Int)], .n pr, .n y9⟩])) := X9'
                    have HDE : Hid ((de ++ [(⟨.b [112 + (j2 : Int)], .n pr, .n y9⟩ : D3)]).length = j2 + 1 ∧ ∀ d ∈ de ++ [(⟨.b [112 + (j2 : Int)], .n pr, .n y9⟩ : D3)], isE d ∧ d.len ≤ 80) := by
                      refine ⟨by simp [X8.out.2.1], fun d hd => ?_⟩
                      rcases List.mem_append.1 hd with hm | hm
                      · exact X8.out.2.2 d hm
                      · simp at hm; rw [hm]; exact ⟨⟨_, _, _, rfl⟩, by simp [D3.len, Fd.len]⟩
                    clear ho hg9 X9' e9 rw8 V8 X8 C8 RR B8
                    refine hK.out _ _ trivial (fun hHeld => ?_)
                    clear hK K
                    try simp only [Act.put, List.getElem_toArray, List.getElem_cons_zero, List.getElem_cons_succ, List.setIfInBounds_toArray, List.set_cons_zero, List.set_cons_succ]
                    refine wpAnyH_take (i := 12) (oi := ?o516) (v := ?v516) ?i516 (by kernel_rfl) (by kernel_rfl) (by kernel_rfl) ?q516 ?y516 (hHeld) ?r516
                    case i516 => exact rfl
                    case q516 => exact (fun _ _ _ h => h)
                    case y516 =>
                      refine Or.inl ⟨by rfl, ?_⟩
                      intro w hSw
                      (try dsimp only at hSw)
                      go_simp
                      first | done | rfl
                    try simp only [Act.put, List.getElem_toArray, List.getElem_cons_zero, List.getElem_cons_succ, List.setIfInBounds_toArray, List.set_cons_zero, List.set_cons_succ]
                    obtain ⟨_, _, _, _, _⟩ := V9.out.obj.facts
                    obtain ⟨f0, f1, f2, f3, f4⟩ := V9.out.obj.frozen
                    have HF : Hid (∃ ae ce lE de, RL (w9.setCell ⟨go, 1, none⟩ (.slice a9 (j2 + 1) c9)) 43 w.heap.size (.slice ae (j2 + 1) ce) lE de ∧ de.length = (j2 + 1) ∧ (∀ d ∈ de, isE d ∧ d.len ≤ 80) ∧ WS w (w9.setCell ⟨go, 1, none⟩ (.slice a9 (j2 + 1) c9)) g go ⟨.slice (some ⟨gn, 0, none⟩) 1 cn, .slice ae (j2 + 1) ce, .slice ai ds.length ci, .int .i64 y0, .slice ac kc cc⟩ (.slice ai ds.length ci) li ds B (.slice (some ⟨gn, 0, none⟩) 1 cn) [77] ∧ BT (w9.setCell ⟨go, 1, none⟩ (.slice a9 (j2 + 1) c9)) (.slice ac kc cc) Lc) := ⟨_, _, _, _, X9.out.keep (keep_set _ _ _ _) (fun k hk => ⟨one_noB (noB_of V9.out.obj (by decide)) hk, fun cur e => (one_free (free_of V9.out.obj (by decide) (by decide) (by decide)) hk cur _ _ e).2.1 rfl⟩), HDE.out.1, HDE.out.2, V9.out.set (V9.out.obj.set1 _), C9.out.keep (keep_set _ _ _ _) (fun k hk => one_noB (noB_of V9.out.obj (by decide)) hk)⟩
                    refine wpAnyH_ready (rs := [13]) (by kernel_rfl) (by simp) ?_
                    refine AllReadyH.cons (i := 13) (o := ?o517) ?i517 (fun K hK => ?_) AllReadyH.nil
                    case i517 => exact rfl
                    go_simp
                    clear f0 f1 f2 f3 f4 V9 C9 X9 HDE
                    generalize w9.setCell ⟨go, 1, none⟩ (.slice a9 (j2 + 1) c9) = wZ at *
                    refine hK.out _ _ trivial (fun hHeld => ?_)
                    clear hK K
                    try simp only [Act.put, List.getElem_toArray, List.getElem_cons_zero, List.getElem_cons_succ, List.setIfInBounds_toArray, List.set_cons_zero, List.set_cons_succ]
                    refine wpAnyH_done (by kernel_rfl) ?_ _
                    go_wp2_with fail
                    go_roundw
                    case rel => exact ⟨j2 + 1, by omega, by go_num, HF⟩
                    case measure => simp [intOf]; omega
          · have hjm2 : j2 = m3 + 1 := by omega
            subst hjm2
            obtain ⟨p0, p1, p2, p3, p4⟩ := V2.out.obj.facts
            obtain ⟨_, _, _, _, _⟩ := V2.out.res.facts
            obtain ⟨f0, f1, f2, f3, f4⟩ := V2.out.res.frozen
            simp only at p0 p1 p2 p3 p4
            go_wp2_with fail
            have hgr : w.heap.size < go := V2.out.ne.2
            have kk : KeepO [some w.heap.size] wr (((((wr.setCell ⟨w.heap.size, 0, none⟩ (.slice (some ⟨gn, 0, none⟩) 1 cn)).setCell ⟨w.heap.size, 1, none⟩ (.slice ae (m3 + 1) ce)).setCell ⟨w.heap.size, 2, none⟩ (.slice ai ds.length ci)).setCell ⟨w.heap.size, 3, none⟩ (.int .i64 y0)).setCell ⟨w.heap.size, 4, none⟩ (.slice ac kc cc)) := ((((keep_set _ _ _ _).trans (keep_set _ _ _ _)).trans (keep_set _ _ _ _)).trans (keep_set _ _ _ _)).trans (keep_set _ _ _ _)
            have R9 : B5 (((((wr.setCell ⟨w.heap.size, 0, none⟩ (.slice (some ⟨gn, 0, none⟩) 1 cn)).setCell ⟨w.heap.size, 1, none⟩ (.slice ae (m3 + 1) ce)).setCell ⟨w.heap.size, 2, none⟩ (.slice ai ds.length ci)).setCell ⟨w.heap.size, 3, none⟩ (.int .i64 y0)).setCell ⟨w.heap.size, 4, none⟩ (.slice ac kc cc)) w.heap.size 26 ⟨.slice (some ⟨gn, 0, none⟩) 1 cn, .slice ae (m3 + 1) ce, .slice ai ds.length ci, .int .i64 y0, .slice ac kc cc⟩ := ((((V2.out.res.set0 _).set1 _).set2 _).set3 _).set4 _
            have hfr : Free wr w.heap.size := free_of V2.out.res (by decide) (by decide) (by decide)
            have hos : ∀ k, some k ∈ [some w.heap.size] → Free wr k := fun k hk => one_free hfr hk
            have D9 : Drawn w (((((wr.setCell ⟨w.heap.size, 0, none⟩ (.slice (some ⟨gn, 0, none⟩) 1 cn)).setCell ⟨w.heap.size, 1, none⟩ (.slice ae (m3 + 1) ce)).setCell ⟨w.heap.size, 2, none⟩ (.slice ai ds.length ci)).setCell ⟨w.heap.size, 3, none⟩ (.int .i64 y0)).setCell ⟨w.heap.size, 4, none⟩ (.slice ac kc cc)) g := by
              have gg : wr.grownBy (((((wr.setCell ⟨w.heap.size, 0, none⟩ (.slice (some ⟨gn, 0, none⟩) 1 cn)).setCell ⟨w.heap.size, 1, none⟩ (.slice ae (m3 + 1) ce)).setCell ⟨w.heap.size, 2, none⟩ (.slice ai ds.length ci)).setCell ⟨w.heap.size, 3, none⟩ (.int .i64 y0)).setCell ⟨w.heap.size, 4, none⟩ (.slice ac kc cc)) (some w.heap.size) := grown_trans (grown_trans (grown_trans (grown_trans (grown_set _ _ _ _) (grown_set _ _ _ _)) (grown_set _ _ _ _)) (grown_set _ _ _ _)) (grown_set _ _ _ _)
              exact ⟨V2.out.dr.1.kept gg (by intro k hk; cases hk; exact hgw), grown_over V2.out.dr.2 gg (by intro k hk; cases hk; exact Nat.le_refl _)⟩
            have DO : DOb wr B ⟨.slice (some ⟨gn, 0, none⟩) 1 cn, .slice ae (m3 + 1) ce, .slice ai ds.length ci, .int .i64 y0, .slice ac kc cc⟩ ⟨[77], de, ds, y0, Lc⟩ lE li := ⟨V2.out.nm, (by have := X2.out.1.mono hBw; exact this), V2.out.im, rfl, C2.out, X2.out.2.2, HDS.out, by have := X2.out.2.1; have := hLc.out; simp only [List.length_cons, List.length_nil]; omega⟩
            have DO9 := DO.keep kk hos
            generalize (((((wr.setCell ⟨w.heap.size, 0, none⟩ (.slice (some ⟨gn, 0, none⟩) 1 cn)).setCell ⟨w.heap.size, 1, none⟩ (.slice ae (m3 + 1) ce)).setCell ⟨w.heap.size, 2, none⟩ (.slice ai ds.length ci)).setCell ⟨w.heap.size, 3, none⟩ (.int .i64 y0)).setCell ⟨w.heap.size, 4, none⟩ (.slice ac kc cc)) = w9 at *
            obtain ⟨d0, d1, d2, d3, d4⟩ := R9.facts
            simp only at d0 d1 d2 d3 d4
            refine bodyPost_ret (v := .agg #[.slice (some ⟨gn, 0, none⟩) 1 cn, .slice ae (m3 + 1) ce, .slice ai ds.length ci, .int .i64 y0, .slice ac kc cc]) (by simp [results, Try.results35, go_sem, d0, d1, d2, d3, d4]) rfl ⟨⟨.slice (some ⟨gn, 0, none⟩) 1 cn, .slice ae (m3 + 1) ce, .slice ai ds.length ci, .int .i64 y0, .slice ac kc cc⟩, rfl, ⟨⟨[77], de, ds, y0, Lc⟩, ⟨lE, li, DO9⟩, ?_⟩, D9⟩
            have := X2.out.2.1; have := hLc.out
            simp only
            omega
      · obtain ⟨p0, p1, p2, p3, p4⟩ := V12.out.obj.facts
        simp only at p0 p1 p2 p3 p4
        have hB12 : BRow w12 a10 k10 L10 := BT.row C12.out
        have hN12 : a10 = none → c10 = 0 := BT.nil C12.out
        have H13 := spoilM g a10 k10 c10 L10 w12 V12.out.dr.1 hB12 hN12 (by omega)
        clear hB12 hN12
        go_wp2_with fail
        refine H13.mono ?_
        rintro e w13 ⟨ac, kc, cc, Lc, rfl, hkc, hm⟩
        have V13 : Hid (WS w w13 g go ⟨.slice (some ⟨gn, 0, none⟩) 1 cn, .slice none 0 0, .slice ai ds.length ci, .int .i64 y0, .slice a10 k10 c10⟩ (.slice ai ds.length ci) li ds B (.slice (some ⟨gn, 0, none⟩) 1 cn) [77]) := V12.out.drawn hm.drawn
        have C13 : Hid (BT w13 (.slice ac kc cc) Lc) := hm.own.bt
        have hLc : Hid (Lc.length = kc ∧ kc ≤ 901) := ⟨hm.row.1, by omega⟩
        clear hm H13 V12 C12 p0 p1 p2 p3 p4
        obtain ⟨_, _, _, _, _⟩ := V13.out.obj.facts
        obtain ⟨f0, f1, f2, f3, f4⟩ := V13.out.obj.frozen
        go_upto_region 15 with fail
        have V14 : Hid (WS w (w13.setCell ⟨go, 4, none⟩ (.slice ac kc cc)) g go ⟨.slice (some ⟨gn, 0, none⟩) 1 cn, .slice none 0 0, .slice ai ds.length ci, .int .i64 y0, .slice ac kc cc⟩ (.slice ai ds.length ci) li ds B (.slice (some ⟨gn, 0, none⟩) 1 cn) [77]) := V13.out.set (V13.out.obj.set4 _)
        have C14 : Hid (BT (w13.setCell ⟨go, 4, none⟩ (.slice ac kc cc)) (.slice ac kc cc) Lc) := C13.out.keep (keep_set _ _ _ _) (fun k hk => one_noB (noB_of V13.out.obj (by decide)) hk)
        clear f0 f1 f2 f3 f4 V13 C13
        generalize w13.setCell ⟨go, 4, none⟩ (.slice ac kc cc) = w14 at *
        go_wp2_with fail
        refine (belowM g _ w14 V14.out.dr.1 (by omega)).mono ?_
        rintro e wk ⟨k1, rfl, k1a, k1b, _, hd⟩
        replace k1b : k1 < 3 := k1b (by omega)
        obtain ⟨m3, rfl⟩ := Int.eq_ofNat_of_zero_le k1a
        have hm3 : m3 < 3 := by omega
        have H0 : Hid (∃ ae ce lE de, RL wk 43 w.heap.size (.slice ae 0 ce) lE de ∧ de.length = 0 ∧ (∀ d ∈ de, isE d ∧ d.len ≤ 80) ∧ WS w wk g go ⟨.slice (some ⟨gn, 0, none⟩) 1 cn, .slice ae 0 ce, .slice ai ds.length ci, .int .i64 y0, .slice ac kc cc⟩ (.slice ai ds.length ci) li ds B (.slice (some ⟨gn, 0, none⟩) 1 cn) [77] ∧ BT wk (.slice ac kc cc) Lc) := ⟨none, 0, [], [], RL.nil _ _ _, rfl, by simp, V14.out.drawn hd, BT.keep C14.out hd.keepO (fun k hk => one_noB V14.out.dr.1.free.noB hk)⟩
        clear hd k1a k1b V14 C14
        go_wp2_with fail
        go_loopw [12, 13, 14] (fun i _ _ wr => ∃ j2 : Nat, j2 ≤ m3 + 1 ∧ i = .int .i64 j2 ∧ Hid (∃ ae ce lE de, RL wr 43 w.heap.size (.slice ae j2 ce) lE de ∧ de.length = j2 ∧ (∀ d ∈ de, isE d ∧ d.len ≤ 80) ∧ WS w wr g go ⟨.slice (some ⟨gn, 0, none⟩) 1 cn, .slice ae j2 ce, .slice ai ds.length ci, .int .i64 y0, .slice ac kc cc⟩ (.slice ai ds.length ci) li ds B (.slice (some ⟨gn, 0, none⟩) 1 cn) [77] ∧ BT wr (.slice ac kc cc) Lc)) (fun i _ _ _ => m3 + 1 - (intOf i).toNat)
        case atStart => exact ⟨0, Nat.zero_le _, rfl, H0.out⟩
        case round =>
          obtain ⟨j2, hj2, rfl, HR2⟩ := hrel
          obtain ⟨ae, ce, lE, de, hX, hdl, hde, hW2, hC2⟩ := HR2.out
          have X2 : Hid (RL wr 43 w.heap.size (.slice ae j2 ce) lE de ∧ de.length = j2 ∧ (∀ d ∈ de, isE d ∧ d.len ≤ 80)) := ⟨hX, hdl, hde⟩
          have V2 : Hid (WS w wr g go ⟨.slice (some ⟨gn, 0, none⟩) 1 cn, .slice ae j2 ce, .slice ai ds.length ci, .int .i64 y0, .slice ac kc cc⟩ (.slice ai ds.length ci) li ds B (.slice (some ⟨gn, 0, none⟩) 1 cn) [77]) := hW2
          have C2 : Hid (BT wr (.slice ac kc cc) Lc) := hC2
          clear hX hdl hde hW2 hC2 HR2
          by_cases hl2 : j2 < m3 + 1
          · have hwc2 : w.heap.size ≤ wr.heap.size := V2.out.go_lt
            have hgr2 : g < wr.heap.size := V2.out.dr.1.lt
            obtain ⟨hK0, hb0⟩ := KL.new wr
            have V3 : Hid (WS w (lay5w wr) g go ⟨.slice (some ⟨gn, 0, none⟩) 1 cn, .slice ae j2 ce, .slice ai ds.length ci, .int .i64 y0, .slice ac kc cc⟩ (.slice ai ds.length ci) li ds B (.slice (some ⟨gn, 0, none⟩) 1 cn) [77]) := V2.out.below hb0
            have kk0 : KeepO [] wr (lay5w wr) := ⟨hb0.os, hb0.tape, hb0.output, hb0.size, fun g h1 _ => hb0.block g h1⟩
            have X3 : Hid (RL (lay5w wr) 43 w.heap.size (.slice ae j2 ce) lE de ∧ de.length = j2 ∧ (∀ d ∈ de, isE d ∧ d.len ≤ 80)) := ⟨X2.out.1.keep kk0 (by intro k hk; simp at hk), X2.out.2⟩
            have C3 : Hid (BT (lay5w wr) (.slice ac kc cc) Lc) := C2.out.keep kk0 (by intro k hk; simp at hk)
            have K3 : Hid (KL (lay5w wr) wr.heap.size) := hK0
            unfold lay5w at V3 X3 C3 K3
            clear hb0 kk0 hK0 V2 X2 C2
            go_wp2_with fail
            generalize ((((wr.alloc (.cells #[.int .i64 0] 3)).alloc (.cells #[.int .i64 0, .int .i64 0] 3)).alloc (.cells #[.int .i64 1] 3)).alloc (.cells #[.int .i64 1, .int .i64 0] 3)).alloc (.cells #[.slice none 0 0, .slice (some ⟨wr.heap.size, 0, none⟩) 1 1, .slice (some ⟨wr.heap.size + 1, 0, none⟩) 2 2, .slice (some ⟨wr.heap.size + 1 + 1, 0, none⟩) 1 1, .slice (some ⟨wr.heap.size + 1 + 1 + 1, 0, none⟩) 2 2] 71) = w3 at *
            generalize wr.heap.size = h0 at *
            refine (belowM g _ w3 V3.out.dr.1 (by omega)).mono ?_
            rintro e wz ⟨x5, rfl, x5a, x5b, _, hd⟩
            replace x5b : x5 < 5 := x5b (by omega)
            obtain ⟨x5, rfl⟩ := Int.eq_ofNat_of_zero_le x5a
            have hx5 : x5 < 5 := by omega
            have V4 : Hid (WS w wz g go ⟨.slice (some ⟨gn, 0, none⟩) 1 cn, .slice ae j2 ce, .slice ai ds.length ci, .int .i64 y0, .slice ac kc cc⟩ (.slice ai ds.length ci) li ds B (.slice (some ⟨gn, 0, none⟩) 1 cn) [77]) := V3.out.drawn hd
            have hfr := V3.out.dr.1.free
            have X4 : Hid (RL wz 43 w.heap.size (.slice ae j2 ce) lE de ∧ de.length = j2 ∧ (∀ d ∈ de, isE d ∧ d.len ≤ 80)) := ⟨X3.out.1.keep hd.keepO (fun k hk => ⟨one_noB hfr.noB hk, fun cur e => (one_free hfr hk cur _ _ e).2.1 rfl⟩), X3.out.2⟩
            have C4 : Hid (BT wz (.slice ac kc cc) Lc) := C3.out.keep hd.keepO (fun k hk => one_noB hfr.noB hk)
            obtain ⟨ak, nk, lk, hkc, hkr, hnk⟩ := (K3.out.drawn hd hgr2).at x5 hx5
            have N4 : Hid (NRow wz ak nk lk) := hkr
            clear hd V3 X3 C3 K3 x5a x5b hkr hfr
            have hwrp : IntKind.u8.wrap (112 + (j2 : Int)) = 112 + (j2 : Int) := by rw [IntKind.wrap_u8]; omega
            go_upto_region 21 with fail
            have bn : Below wz.heap.size wz (wz.alloc (.cells #[.int .u8 (112 + (j2 : Int))] 5)) := (Below.refl _ _).alloc (Nat.le_refl _) _
            have V5 : Hid (WS w (wz.alloc (.cells #[.int .u8 (112 + (j2 : Int))] 5)).drew g go ⟨.slice (some ⟨gn, 0, none⟩) 1 cn, .slice ae j2 ce, .slice ai ds.length ci, .int .i64 y0, .slice ac kc cc⟩ (.slice ai ds.length ci) li ds B (.slice (some ⟨gn, 0, none⟩) 1 cn) [77]) := V4.out.below bn.drew
            have kn : KeepO [] wz (wz.alloc (.cells #[.int .u8 (112 + (j2 : Int))] 5)).drew := ⟨rfl, rfl, rfl, bn.size, fun g h1 _ => bn.block g h1⟩
            have X5 : Hid (RL (wz.alloc (.cells #[.int .u8 (112 + (j2 : Int))] 5)).drew 43 w.heap.size (.slice ae j2 ce) lE de ∧ de.length = j2 ∧ (∀ d ∈ de, isE d ∧ d.len ≤ 80)) := ⟨X4.out.1.keep kn (by intro k hk; simp at hk), X4.out.2⟩
            have C5 : Hid (BT (wz.alloc (.cells #[.int .u8 (112 + (j2 : Int))] 5)).drew (.slice ac kc cc) Lc) := C4.out.keep kn (by intro k hk; simp at hk)
            have kd : KeepO [] (wz.alloc (.cells #[.int .u8 (112 + (j2 : Int))] 5)) (wz.alloc (.cells #[.int .u8 (112 + (j2 : Int))] 5)).drew := ⟨rfl, rfl, rfl, Nat.le_refl _, fun _ _ _ => rfl⟩
            have M5 : Hid (BT (wz.alloc (.cells #[.int .u8 (112 + (j2 : Int))] 5)).drew (.slice (some ⟨wz.heap.size, 0, none⟩) 1 1) [112 + (j2 : Int)]) := (bt_one wz (112 + (j2 : Int)) (by omega) (by omega) (0, 0)).keep kd (by intro k hk; simp at hk)
            have N5 : Hid (NRow (wz.alloc (.cells #[.int .u8 (112 + (j2 : Int))] 5)).drew ak nk lk) := N4.out.below bn.drew
            clear bn kn kd V4 X4 C4 N4
            refine wp_region_held_drew (S := fun _ => True) (by kernel_rfl) trivial (fun hHeld => ?_)
            generalize (wz.alloc (.cells #[.int .u8 (112 + (j2 : Int))] 5)).drew = wn at *
            generalize wz.heap.size = gm at *
            refine wpAnyH_take (i := 0) (oi := ?o518) (v := ?v518) ?i518 (by kernel_rfl) (by kernel_rfl) (by kernel_rfl) ?q518 ?y518 (hHeld) ?r518
            case i518 => exact rfl
            case q518 => exact (fun _ _ _ h => h)
            case y518 =>
              refine Or.inl ⟨by rfl, ?_⟩
              intro w hSw
              (try dsimp only at hSw)
              go_simp
              first | done | rfl
            try simp only [Act.put, List.getElem_toArray, List.getElem_cons_zero, List.getElem_cons_succ, List.setIfInBounds_toArray, List.set_cons_zero, List.set_cons_succ]
            refine wpAnyH_take (i := 2) (oi := ?o519) (v := ?v519) ?i519 (by kernel_rfl) (by kernel_rfl) (by kernel_rfl) ?q519 ?y519 (hHeld) ?r519
            case i519 => exact rfl
            case q519 => exact (fun _ _ _ h => h)
            case y519 =>
              refine Or.inl ⟨by rfl, ?_⟩
              intro w hSw
              (try dsimp only at hSw)
              go_simp
              first | done | rfl
            try simp only [Act.put, List.getElem_toArray, List.getElem_cons_zero, List.getElem_cons_succ, List.setIfInBounds_toArray, List.set_cons_zero, List.set_cons_succ]
            refine wpAnyH_take (i := 3) (oi := ?o520) (v := ?v520) ?i520 (by kernel_rfl) (by kernel_rfl) (by kernel_rfl) ?q520 ?y520 (hHeld) ?r520
            case i520 => exact rfl
            case q520 => exact (fun _ _ _ h => h)
            case y520 =>
              refine Or.inl ⟨by rfl, ?_⟩
              intro w hSw
              (try dsimp only at hSw)
              go_simp
              first | done | rfl
            try simp only [Act.put, List.getElem_toArray, List.getElem_cons_zero, List.getElem_cons_succ, List.setIfInBounds_toArray, List.set_cons_zero, List.set_cons_succ]
            refine wpAnyH_take (i := 4) (oi := ?o521) (v := ?v521) ?i521 (by kernel_rfl) (by kernel_rfl) (by kernel_rfl) ?q521 ?y521 (hHeld) ?r521
            case i521 => exact rfl
            case q521 => exact (fun _ _ _ h => h)
            case y521 =>
              refine Or.inl ⟨by rfl, ?_⟩
              intro w hSw
              (try dsimp only at hSw)
              go_simp
              first | done | rfl
            try simp only [Act.put, List.getElem_toArray, List.getElem_cons_zero, List.getElem_cons_succ, List.setIfInBounds_toArray, List.set_cons_zero, List.set_cons_succ]
            refine wpAnyH_take (i := 6) (oi := ?o522) (v := ?v522) ?i522 (by kernel_rfl) (by kernel_rfl) (by kernel_rfl) ?q522 ?y522 (hHeld) ?r522
            case i522 => exact rfl
            case q522 => exact (fun _ _ _ h => h)
            case y522 =>
              refine Or.inl ⟨by rfl, ?_⟩
              intro w hSw
              (try dsimp only at hSw)
              go_simp
              first | done | rfl
            try simp only [Act.put, List.getElem_toArray, List.getElem_cons_zero, List.getElem_cons_succ, List.setIfInBounds_toArray, List.set_cons_zero, List.set_cons_succ]
            refine wpAnyH_take (i := 7) (oi := ?o523) (v := ?v523) ?i523 (by kernel_rfl) (by kernel_rfl) (by kernel_rfl) ?q523 ?y523 (hHeld) ?r523
            case i523 => exact rfl
            case q523 => exact (fun _ _ _ h => h)
            case y523 =>
              refine Or.inl ⟨by rfl, ?_⟩
              intro w hSw
              (try dsimp only at hSw)
              go_simp
              first | done | rfl
            try simp only [Act.put, List.getElem_toArray, List.getElem_cons_zero, List.getElem_cons_succ, List.setIfInBounds_toArray, List.set_cons_zero, List.set_cons_succ]
            have k1 : wn.cell? ⟨go, 1, none⟩ = some (.slice ae j2 ce) := V5.out.obj.facts.2.1
            refine wpAnyH_ready (rs := [1, 5]) (by kernel_rfl) (by simp) ?_
            refine AllReadyH.cons (i := 1) (o := ?oK1) ?iK1 ?gK1 (AllReadyH.cons (i := 5) (o := ?oK2) ?iK2 ?gK2 AllReadyH.nil)
            case iK1 => exact rfl
            case iK2 => exact rfl
            case gK1 =>
              intro K hK
              go_simp
              clear k1
              refine hK.out _ _ trivial (fun hHeld => ?_)
              clear hK K
              try simp only [Act.put, List.getElem_toArray, List.getElem_cons_zero, List.getElem_cons_succ, List.setIfInBounds_toArray, List.set_cons_zero, List.set_cons_succ]
              refine wpAnyH_ready (rs := [5]) (by kernel_rfl) (by simp) ?_
              refine AllReadyH.cons (i := 5) (o := ?oK3) ?iK3 ?gK3 AllReadyH.nil
              case iK3 => exact rfl
              case gK3 =>
                intro K hK
                go_simp
                (with_reducible refine (specFinger (some ⟨gm, 0, none⟩) 1 1 [112 + (j2 : Int)] ak nk nk lk wn (BT.row M5.out) (by intro e; cases e) N5.out (by omega) (by omega)).mono ?_)
                rintro e wA ⟨rfl, hbA⟩
                generalize sumTo ([112 + (j2 : Int)] ++ kindsB lk) (1 + nk) = pr at *
                have V6 : Hid (WS w wA g go ⟨.slice (some ⟨gn, 0, none⟩) 1 cn, .slice ae j2 ce, .slice ai ds.length ci, .int .i64 y0, .slice ac kc cc⟩ (.slice ai ds.length ci) li ds B (.slice (some ⟨gn, 0, none⟩) 1 cn) [77]) := V5.out.below hbA
                have kA : KeepO [] wn wA := ⟨hbA.os, hbA.tape, hbA.output, hbA.size, fun g h1 _ => hbA.block g h1⟩
                have X6 : Hid (RL wA 43 w.heap.size (.slice ae j2 ce) lE de ∧ de.length = j2 ∧ (∀ d ∈ de, isE d ∧ d.len ≤ 80)) := ⟨X5.out.1.keep kA (by intro k hk; simp at hk), X5.out.2⟩
                have C6 : Hid (BT wA (.slice ac kc cc) Lc) := C5.out.keep kA (by intro k hk; simp at hk)
                have M6 : Hid (BT wA (.slice (some ⟨gm, 0, none⟩) 1 1) [112 + (j2 : Int)]) := M5.out.keep kA (by intro k hk; simp at hk)
                have HcA : Hid (Cur wA g) := V6.out.dr.1
                clear hbA kA V5 X5 C5 M5 N5
                go_wp2_with fail
                refine hK.out _ _ trivial (fun hHeld => ?_)
                clear hK K
                try simp only [Act.put, List.getElem_toArray, List.getElem_cons_zero, List.getElem_cons_succ, List.setIfInBounds_toArray, List.set_cons_zero, List.set_cons_succ]
                refine wpAnyH_ready (rs := [8]) (by kernel_rfl) (by simp) ?_
                refine AllReadyH.cons (i := 8) (o := ?oK4) ?iK4 ?gK4 AllReadyH.nil
                case iK4 => exact rfl
                case gK4 =>
                  intro K hK
                  go_simp
                  (with_reducible refine (belowM g _ wA HcA.out (by omega)).mono ?_)
                  rintro e wB ⟨y9, rfl, y9a, y9b, _, hd⟩
                  have V7 : Hid (WS w wB g go ⟨.slice (some ⟨gn, 0, none⟩) 1 cn, .slice ae j2 ce, .slice ai ds.length ci, .int .i64 y0, .slice ac kc cc⟩ (.slice ai ds.length ci) li ds B (.slice (some ⟨gn, 0, none⟩) 1 cn) [77]) := V6.out.drawn hd
                  have hfr := V6.out.dr.1.free
                  have X7 : Hid (RL wB 43 w.heap.size (.slice ae j2 ce) lE de ∧ de.length = j2 ∧ (∀ d ∈ de, isE d ∧ d.len ≤ 80)) := ⟨X6.out.1.keep hd.keepO (fun k hk => ⟨one_noB hfr.noB hk, fun cur e => (one_free hfr hk cur _ _ e).2.1 rfl⟩), X6.out.2⟩
                  have C7 : Hid (BT wB (.slice ac kc cc) Lc) := C6.out.keep hd.keepO (fun k hk => one_noB hfr.noB hk)
                  have M7 : Hid (BT wB (.slice (some ⟨gm, 0, none⟩) 1 1) [112 + (j2 : Int)]) := M6.out.keep hd.keepO (fun k hk => one_noB hfr.noB hk)
                  clear hd V6 X6 C6 M6 y9a y9b hfr
                  go_wp2_with fail
                  refine hK.out _ _ trivial (fun hHeld => ?_)
                  clear hK K
                  try simp only [Act.put, List.getElem_toArray, List.getElem_cons_zero, List.getElem_cons_succ, List.setIfInBounds_toArray, List.set_cons_zero, List.set_cons_succ]
                  refine wpAnyH_take (i := 9) (oi := ?o524) (v := ?v524) ?i524 (by kernel_rfl) (by kernel_rfl) (by kernel_rfl) ?q524 ?y524 (hHeld) ?r524
                  case i524 => exact rfl
                  case q524 => exact (fun _ _ _ h => h)
                  case y524 =>
                    refine Or.inl ⟨by rfl, ?_⟩
                    intro w hSw
                    (try dsimp only at hSw)
                    go_simp
                    first | done | rfl
                  try simp only [Act.put, List.getElem_toArray, List.getElem_cons_zero, List.getElem_cons_succ, List.setIfInBounds_toArray, List.set_cons_zero, List.set_cons_succ]
                  refine wpAnyH_ready (rs := [10]) (by kernel_rfl) (by simp) ?_
                  refine AllReadyH.cons (i := 10) (o := ?oK5) ?iK5 ?gK5 AllReadyH.nil
                  case iK5 => exact rfl
                  case gK5 =>
                    intro K hK
                    go_simp
                    have bR : Below wB.heap.size wB (wB.alloc (.cells #[.slice (some ⟨gm, 0, none⟩) 1 1, .int .i64 pr, .int .i64 y9] 43 (0, 0))) := (Below.refl _ _).alloc (Nat.le_refl _) _
                    have kR : KeepO [] wB (wB.alloc (.cells #[.slice (some ⟨gm, 0, none⟩) 1 1, .int .i64 pr, .int .i64 y9] 43 (0, 0))) := keep_alloc _ _
                    have V8 : Hid (WS w (wB.alloc (.cells #[.slice (some ⟨gm, 0, none⟩) 1 1, .int .i64 pr, .int .i64 y9] 43 (0, 0))) g go ⟨.slice (some ⟨gn, 0, none⟩) 1 cn, .slice ae j2 ce, .slice ai ds.length ci, .int .i64 y0, .slice ac kc cc⟩ (.slice ai ds.length ci) li ds B (.slice (some ⟨gn, 0, none⟩) 1 cn) [77]) := V7.out.below bR
                    have X8 : Hid (RL (wB.alloc (.cells #[.slice (some ⟨gm, 0, none⟩) 1 1, .int .i64 pr, .int .i64 y9] 43 (0, 0))) 43 w.heap.size (.slice ae j2 ce) lE de ∧ de.length = j2 ∧ (∀ d ∈ de, isE d ∧ d.len ≤ 80)) := ⟨X7.out.1.keep kR (by intro k hk; simp at hk), X7.out.2⟩
                    have C8 : Hid (BT (wB.alloc (.cells #[.slice (some ⟨gm, 0, none⟩) 1 1, .int .i64 pr, .int .i64 y9] 43 (0, 0))) (.slice ac kc cc) Lc) := C7.out.keep kR (by intro k hk; simp at hk)
                    have RR : Hid (RT (wB.alloc (.cells #[.slice (some ⟨gm, 0, none⟩) 1 1, .int .i64 pr, .int .i64 y9] 43 (0, 0))) ⟨.slice (some ⟨gm, 0, none⟩) 1 1, .int .i64 pr, .int .i64 y9⟩ ⟨.b [112 + (j2 : Int)], .n pr, .n y9⟩) := ⟨M7.out.keep kR (by intro k hk; simp at hk), rfl, rfl⟩
                    have B8 : Hid (B3 (wB.alloc (.cells #[.slice (some ⟨gm, 0, none⟩) 1 1, .int .i64 pr, .int .i64 y9] 43 (0, 0))) wB.heap.size 43 (.slice (some ⟨gm, 0, none⟩) 1 1) (.int .i64 pr) (.int .i64 y9)) := B3.new _ _ _ _ _
                    have hwR : w.heap.size ≤ (wB.alloc (.cells #[.slice (some ⟨gm, 0, none⟩) 1 1, .int .i64 pr, .int .i64 y9] 43 (0, 0))).heap.size := V8.out.go_lt
                    clear bR kR V7 X7 C7 M7
                    generalize wB.alloc (.cells #[.slice (some ⟨gm, 0, none⟩) 1 1, .int .i64 pr, .int .i64 y9] 43 (0, 0)) = wR at *
                    generalize wB.heap.size = gR at *
                    refine hK.out _ _ trivial (fun hHeld => ?_)
                    clear hK K
                    try simp only [Act.put, List.getElem_toArray, List.getElem_cons_zero, List.getElem_cons_succ, List.setIfInBounds_toArray, List.set_cons_zero, List.set_cons_succ]
                    refine wpAnyH_ready (rs := [11]) (by kernel_rfl) (by simp) ?_
                    refine AllReadyH.cons (i := 11) (o := ?oA) ?iA (fun K hK => ?_) AllReadyH.nil
                    case iA => exact rfl
                    rw [if_pos (by kernel_rfl)]
                    refine wp_appendE _ _ rfl w.heap.size (.slice ae j2 ce) j2 lE rfl (by have := X8.out.1.row; rw [X8.out.2.1] at this; exact this) gR ⟨.slice (some ⟨gm, 0, none⟩) 1 1, .int .i64 pr, .int .i64 y9⟩ rfl B8.out RR.out.one (by omega) hwR ?_
                    intro v9 w9 ho hg9
                    have X9' := X8.out.1.push (by decide) RR.out (by rw [X8.out.2.1]; exact ho) hg9
                    obtain ⟨a9, c9, e9, _⟩ := X9'.shape
                    have e9' : v9 = .slice a9 (j2 + 1) c9 := by rw [e9]; simp [X8.out.2.1]
                    subst e9'
                    have rw8 := fun (k : Nat) (hk : (Value.slice ae j2 ce).ownBlock = some k) => ownsRow_type X8.out.1.row hk
                    have V9 : Hid (WS w w9 g go ⟨.slice (some ⟨gn, 0, none⟩) 1 cn, .slice ae j2 ce, .slice ai ds.length ci, .int .i64 y0, .slice ac kc cc⟩ (.slice ai ds.length ci) li ds B (.slice (some ⟨gn, 0, none⟩) 1 cn) [77]) := V8.out.grown hg9 (fun k hk => by obtain ⟨cur, hb⟩ := rw8 k hk; exact ⟨(X8.out.1.row.lt k hk).1, cur, _, hb, by decide, by decide, by decide⟩)
                    have C9 : Hid (BT w9 (.slice ac kc cc) Lc) := C8.out.keep (os := [(Value.slice ae j2 ce).ownBlock]) (KeepO.of hg9 (by simp)) (fun k hk => by
                      have e : (Value.slice ae j2 ce).ownBlock = some k := (by have h0 : some k = (Value.slice ae j2 ce).ownBlock := (by simpa using hk); exact h0.symm)
                      obtain ⟨cur, hb⟩ := rw8 k e
                      exact noB_of hb (by decide))
                    have X9 : Hid (RL w9 43 w.heap.size (.slice a9 (j2 + 1) c9) (lE ++ [⟨.slice (some ⟨gm, 0, none⟩) 1 1, .int .i64 pr, .int .i64 y9⟩]) (de ++ [⟨.b [112 + (j2 : Int)], .n pr, .n y9⟩])) := X9'
                    have HDE : Hid ((de ++ [(⟨.b [112 + (j2 : Int)], .n pr, .n y9⟩ : D3)]).length = j2 + 1 ∧ ∀ d ∈ de ++ [(⟨.b [112 + (j2 : Int)], .n pr, .n y9⟩ : D3)], isE d ∧ d.len ≤ 80) := by
                      refine ⟨by simp [X8.out.2.1], fun d hd => ?_⟩
                      rcases List.mem_append.1 hd with hm | hm
                      · exact X8.out.2.2 d hm
                      · simp at hm; rw [hm]; exact ⟨⟨_, _, _, rfl⟩, by simp [D3.len, Fd.len]⟩
                    clear ho hg9 X9' e9 rw8 V8 X8 C8 RR B8
                    refine hK.out _ _ trivial (fun hHeld => ?_)
                    clear hK K
                    try simp only [Act.put, List.getElem_toArray, List.getElem_cons_zero, List.getElem_cons_succ, List.setIfInBounds_toArray, List.set_cons_zero, List.set_cons_succ]
                    refine wpAnyH_take (i := 12) (oi := ?o525) (v := ?v525) ?i525 (by kernel_rfl) (by kernel_rfl) (by kernel_rfl) ?q525 ?y525 (hHeld) ?r525
                    case i525 => exact rfl
                    case q525 => exact (fun _ _ _ h => h)
                    case y525 =>
                      refine Or.inl ⟨by rfl, ?_⟩
                      intro w hSw
                      (try dsimp only at hSw)
                      go_simp
                      first | done | rfl
                    try simp only [Act.put, List.getElem_toArray, List.getElem_cons_zero, List.getElem_cons_succ, List.setIfInBounds_toArray, List.set_cons_zero, List.set_cons_succ]
                    obtain ⟨_, _, _, _, _⟩ := V9.out.obj.facts
                    obtain ⟨f0, f1, f2, f3, f4⟩ := V9.out.obj.frozen
                    have HF : Hid (∃ ae ce lE de, RL (w9.setCell ⟨go, 1, none⟩ (.slice a9 (j2 + 1) c9)) 43 w.heap.size (.slice ae (j2 + 1) ce) lE de ∧ de.length = (j2 + 1) ∧ (∀ d ∈ de, isE d ∧ d.len ≤ 80) ∧ WS w (w9.setCell ⟨go, 1, none⟩ (.slice a9 (j2 + 1) c9)) g go ⟨.slice (some ⟨gn, 0, none⟩) 1 cn, .slice ae (j2 + 1) ce, .slice ai ds.length ci, .int .i64 y0, .slice ac kc cc⟩ (.slice ai ds.length ci) li ds B (.slice (some ⟨gn, 0, none⟩) 1 cn) [77] ∧ BT (w9.setCell ⟨go, 1, none⟩ (.slice a9 (j2 + 1) c9)) (.slice ac kc cc) Lc) := ⟨_, _, _, _, X9.out.keep (keep_set _ _ _ _) (fun k hk => ⟨one_noB (noB_of V9.out.obj (by decide)) hk, fun cur e => (one_free (free_of V9.out.obj (by decide) (by decide) (by decide)) hk cur _ _ e).2.1 rfl⟩), HDE.out.1, HDE.out.2, V9.out.set (V9.out.obj.set1 _), C9.out.keep (keep_set _ _ _ _) (fun k hk => one_noB (noB_of V9.out.obj (by decide)) hk)⟩
                    refine wpAnyH_ready (rs := [13]) (by kernel_rfl) (by simp) ?_
                    refine AllReadyH.cons (i := 13) (o := ?o526) ?i526 (fun K hK => ?_) AllReadyH.nil
                    case i526 => exact rfl
                    go_simp
                    clear f0 f1 f2 f3 f4 V9 C9 X9 HDE
                    generalize w9.setCell ⟨go, 1, none⟩ (.slice a9 (j2 + 1) c9) = wZ at *
                    refine hK.out _ _ trivial (fun hHeld => ?_)
                    clear hK K
                    try simp only [Act.put, List.getElem_toArray, List.getElem_cons_zero, List.getElem_cons_succ, List.setIfInBounds_toArray, List.set_cons_zero, List.set_cons_succ]
                    refine wpAnyH_done (by kernel_rfl) ?_ _
                    go_wp2_with fail
                    go_roundw
                    case rel => exact ⟨j2 + 1, by omega, by go_num, HF⟩
                    case measure => simp [intOf]; omega
            case gK2 =>
              intro K hK
              clear k1
              go_simp
              (with_reducible refine (specFinger (some ⟨gm, 0, none⟩) 1 1 [112 + (j2 : Int)] ak nk nk lk wn (BT.row M5.out) (by intro e; cases e) N5.out (by omega) (by omega)).mono ?_)
              rintro e wA ⟨rfl, hbA⟩
              generalize sumTo ([112 + (j2 : Int)] ++ kindsB lk) (1 + nk) = pr at *
              have V6 : Hid (WS w wA g go ⟨.slice (some ⟨gn, 0, none⟩) 1 cn, .slice ae j2 ce, .slice ai ds.length ci, .int .i64 y0, .slice ac kc cc⟩ (.slice ai ds.length ci) li ds B (.slice (some ⟨gn, 0, none⟩) 1 cn) [77]) := V5.out.below hbA
              have kA : KeepO [] wn wA := ⟨hbA.os, hbA.tape, hbA.output, hbA.size, fun g h1 _ => hbA.block g h1⟩
              have X6 : Hid (RL wA 43 w.heap.size (.slice ae j2 ce) lE de ∧ de.length = j2 ∧ (∀ d ∈ de, isE d ∧ d.len ≤ 80)) := ⟨X5.out.1.keep kA (by intro k hk; simp at hk), X5.out.2⟩
              have C6 : Hid (BT wA (.slice ac kc cc) Lc) := C5.out.keep kA (by intro k hk; simp at hk)
              have M6 : Hid (BT wA (.slice (some ⟨gm, 0, none⟩) 1 1) [112 + (j2 : Int)]) := M5.out.keep kA (by intro k hk; simp at hk)
              have HcA : Hid (Cur wA g) := V6.out.dr.1
              clear hbA kA V5 X5 C5 M5 N5
              go_wp2_with fail
              refine hK.out _ _ trivial (fun hHeld => ?_)
              clear hK K
              try simp only [Act.put, List.getElem_toArray, List.getElem_cons_zero, List.getElem_cons_succ, List.setIfInBounds_toArray, List.set_cons_zero, List.set_cons_succ]
              have k1 : wA.cell? ⟨go, 1, none⟩ = some (.slice ae j2 ce) := V6.out.obj.facts.2.1
              refine wpAnyH_ready (rs := [1, 8]) (by kernel_rfl) (by simp) ?_
              refine AllReadyH.cons (i := 1) (o := ?oK6) ?iK6 ?gK6 (AllReadyH.cons (i := 8) (o := ?oK7) ?iK7 ?gK7 AllReadyH.nil)
              case iK6 => exact rfl
              case iK7 => exact rfl
              case gK6 =>
                intro K hK
                go_simp
                clear k1
                refine hK.out _ _ trivial (fun hHeld => ?_)
                clear hK K
                try simp only [Act.put, List.getElem_toArray, List.getElem_cons_zero, List.getElem_cons_succ, List.setIfInBounds_toArray, List.set_cons_zero, List.set_cons_succ]
                refine wpAnyH_ready (rs := [8]) (by kernel_rfl) (by simp) ?_
                refine AllReadyH.cons (i := 8) (o := ?oK8) ?iK8 ?gK8 AllReadyH.nil
                case iK8 => exact rfl
                case gK8 =>
                  intro K hK
                  go_simp
                  (with_reducible refine (belowM g _ wA HcA.out (by omega)).mono ?_)
                  rintro e wB ⟨y9, rfl, y9a, y9b, _, hd⟩
                  have V7 : Hid (WS w wB g go ⟨.slice (some ⟨gn, 0, none⟩) 1 cn, .slice ae j2 ce, .slice ai ds.length ci, .int .i64 y0, .slice ac kc cc⟩ (.slice ai ds.length ci) li ds B (.slice (some ⟨gn, 0, none⟩) 1 cn) [77]) := V6.out.drawn hd
                  have hfr := V6.out.dr.1.free
                  have X7 : Hid (RL wB 43 w.heap.size (.slice ae j2 ce) lE de ∧ de.length = j2 ∧ (∀ d ∈ de, isE d ∧ d.len ≤ 80)) := ⟨X6.out.1.keep hd.keepO (fun k hk => ⟨one_noB hfr.noB hk, fun cur e => (one_free hfr hk cur _ _ e).2.1 rfl⟩), X6.out.2⟩
                  have C7 : Hid (BT wB (.slice ac kc cc) Lc) := C6.out.keep hd.keepO (fun k hk => one_noB hfr.noB hk)
                  have M7 : Hid (BT wB (.slice (some ⟨gm, 0, none⟩) 1 1) [112 + (j2 : Int)]) := M6.out.keep hd.keepO (fun k hk => one_noB hfr.noB hk)
                  clear hd V6 X6 C6 M6 y9a y9b hfr
                  go_wp2_with fail
                  refine hK.out _ _ trivial (fun hHeld => ?_)
                  clear hK K
                  try simp only [Act.put, List.getElem_toArray, List.getElem_cons_zero, List.getElem_cons_succ, List.setIfInBounds_toArray, List.set_cons_zero, List.set_cons_succ]
                  refine wpAnyH_take (i := 9) (oi := ?o527) (v := ?v527) ?i527 (by kernel_rfl) (by kernel_rfl) (by kernel_rfl) ?q527 ?y527 (hHeld) ?r527
                  case i527 => exact rfl
                  case q527 => exact (fun _ _ _ h => h)
                  case y527 =>
                    refine Or.inl ⟨by rfl, ?_⟩
                    intro w hSw
                    (try dsimp only at hSw)
                    go_simp
                    first | done | rfl
                  try simp only [Act.put, List.getElem_toArray, List.getElem_cons_zero, List.getElem_cons_succ, List.setIfInBounds_toArray, List.set_cons_zero, List.set_cons_succ]
                  refine wpAnyH_ready (rs := [10]) (by kernel_rfl) (by simp) ?_
                  refine AllReadyH.cons (i := 10) (o := ?oK9) ?iK9 ?gK9 AllReadyH.nil
                  case iK9 => exact rfl
                  case gK9 =>
                    intro K hK
                    go_simp
                    have bR : Below wB.heap.size wB (wB.alloc (.cells #[.slice (some ⟨gm, 0, none⟩) 1 1, .int .i64 pr, .int .i64 y9] 43 (0, 0))) := (Below.refl _ _).alloc (Nat.le_refl _) _
                    have kR : KeepO [] wB (wB.alloc (.cells #[.slice (some ⟨gm, 0, none⟩) 1 1, .int .i64 pr, .int .i64 y9] 43 (0, 0))) := keep_alloc _ _
                    have V8 : Hid (WS w (wB.alloc (.cells #[.slice (some ⟨gm, 0, none⟩) 1 1, .int .i64 pr, .int .i64 y9] 43 (0, 0))) g go ⟨.slice (some ⟨gn, 0, none⟩) 1 cn, .slice ae j2 ce, .slice ai ds.length ci, .int .i64 y0, .slice ac kc cc⟩ (.slice ai ds.length ci) li ds B (.slice (some ⟨gn, 0, none⟩) 1 cn) [77]) := V7.out.below bR
                    have X8 : Hid (RL (wB.alloc (.cells #[.slice (some ⟨gm, 0, none⟩) 1 1, .int .i64 pr, .int .i64 y9] 43 (0, 0))) 43 w.heap.size (.slice ae j2 ce) lE de ∧ de.length = j2 ∧ (∀ d ∈ de, isE d ∧ d.len ≤ 80)) := ⟨X7.out.1.keep kR (by intro k hk; simp at hk), X7.out.2⟩
                    have C8 : Hid (BT (wB.alloc (.cells #[.slice (some ⟨gm, 0, none⟩) 1 1, .int .i64 pr, .int .i64 y9] 43 (0, 0))) (.slice ac kc cc) Lc) := C7.out.keep kR (by intro k hk; simp at hk)
                    have RR : Hid (RT (wB.alloc (.cells #[.slice (some ⟨gm, 0, none⟩) 1 1, .int .i64 pr, .int .i64 y9] 43 (0, 0))) ⟨.slice (some ⟨gm, 0, none⟩) 1 1, .int .i64 pr, .int .i64 y9⟩ ⟨.b [112 + (j2 : Int)], .n pr, .n y9⟩) := ⟨M7.out.keep kR (by intro k hk; simp at hk), rfl, rfl⟩
                    have B8 : Hid (B3 (wB.alloc (.cells #[.slice (some ⟨gm, 0, none⟩) 1 1, .int .i64 pr, .int .i64 y9] 43 (0, 0))) wB.heap.size 43 (.slice (some ⟨gm, 0, none⟩) 1 1) (.int .i64 pr) (.int .i64 y9)) := B3.new _ _ _ _ _
                    have hwR : w.heap.size ≤ (wB.alloc (.cells #[.slice (some ⟨gm, 0, none⟩) 1 1, .int .i64 pr, .int .i64 y9] 43 (0, 0))).heap.size := V8.out.go_lt
                    clear bR kR V7 X7 C7 M7
                    generalize wB.alloc (.cells #[.slice (some ⟨gm, 0, none⟩) 1 1, .int .i64 pr, .int .i64 y9] 43 (0, 0)) = wR at *
                    generalize wB.heap.size = gR at *
                    refine hK.out _ _ trivial (fun hHeld => ?_)
                    clear hK K
                    try simp only [Act.put, List.getElem_toArray, List.getElem_cons_zero, List.getElem_cons_succ, List.setIfInBounds_toArray, List.set_cons_zero, List.set_cons_succ]
                    refine wpAnyH_ready (rs := [11]) (by kernel_rfl) (by simp) ?_
                    refine AllReadyH.cons (i := 11) (o := ?oA) ?iA (fun K hK => ?_) AllReadyH.nil
                    case iA => exact rfl
                    rw [if_pos (by kernel_rfl)]
                    refine wp_appendE _ _ rfl w.heap.size (.slice ae j2 ce) j2 lE rfl (by have := X8.out.1.row; rw [X8.out.2.1] at this; exact this) gR ⟨.slice (some ⟨gm, 0, none⟩) 1 1, .int .i64 pr, .int .i64 y9⟩ rfl B8.out RR.out.one (by omega) hwR ?_
                    intro v9 w9 ho hg9
                    have X9' := X8.out.1.push (by decide) RR.out (by rw [X8.out.2.1]; exact ho) hg9
                    obtain ⟨a9, c9, e9, _⟩ := X9'.shape
                    have e9' : v9 = .slice a9 (j2 + 1) c9 := by rw [e9]; simp [X8.out.2.1]
                    subst e9'
                    have rw8 := fun (k : Nat) (hk : (Value.slice ae j2 ce).ownBlock = some k) => ownsRow_type X8.out.1.row hk
                    have V9 : Hid (WS w w9 g go ⟨.slice (some ⟨gn, 0, none⟩) 1 cn, .slice ae j2 ce, .slice ai ds.length ci, .int .i64 y0, .slice ac kc cc⟩ (.slice ai ds.length ci) li ds B (.slice (some ⟨gn, 0, none⟩) 1 cn) [77]) := V8.out.grown hg9 (fun k hk => by obtain ⟨cur, hb⟩ := rw8 k hk; exact ⟨(X8.out.1.row.lt k hk).1, cur, _, hb, by decide, by decide, by decide⟩)
                    have C9 : Hid (BT w9 (.slice ac kc cc) Lc) := C8.out.keep (os := [(Value.slice ae j2 ce).ownBlock]) (KeepO.of hg9 (by simp)) (fun k hk => by
                      have e : (Value.slice ae j2 ce).ownBlock = some k := (by have h0 : some k = (Value.slice ae j2 ce).ownBlock := (by simpa using hk); exact h0.symm)
                      obtain ⟨cur, hb⟩ := rw8 k e
                      exact noB_of hb (by decide))
                    have X9 : Hid (RL w9 43 w.heap.size (.slice a9 (j2 + 1) c9) (lE ++ [⟨.slice (some ⟨gm, 0, none⟩) 1 1, .int .i64 pr, .int .i64 y9⟩]) (de ++ [⟨.b [112 + (j2 : Int)], .n pr, .n y9⟩])) := X9'
                    have HDE : Hid ((de ++ [(⟨.b [112 + (j2 : Int)], .n pr, .n y9⟩ : D3)]).length = j2 + 1 ∧ ∀ d ∈ de ++ [(⟨.b [112 + (j2 : Int)], .n pr, .n y9⟩ : D3)], isE d ∧ d.len ≤ 80) := by
                      refine ⟨by simp [X8.out.2.1], fun d hd => ?_⟩
                      rcases List.mem_append.1 hd with hm | hm
                      · exact X8.out.2.2 d hm
                      · simp at hm; rw [hm]; exact ⟨⟨_, _, _, rfl⟩, by simp [D3.len, Fd.len]⟩
                    clear ho hg9 X9' e9 rw8 V8 X8 C8 RR B8
                    refine hK.out _ _ trivial (fun hHeld => ?_)
                    clear hK K
                    try simp only [Act.put, List.getElem_toArray, List.getElem_cons_zero, List.getElem_cons_succ, List.setIfInBounds_toArray, List.set_cons_zero, List.set_cons_succ]
                    refine wpAnyH_take (i := 12) (oi := ?o528) (v := ?v528) ?i528 (by kernel_rfl) (by kernel_rfl) (by kernel_rfl) ?q528 ?y528 (hHeld) ?r528
                    case i528 => exact rfl
                    case q528 => exact (fun _ _ _ h => h)
                    case y528 =>
                      refine Or.inl ⟨by rfl, ?_⟩
                      intro w hSw
                      (try dsimp only at hSw)
                      go_simp
                      first | done | rfl
                    try simp only [Act.put, List.getElem_toArray, List.getElem_cons_zero, List.getElem_cons_succ, List.setIfInBounds_toArray, List.set_cons_zero, List.set_cons_succ]
                    obtain ⟨_, _, _, _, _⟩ := V9.out.obj.facts
                    obtain ⟨f0, f1, f2, f3, f4⟩ := V9.out.obj.frozen
                    have HF : Hid (∃ ae ce lE de, RL (w9.setCell ⟨go, 1, none⟩ (.slice a9 (j2 + 1) c9)) 43 w.heap.size (.slice ae (j2 + 1) ce) lE de ∧ de.length = (j2 + 1) ∧ (∀ d ∈ de, isE d ∧ d.len ≤ 80) ∧ WS w (w9.setCell ⟨go, 1, none⟩ (.slice a9 (j2 + 1) c9)) g go ⟨.slice (some ⟨gn, 0, none⟩) 1 cn, .slice ae (j2 + 1) ce, .slice ai ds.length ci, .int .i64 y0, .slice ac kc cc⟩ (.slice ai ds.length ci) li ds B (.slice (some ⟨gn, 0, none⟩) 1 cn) [77] ∧ BT (w9.setCell ⟨go, 1, none⟩ (.slice a9 (j2 + 1) c9)) (.slice ac kc cc) Lc) := ⟨_, _, _, _, X9.out.keep (keep_set _ _ _ _) (fun k hk => ⟨one_noB (noB_of V9.out.obj (by decide)) hk, fun cur e => (one_free (free_of V9.out.obj (by decide) (by decide) (by decide)) hk cur _ _ e).2.1 rfl⟩), HDE.out.1, HDE.out.2, V9.out.set (V9.out.obj.set1 _), C9.out.keep (keep_set _ _ _ _) (fun k hk => one_noB (noB_of V9.out.obj (by decide)) hk)⟩
                    refine wpAnyH_ready (rs := [13]) (by kernel_rfl) (by simp) ?_
                    refine AllReadyH.cons (i := 13) (o := ?o529) ?i529 (fun K hK => ?_) AllReadyH.nil
                    case i529 => exact rfl
                    go_simp
                    clear f0 f1 f2 f3 f4 V9 C9 X9 HDE
                    generalize w9.setCell ⟨go, 1, none⟩ (.slice a9 (j2 + 1) c9) = wZ at *
                    refine hK.out _ _ trivial (fun hHeld => ?_)
                    clear hK K
                    try simp only [Act.put, List.getElem_toArray, List.getElem_cons_zero, List.getElem_cons_succ, List.setIfInBounds_toArray, List.set_cons_zero, List.set_cons_succ]
                    refine wpAnyH_done (by kernel_rfl) ?_ _
                    go_wp2_with fail
                    go_roundw
                    case rel => exact ⟨j2 + 1, by omega, by go_num, HF⟩
                    case measure => simp [intOf]; omega
              case gK7 =>
                intro K hK
                clear k1
                go_simp
                (with_reducible refine (belowM g _ wA HcA.out (by omega)).mono ?_)
                rintro e wB ⟨y9, rfl, y9a, y9b, _, hd⟩
                have V7 : Hid (WS w wB g go ⟨.slice (some ⟨gn, 0, none⟩) 1 cn, .slice ae j2 ce, .slice ai ds.length ci, .int .i64 y0, .slice ac kc cc⟩ (.slice ai ds.length ci) li ds B (.slice (some ⟨gn, 0, none⟩) 1 cn) [77]) := V6.out.drawn hd
                have hfr := V6.out.dr.1.free
                have X7 : Hid (RL wB 43 w.heap.size (.slice ae j2 ce) lE de ∧ de.length = j2 ∧ (∀ d ∈ de, isE d ∧ d.len ≤ 80)) := ⟨X6.out.1.keep hd.keepO (fun k hk => ⟨one_noB hfr.noB hk, fun cur e => (one_free hfr hk cur _ _ e).2.1 rfl⟩), X6.out.2⟩
                have C7 : Hid (BT wB (.slice ac kc cc) Lc) := C6.out.keep hd.keepO (fun k hk => one_noB hfr.noB hk)
                have M7 : Hid (BT wB (.slice (some ⟨gm, 0, none⟩) 1 1) [112 + (j2 : Int)]) := M6.out.keep hd.keepO (fun k hk => one_noB hfr.noB hk)
                clear hd V6 X6 C6 M6 y9a y9b hfr
                go_wp2_with fail
                refine hK.out _ _ trivial (fun hHeld => ?_)
                clear hK K
                try simp only [Act.put, List.getElem_toArray, List.getElem_cons_zero, List.getElem_cons_succ, List.setIfInBounds_toArray, List.set_cons_zero, List.set_cons_succ]
                refine wpAnyH_take (i := 9) (oi := ?o530) (v := ?v530) ?i530 (by kernel_rfl) (by kernel_rfl) (by kernel_rfl) ?q530 ?y530 (hHeld) ?r530
                case i530 => exact rfl
                case q530 => exact (fun _ _ _ h => h)
                case y530 =>
                  refine Or.inl ⟨by rfl, ?_⟩
                  intro w hSw
                  (try dsimp only at hSw)
                  go_simp
                  first | done | rfl
                try simp only [Act.put, List.getElem_toArray, List.getElem_cons_zero, List.getElem_cons_succ, List.setIfInBounds_toArray, List.set_cons_zero, List.set_cons_succ]
                have k1 : wB.cell? ⟨go, 1, none⟩ = some (.slice ae j2 ce) := V7.out.obj.facts.2.1
                refine wpAnyH_ready (rs := [1, 10]) (by kernel_rfl) (by simp) ?_
                refine AllReadyH.cons (i := 1) (o := ?oK10) ?iK10 ?gK10 (AllReadyH.cons (i := 10) (o := ?oK11) ?iK11 ?gK11 AllReadyH.nil)
                case iK10 => exact rfl
                case iK11 => exact rfl
                case gK10 =>
                  intro K hK
                  go_simp
                  clear k1
                  refine hK.out _ _ trivial (fun hHeld => ?_)
                  clear hK K
                  try simp only [Act.put, List.getElem_toArray, List.getElem_cons_zero, List.getElem_cons_succ, List.setIfInBounds_toArray, List.set_cons_zero, List.set_cons_succ]
                  refine wpAnyH_ready (rs := [10]) (by kernel_rfl) (by simp) ?_
                  refine AllReadyH.cons (i := 10) (o := ?oK12) ?iK12 ?gK12 AllReadyH.nil
                  case iK12 => exact rfl
                  case gK12 =>
                    intro K hK
                    go_simp
                    have bR : Below wB.heap.size wB (wB.alloc (.cells #[.slice (some ⟨gm, 0, none⟩) 1 1, .int .i64 pr, .int .i64 y9] 43 (0, 0))) := (Below.refl _ _).alloc (Nat.le_refl _) _
                    have kR : KeepO [] wB (wB.alloc (.cells #[.slice (some ⟨gm, 0, none⟩) 1 1, .int .i64 pr, .int .i64 y9] 43 (0, 0))) := keep_alloc _ _
                    have V8 : Hid (WS w (wB.alloc (.cells #[.slice (some ⟨gm, 0, none⟩) 1 1, .int .i64 pr, .int .i64 y9] 43 (0, 0))) g go ⟨.slice (some ⟨gn, 0, none⟩) 1 cn, .slice ae j2 ce, .slice ai ds.length ci, .int .i64 y0, .slice ac kc cc⟩ (.slice ai ds.length ci) li ds B (.slice (some ⟨gn, 0, none⟩) 1 cn) [77]) := V7.out.below bR
                    have X8 : Hid (RL (wB.alloc (.cells #[.slice (some ⟨gm, 0, none⟩) 1 1, .int .i64 pr, .int .i64 y9] 43 (0, 0))) 43 w.heap.size (.slice ae j2 ce) lE de ∧ de.length = j2 ∧ (∀ d ∈ de, isE d ∧ d.len ≤ 80)) := ⟨X7.out.1.keep kR (by intro k hk; simp at hk), X7.out.2⟩
                    have C8 : Hid (BT (wB.alloc (.cells #[.slice (some ⟨gm, 0, none⟩) 1 1, .int .i64 pr, .int .i64 y9] 43 (0, 0))) (.slice ac kc cc) Lc) := C7.out.keep kR (by intro k hk; simp at hk)
                    have RR : Hid (RT (wB.alloc (.cells #[.slice (some ⟨gm, 0, none⟩) 1 1, .int .i64 pr, .int .i64 y9] 43 (0, 0))) ⟨.slice (some ⟨gm, 0, none⟩) 1 1, .int .i64 pr, .int .i64 y9⟩ ⟨.b [112 + (j2 : Int)], .n pr, .n y9⟩) := ⟨M7.out.keep kR (by intro k hk; simp at hk), rfl, rfl⟩
                    have B8 : Hid (B3 (wB.alloc (.cells #[.slice (some ⟨gm, 0, none⟩) 1 1, .int .i64 pr, .int .i64 y9] 43 (0, 0))) wB.heap.size 43 (.slice (some ⟨gm, 0, none⟩) 1 1) (.int .i64 pr) (.int .i64 y9)) := B3.new _ _ _ _ _
                    have hwR : w.heap.size ≤ (wB.alloc (.cells #[.slice (some ⟨gm, 0, none⟩) 1 1, .int .i64 pr, .int .i64 y9] 43 (0, 0))).heap.size := V8.out.go_lt
                    clear bR kR V7 X7 C7 M7
                    generalize wB.alloc (.cells #[.slice (some ⟨gm, 0, none⟩) 1 1, .int .i64 pr, .int .i64 y9] 43 (0, 0)) = wR at *
                    generalize wB.heap.size = gR at *
                    refine hK.out _ _ trivial (fun hHeld => ?_)
                    clear hK K
                    try simp only [Act.put, List.getElem_toArray, List.getElem_cons_zero, List.getElem_cons_succ, List.setIfInBounds_toArray, List.set_cons_zero, List.set_cons_succ]
                    refine wpAnyH_ready (rs := [11]) (by kernel_rfl) (by simp) ?_
                    refine AllReadyH.cons (i := 11) (o := ?oA) ?iA (fun K hK => ?_) AllReadyH.nil
                    case iA => exact rfl
                    rw [if_pos (by kernel_rfl)]
                    refine wp_appendE _ _ rfl w.heap.size (.slice ae j2 ce) j2 lE rfl (by have := X8.out.1.row; rw [X8.out.2.1] at this; exact this) gR ⟨.slice (some ⟨gm, 0, none⟩) 1 1, .int .i64 pr, .int .i64 y9⟩ rfl B8.out RR.out.one (by omega) hwR ?_
                    intro v9 w9 ho hg9
                    have X9' := X8.out.1.push (by decide) RR.out (by rw [X8.out.2.1]; exact ho) hg9
                    obtain ⟨a9, c9, e9, _⟩ := X9'.shape
                    have e9' : v9 = .slice a9 (j2 + 1) c9 := by rw [e9]; simp [X8.out.2.1]
                    subst e9'
                    have rw8 := fun (k : Nat) (hk : (Value.slice ae j2 ce).ownBlock = some k) => ownsRow_type X8.out.1.row hk
                    have V9 : Hid (WS w w9 g go ⟨.slice (some ⟨gn, 0, none⟩) 1 cn, .slice ae j2 ce, .slice ai ds.length ci, .int .i64 y0, .slice ac kc cc⟩ (.slice ai ds.length ci) li ds B (.slice (some ⟨gn, 0, none⟩) 1 cn) [77]) := V8.out.grown hg9 (fun k hk => by obtain ⟨cur, hb⟩ := rw8 k hk; exact ⟨(X8.out.1.row.lt k hk).1, cur, _, hb, by decide, by decide, by decide⟩)
                    have C9 : Hid (BT w9 (.slice ac kc cc) Lc) := C8.out.keep (os := [(Value.slice ae j2 ce).ownBlock]) (KeepO.of hg9 (by simp)) (fun k hk => by
                      have e : (Value.slice ae j2 ce).ownBlock = some k := (by have h0 : some k = (Value.slice ae j2 ce).ownBlock := (by simpa using hk); exact h0.symm)
                      obtain ⟨cur, hb⟩ := rw8 k e
                      exact noB_of hb (by decide))
                    have X9 : Hid (RL w9 43 w.heap.size (.slice a9 (j2 + 1) c9) (lE ++ [⟨.slice (some ⟨gm, 0, none⟩) 1 1, .int .i64 pr, .int .i64 y9⟩]) (de ++ [⟨.b [112 + (j2 : Int)], .n pr, .n y9⟩])) := X9'
                    have HDE : Hid ((de ++ [(⟨.b [112 + (j2 : Int)], .n pr, .n y9⟩ : D3)]).length = j2 + 1 ∧ ∀ d ∈ de ++ [(⟨.b [112 + (j2 : Int)], .n pr, .n y9⟩ : D3)], isE d ∧ d.len ≤ 80) := by
                      refine ⟨by simp [X8.out.2.1], fun d hd => ?_⟩
                      rcases List.mem_append.1 hd with hm | hm
                      · exact X8.out.2.2 d hm
                      · simp at hm; rw [hm]; exact ⟨⟨_, _, _, rfl⟩, by simp [D3.len, Fd.len]⟩
                    clear ho hg9 X9' e9 rw8 V8 X8 C8 RR B8
                    refine hK.out _ _ trivial (fun hHeld => ?_)
                    clear hK K
                    try simp only [Act.put, List.getElem_toArray, List.getElem_cons_zero, List.getElem_cons_succ, List.setIfInBounds_toArray, List.set_cons_zero, List.set_cons_succ]
                    refine wpAnyH_take (i := 12) (oi := ?o531) (v := ?v531) ?i531 (by kernel_rfl) (by kernel_rfl) (by kernel_rfl) ?q531 ?y531 (hHeld) ?r531
                    case i531 => exact rfl
                    case q531 => exact (fun _ _ _ h => h)
                    case y531 =>
                      refine Or.inl ⟨by rfl, ?_⟩
                      intro w hSw
                      (try dsimp only at hSw)
                      go_simp
                      first | done | rfl
                    try simp only [Act.put, List.getElem_toArray, List.getElem_cons_zero, List.getElem_cons_succ, List.setIfInBounds_toArray, List.set_cons_zero, List.set_cons_succ]
                    obtain ⟨_, _, _, _, _⟩ := V9.out.obj.facts
                    obtain ⟨f0, f1, f2, f3, f4⟩ := V9.out.obj.frozen
                    have HF : Hid (∃ ae ce lE de, RL (w9.setCell ⟨go, 1, none⟩ (.slice a9 (j2 + 1) c9)) 43 w.heap.size (.slice ae (j2 + 1) ce) lE de ∧ de.length = (j2 + 1) ∧ (∀ d ∈ de, isE d ∧ d.len ≤ 80) ∧ WS w (w9.setCell ⟨go, 1, none⟩ (.slice a9 (j2 + 1) c9)) g go ⟨.slice (some ⟨gn, 0, none⟩) 1 cn, .slice ae (j2 + 1) ce, .slice ai ds.length ci, .int .i64 y0, .slice ac kc cc⟩ (.slice ai ds.length ci) li ds B (.slice (some ⟨gn, 0, none⟩) 1 cn) [77] ∧ BT (w9.setCell ⟨go, 1, none⟩ (.slice a9 (j2 + 1) c9)) (.slice ac kc cc) Lc) := ⟨_, _, _, _, X9.out.keep (keep_set _ _ _ _) (fun k hk => ⟨one_noB (noB_of V9.out.obj (by decide)) hk, fun cur e => (one_free (free_of V9.out.obj (by decide) (by decide) (by decide)) hk cur _ _ e).2.1 rfl⟩), HDE.out.1, HDE.out.2, V9.out.set (V9.out.obj.set1 _), C9.out.keep (keep_set _ _ _ _) (fun k hk => one_noB (noB_of V9.out.obj (by decide)) hk)⟩
                    refine wpAnyH_ready (rs := [13]) (by kernel_rfl) (by simp) ?_
                    refine AllReadyH.cons (i := 13) (o := ?o532) ?i532 (fun K hK => ?_) AllReadyH.nil
                    case i532 => exact rfl
                    go_simp
                    clear f0 f1 f2 f3 f4 V9 C9 X9 HDE
                    generalize w9.setCell ⟨go, 1, none⟩ (.slice a9 (j2 + 1) c9) = wZ at *
                    refine hK.out _ _ trivial (fun hHeld => ?_)
                    clear hK K
                    try simp only [Act.put, List.getElem_toArray, List.getElem_cons_zero, List.getElem_cons_succ, List.setIfInBounds_toArray, List.set_cons_zero, List.set_cons_succ]
                    refine wpAnyH_done (by kernel_rfl) ?_ _
                    go_wp2_with fail
                    go_roundw
                    case rel => exact ⟨j2 + 1, by omega, by go_num, HF⟩
                    case measure => simp [intOf]; omega
                case gK11 =>
                  intro K hK
                  clear k1
                  go_simp
                  have bR : Below wB.heap.size wB (wB.alloc (.cells #[.slice (some ⟨gm, 0, none⟩) 1 1, .int .i64 pr, .int .i64 y9] 43 (0, 0))) := (Below.refl _ _).alloc (Nat.le_refl _) _
                  have kR : KeepO [] wB (wB.alloc (.cells #[.slice (some ⟨gm, 0, none⟩) 1 1, .int .i64 pr, .int .i64 y9] 43 (0, 0))) := keep_alloc _ _
                  have V8 : Hid (WS w (wB.alloc (.cells #[.slice (some ⟨gm, 0, none⟩) 1 1, .int .i64 pr, .int .i64 y9] 43 (0, 0))) g go ⟨.slice (some ⟨gn, 0, none⟩) 1 cn, .slice ae j2 ce, .slice ai ds.length ci, .int .i64 y0, .slice ac kc cc⟩ (.slice ai ds.length ci) li ds B (.slice (some ⟨gn, 0, none⟩) 1 cn) [77]) := V7.out.below bR
                  have X8 : Hid (RL (wB.alloc (.cells #[.slice (some ⟨gm, 0, none⟩) 1 1, .int .i64 pr, .int .i64 y9] 43 (0, 0))) 43 w.heap.size (.slice ae j2 ce) lE de ∧ de.length = j2 ∧ (∀ d ∈ de, isE d ∧ d.len ≤ 80)) := ⟨X7.out.1.keep kR (by intro k hk; simp at hk), X7.out.2⟩
                  have C8 : Hid (BT (wB.alloc (.cells #[.slice (some ⟨gm, 0, none⟩) 1 1, .int .i64 pr, .int .i64 y9] 43 (0, 0))) (.slice ac kc cc) Lc) := C7.out.keep kR (by intro k hk; simp at hk)
                  have RR : Hid (RT (wB.alloc (.cells #[.slice (some ⟨gm, 0, none⟩) 1 1, .int .i64 pr, .int .i64 y9] 43 (0, 0))) ⟨.slice (some ⟨gm, 0, none⟩) 1 1, .int .i64 pr, .int .i64 y9⟩ ⟨.b [112 + (j2 : Int)], .n pr, .n y9⟩) := ⟨M7.out.keep kR (by intro k hk; simp at hk), rfl, rfl⟩
                  have B8 : Hid (B3 (wB.alloc (.cells #[.slice (some ⟨gm, 0, none⟩) 1 1, .int .i64 pr, .int .i64 y9] 43 (0, 0))) wB.heap.size 43 (.slice (some ⟨gm, 0, none⟩) 1 1) (.int .i64 pr) (.int .i64 y9)) := B3.new _ _ _ _ _
                  have hwR : w.heap.size ≤ (wB.alloc (.cells #[.slice (some ⟨gm, 0, none⟩) 1 1, .int .i64 pr, .int .i64 y9] 43 (0, 0))).heap.size := V8.out.go_lt
                  clear bR kR V7 X7 C7 M7
                  generalize wB.alloc (.cells #[.slice (some ⟨gm, 0, none⟩) 1 1, .int .i64 pr, .int .i64 y9] 43 (0, 0)) = wR at *
                  generalize wB.heap.size = gR at *
                  refine hK.out _ _ trivial (fun hHeld => ?_)
                  clear hK K
                  try simp only [Act.put, List.getElem_toArray, List.getElem_cons_zero, List.getElem_cons_succ, List.setIfInBounds_toArray, List.set_cons_zero, List.set_cons_succ]
                  have k1 : wR.cell? ⟨go, 1, none⟩ = some (.slice ae j2 ce) := V8.out.obj.facts.2.1
                  refine wpAnyH_ready (rs := [1]) (by kernel_rfl) (by simp) ?_
                  refine AllReadyH.cons (i := 1) (o := ?oK13) ?iK13 ?gK13 AllReadyH.nil
                  case iK13 => exact rfl
                  case gK13 =>
                    intro K hK
                    go_simp
                    clear k1
                    refine hK.out _ _ trivial (fun hHeld => ?_)
                    clear hK K
                    try simp only [Act.put, List.getElem_toArray, List.getElem_cons_zero, List.getElem_cons_succ, List.setIfInBounds_toArray, List.set_cons_zero, List.set_cons_succ]
                    refine wpAnyH_ready (rs := [11]) (by kernel_rfl) (by simp) ?_
                    refine AllReadyH.cons (i := 11) (o := ?oA) ?iA (fun K hK => ?_) AllReadyH.nil
                    case iA => exact rfl
                    rw [if_pos (by kernel_rfl)]
                    refine wp_appendE _ _ rfl w.heap.size (.slice ae j2 ce) j2 lE rfl (by have := X8.out.1.row; rw [X8.out.2.1] at this; exact this) gR ⟨.slice (some ⟨gm, 0, none⟩) 1 1, .int .i64 pr, .int .i64 y9⟩ rfl B8.out RR.out.one (by omega) hwR ?_
                    intro v9 w9 ho hg9
                    have X9' := X8.out.1.push (by decide) RR.out (by rw [X8.out.2.1]; exact ho) hg9
                    obtain ⟨a9, c9, e9, _⟩ := X9'.shape
                    have e9' : v9 = .slice a9 (j2 + 1) c9 := by rw [e9]; simp [X8.out.2.1]
                    subst e9'
                    have rw8 := fun (k : Nat) (hk : (Value.slice ae j2 ce).ownBlock = some k) => ownsRow_type X8.out.1.row hk
                    have V9 : Hid (WS w w9 g go ⟨.slice (some ⟨gn, 0, none⟩) 1 cn, .slice ae j2 ce, .slice ai ds.length ci, .int .i64 y0, .slice ac kc cc⟩ (.slice ai ds.length ci) li ds B (.slice (some ⟨gn, 0, none⟩) 1 cn) [77]) := V8.out.grown hg9 (fun k hk => by obtain ⟨cur, hb⟩ := rw8 k hk; exact ⟨(X8.out.1.row.lt k hk).1, cur, _, hb, by decide, by decide, by decide⟩)
                    have C9 : Hid (BT w9 (.slice ac kc cc) Lc) := C8.out.keep (os := [(Value.slice ae j2 ce).ownBlock]) (KeepO.of hg9 (by simp)) (fun k hk => by
                      have e : (Value.slice ae j2 ce).ownBlock = some k := (by have h0 : some k = (Value.slice ae j2 ce).ownBlock := (by simpa using hk); exact h0.symm)
                      obtain ⟨cur, hb⟩ := rw8 k e
                      exact noB_of hb (by decide))
                    have X9 : Hid (RL w9 43 w.heap.size (.slice a9 (j2 + 1) c9) (lE ++ [⟨.slice (some ⟨gm, 0, none⟩) 1 1, .int .i64 pr, .int .i64 y9⟩]) (de ++ [⟨.b [112 + (j2 : Int)], .n pr, .n y9⟩])) := X9'
                    have HDE : Hid ((de ++ [(⟨.b [112 + (j2 : Int)], .n pr, .n y9⟩ : D3)]).length = j2 + 1 ∧ ∀ d ∈ de ++ [(⟨.b [112 + (j2 : Int)], .n pr, .n y9⟩ : D3)], isE d ∧ d.len ≤ 80) := by
                      refine ⟨by simp [X8.out.2.1], fun d hd => ?_⟩
                      rcases List.mem_append.1 hd with hm | hm
                      · exact X8.out.2.2 d hm
                      · simp at hm; rw [hm]; exact ⟨⟨_, _, _, rfl⟩, by simp [D3.len, Fd.len]⟩
                    clear ho hg9 X9' e9 rw8 V8 X8 C8 RR B8
                    refine hK.out _ _ trivial (fun hHeld => ?_)
                    clear hK K
                    try simp only [Act.put, List.getElem_toArray, List.getElem_cons_zero, List.getElem_cons_succ, List.setIfInBounds_toArray, List.set_cons_zero, List.set_cons_succ]
                    refine wpAnyH_take (i := 12) (oi := ?o533) (v := ?v533) ?i533 (by kernel_rfl) (by kernel_rfl) (by kernel_rfl) ?q533 ?y533 (hHeld) ?r533
                    case i533 => exact rfl
                    case q533 => exact (fun _ _ _ h => h)
                    case y533 =>
                      refine Or.inl ⟨by rfl, ?_⟩
                      intro w hSw
                      (try dsimp only at hSw)
                      go_simp
                      first | done | rfl
                    try simp only [Act.put, List.getElem_toArray, List.getElem_cons_zero, List.getElem_cons_succ, List.setIfInBounds_toArray, List.set_cons_zero, List.set_cons_succ]
                    obtain ⟨_, _, _, _, _⟩ := V9.out.obj.facts
                    obtain ⟨f0, f1, f2, f3, f4⟩ := V9.out.obj.frozen
                    have HF : Hid (∃ ae ce lE de, RL (w9.setCell ⟨go, 1, none⟩ (.slice a9 (j2 + 1) c9)) 43 w.heap.size (.slice ae (j2 + 1) ce) lE de ∧ de.length = (j2 + 1) ∧ (∀ d ∈ de, isE d ∧ d.len ≤ 80) ∧ WS w (w9.setCell ⟨go, 1, none⟩ (.slice a9 (j2 + 1) c9)) g go ⟨.slice (some ⟨gn, 0, none⟩) 1 cn, .slice ae (j2 + 1) ce, .slice ai ds.length ci, .int .i64 y0, .slice ac kc cc⟩ (.slice ai ds.length ci) li ds B (.slice (some ⟨gn, 0, none⟩) 1 cn) [77] ∧ BT (w9.setCell ⟨go, 1, none⟩ (.slice a9 (j2 + 1) c9)) (.slice ac kc cc) Lc) := ⟨_, _, _, _, X9.out.keep (keep_set _ _ _ _) (fun k hk => ⟨one_noB (noB_of V9.out.obj (by decide)) hk, fun cur e => (one_free (free_of V9.out.obj (by decide) (by decide) (by decide)) hk cur _ _ e).2.1 rfl⟩), HDE.out.1, HDE.out.2, V9.out.set (V9.out.obj.set1 _), C9.out.keep (keep_set _ _ _ _) (fun k hk => one_noB (noB_of V9.out.obj (by decide)) hk)⟩
                    refine wpAnyH_ready (rs := [13]) (by kernel_rfl) (by simp) ?_
                    refine AllReadyH.cons (i := 13) (o := ?o534) ?i534 (fun K hK => ?_) AllReadyH.nil
                    case i534 => exact rfl
                    go_simp
                    clear f0 f1 f2 f3 f4 V9 C9 X9 HDE
                    generalize w9.setCell ⟨go, 1, none⟩ (.slice a9 (j2 + 1) c9) = wZ at *
                    refine hK.out _ _ trivial (fun hHeld => ?_)
                    clear hK K
                    try simp only [Act.put, List.getElem_toArray, List.getElem_cons_zero, List.getElem_cons_succ, List.setIfInBounds_toArray, List.set_cons_zero, List.set_cons_succ]
                    refine wpAnyH_done (by kernel_rfl) ?_ _
                    go_wp2_with fail
                    go_roundw
                    case rel => exact ⟨j2 + 1, by omega, by go_num, HF⟩
                    case measure => simp [intOf]; omega
          · have hjm2 : j2 = m3 + 1 := by omega
            subst hjm2
            obtain ⟨p0, p1, p2, p3, p4⟩ := V2.out.obj.facts
            obtain ⟨_, _, _, _, _⟩ := V2.out.res.facts
            obtain ⟨f0, f1, f2, f3, f4⟩ := V2.out.res.frozen
            simp only at p0 p1 p2 p3 p4
            go_wp2_with fail
            have hgr : w.heap.size < go := V2.out.ne.2
            have kk : KeepO [some w.heap.size] wr (((((wr.setCell ⟨w.heap.size, 0, none⟩ (.slice (some ⟨gn, 0, none⟩) 1 cn)).setCell ⟨w.heap.size, 1, none⟩ (.slice ae (m3 + 1) ce)).setCell ⟨w.heap.size, 2, none⟩ (.slice ai ds.length ci)).setCell ⟨w.heap.size, 3, none⟩ (.int .i64 y0)).setCell ⟨w.heap.size, 4, none⟩ (.slice ac kc cc)) := ((((keep_set _ _ _ _).trans (keep_set _ _ _ _)).trans (keep_set _ _ _ _)).trans (keep_set _ _ _ _)).trans (keep_set _ _ _ _)
            have R9 : B5 (((((wr.setCell ⟨w.heap.size, 0, none⟩ (.slice (some ⟨gn, 0, none⟩) 1 cn)).setCell ⟨w.heap.size, 1, none⟩ (.slice ae (m3 + 1) ce)).setCell ⟨w.heap.size, 2, none⟩ (.slice ai ds.length ci)).setCell ⟨w.heap.size, 3, none⟩ (.int .i64 y0)).setCell ⟨w.heap.size, 4, none⟩ (.slice ac kc cc)) w.heap.size 26 ⟨.slice (some ⟨gn, 0, none⟩) 1 cn, .slice ae (m3 + 1) ce, .slice ai ds.length ci, .int .i64 y0, .slice ac kc cc⟩ := ((((V2.out.res.set0 _).set1 _).set2 _).set3 _).set4 _
            have hfr : Free wr w.heap.size := free_of V2.out.res (by decide) (by decide) (by decide)
            have hos : ∀ k, some k ∈ [some w.heap.size] → Free wr k := fun k hk => one_free hfr hk
            have D9 : Drawn w (((((wr.setCell ⟨w.heap.size, 0, none⟩ (.slice (some ⟨gn, 0, none⟩) 1 cn)).setCell ⟨w.heap.size, 1, none⟩ (.slice ae (m3 + 1) ce)).setCell ⟨w.heap.size, 2, none⟩ (.slice ai ds.length ci)).setCell ⟨w.heap.size, 3, none⟩ (.int .i64 y0)).setCell ⟨w.heap.size, 4, none⟩ (.slice ac kc cc)) g := by
              have gg : wr.grownBy (((((wr.setCell ⟨w.heap.size, 0, none⟩ (.slice (some ⟨gn, 0, none⟩) 1 cn)).setCell ⟨w.heap.size, 1, none⟩ (.slice ae (m3 + 1) ce)).setCell ⟨w.heap.size, 2, none⟩ (.slice ai ds.length ci)).setCell ⟨w.heap.size, 3, none⟩ (.int .i64 y0)).setCell ⟨w.heap.size, 4, none⟩ (.slice ac kc cc)) (some w.heap.size) := grown_trans (grown_trans (grown_trans (grown_trans (grown_set _ _ _ _) (grown_set _ _ _ _)) (grown_set _ _ _ _)) (grown_set _ _ _ _)) (grown_set _ _ _ _)
              exact ⟨V2.out.dr.1.kept gg (by intro k hk; cases hk; exact hgw), grown_over V2.out.dr.2 gg (by intro k hk; cases hk; exact Nat.le_refl _)⟩
            have DO : DOb wr B ⟨.slice (some ⟨gn, 0, none⟩) 1 cn, .slice ae (m3 + 1) ce, .slice ai ds.length ci, .int .i64 y0, .slice ac kc cc⟩ ⟨[77], de, ds, y0, Lc⟩ lE li := ⟨V2.out.nm, (by have := X2.out.1.mono hBw; exact this), V2.out.im, rfl, C2.out, X2.out.2.2, HDS.out, by have := X2.out.2.1; have := hLc.out; simp only [List.length_cons, List.length_nil]; omega⟩
            have DO9 := DO.keep kk hos
            generalize (((((wr.setCell ⟨w.heap.size, 0, none⟩ (.slice (some ⟨gn, 0, none⟩) 1 cn)).setCell ⟨w.heap.size, 1, none⟩ (.slice ae (m3 + 1) ce)).setCell ⟨w.heap.size, 2, none⟩ (.slice ai ds.length ci)).setCell ⟨w.heap.size, 3, none⟩ (.int .i64 y0)).setCell ⟨w.heap.size, 4, none⟩ (.slice ac kc cc)) = w9 at *
            obtain ⟨d0, d1, d2, d3, d4⟩ := R9.facts
            simp only at d0 d1 d2 d3 d4
            refine bodyPost_ret (v := .agg #[.slice (some ⟨gn, 0, none⟩) 1 cn, .slice ae (m3 + 1) ce, .slice ai ds.length ci, .int .i64 y0, .slice ac kc cc]) (by simp [results, Try.results35, go_sem, d0, d1, d2, d3, d4]) rfl ⟨⟨.slice (some ⟨gn, 0, none⟩) 1 cn, .slice ae (m3 + 1) ce, .slice ai ds.length ci, .int .i64 y0, .slice ac kc cc⟩, rfl, ⟨⟨[77], de, ds, y0, Lc⟩, ⟨lE, li, DO9⟩, ?_⟩, D9⟩
            have := X2.out.2.1; have := hLc.out
            simp only
            omega
end Go.Proofs.Ytnhebknckgffoaa

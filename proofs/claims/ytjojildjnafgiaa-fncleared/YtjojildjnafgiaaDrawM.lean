/- A drawn memory: some words came back, each of whose Seal is an int; the cursor stands, nothing else that was there has turned. -/
import Derived.Test.YtjojildjnafgiaaDrawS
import Derived.Test.YtjojildjnafgiaaMemCopy
import Derived.Deep.RegionHeld3
namespace Go.Proofs.Ytjojildjnafgiaa
open Go.RowKit
set_option linter.unusedVariables false
set_option linter.unusedSimpArgs false
set_option maxRecDepth 100000

/-- Words that the call itself made, from block base on. -/
def OwnW (w : World) (base : Nat) (v : Value) (n : Nat) (l : List Wd) : Prop := w.ownsRow base 29 7 v n (flat l)

theorem OwnW.kept {w w' : World} {base : Nat} {v : Value} {n : Nat} {l : List Wd} {row : Option Nat} (h : OwnW w base v n l) (hg : w.grownBy w' row) (hne : ∀ k, v.ownBlock = some k → row ≠ some k) : OwnW w' base v n l := by
  refine World.ownsRow.kept h hg ?_
  cases hv : v.ownBlock with
  | none => exact .inl rfl
  | some k => exact .inr (fun e => hne k hv e.symm)
theorem ownW_nil (w : World) (base : Nat) : OwnW w base (.slice none 0 0) 0 [] := ⟨rfl, .inl ⟨rfl, rfl⟩⟩

theorem wpList_appendW1 {w : World} {ops : Array Oper} {rest : List Oper} {o : Oper} {a : Act} {Q : Exit → Act → World → Prop} (hgd : o.guard = none) (s x : Operand)
    (ho : o.op = .call { callee := .builtin .append, args := #[s, x], argTypes := #[23, 23] })
    (base : Nat) (v : Value) (n : Nat) (l : List Wd) (hs : a.eval s = v) (hown : OwnW w base v n l) (C : Array Value) (y : Wd) (hC : C = y.vals.toArray)
    (hx : a.eval x = .slice (some ⟨w.heap.size, 0, none⟩) 1 1) (hn : n ≤ 1000) (hbase : base ≤ w.heap.size)
    (h : ∀ v' w', OwnW w' base v' (n + 1) (l ++ [y]) → (w.alloc (.cells C 29)).grownBy w' v.ownBlock → wpList Try.prog ops Q rest (a.put o.dst v') w') : wpList Try.prog ops Q (o :: rest) a (w.alloc (.cells C 29)) := by
  subst hC
  obtain ⟨i0, hi, hz0, hz1, hz2⟩ := info_parts infoW
  have hown' : OwnW (w.alloc (.cells y.vals.toArray 29)) base v n l := World.ownsRow.alloc hown _
  refine wpList_append_own _ hgd s x 23 ho base 29 i0 _ 7 56 Try.underlying23 hi hz0 hz1 hz2 rfl (by decide) v n _ hs hown' ⟨w.heap.size, 0, none⟩ 1 1 (flat [y]) hx (by rw [flat_len]; rfl) ?_ (flat_one _) (by unfold maxLen; omega) (by omega) (by simp; omega) ?_
  · intro j u hu
    rw [Addr.add_lit, cell_of_row _ _ (0 + j) _ _ (0, 0) (heap_alloc_new w _)]
    simpa [flat] using hu
  · intro v' w' ho' hg' _
    exact h v' w' (by unfold OwnW; rw [flat_append]; exact ho') hg'

/-- Where the loop stands: the result's block, the memory's variable and what it holds. -/
structure MS (w : World) (gs : Nat) (wr : World) (g k : Nat) (l : List Wd) : Prop where
  res : wr.heap[gs]? = some (.cells #[.slice none 0 0] 25 (0, 0))
  mem : ∃ v, wr.heap[gs + 1]? = some (.cells #[v] 25 (0, 0)) ∧ OwnW wr (gs + 2) v k l
  fit : ∀ x ∈ l, In64 x.s
  dr : Drawn w wr g
  sz : gs + 2 ≤ wr.heap.size

theorem OwnW.low {w : World} {base : Nat} {v : Value} {n : Nat} {l : List Wd} (h : OwnW w base v n l) {k : Nat} (hk : v.ownBlock = some k) : base ≤ k := by
  rcases h.2 with ⟨rfl, _⟩ | ⟨g, cap, cur, rfl, hg, _⟩
  · cases hk
  · simp [Value.ownBlock] at hk; omega
theorem OwnW.high {w : World} {base : Nat} {v : Value} {n : Nat} {l : List Wd} (h : OwnW w base v n l) {k : Nat} (hk : v.ownBlock = some k) : k < w.heap.size := by
  rcases h.2 with ⟨rfl, _⟩ | ⟨g, cap, cur, rfl, _, hh, _⟩
  · cases hk
  · simp [Value.ownBlock] at hk; subst hk; exact (Array.getElem?_eq_some_iff.1 hh).1

theorem MS.drawn {w wr w' : World} {gs g k : Nat} {l : List Wd} (h : MS w gs wr g k l) (hg : g < gs) (hd : Drawn wr w' g) : MS w gs w' g k l := by
  obtain ⟨v, hv, ho⟩ := h.mem
  have hs := h.sz
  refine ⟨(hd.block (by omega) (by omega)).trans h.res, ⟨v, (hd.block (by omega) (by omega)).trans hv, ho.kept hd.2 (fun k hk e => ?_)⟩, h.fit, h.dr.trans hd, Nat.le_trans hs hd.2.size⟩
  have := ho.low hk
  simp at e
  omega

theorem MS.below {w wr w' : World} {gs g k : Nat} {l : List Wd} (h : MS w gs wr g k l) (hb : Below wr.heap.size wr w') : MS w gs w' g k l := by
  obtain ⟨v, hv, ho⟩ := h.mem
  have hs := h.sz
  exact ⟨(hb.block _ (by omega)).trans h.res, ⟨v, (hb.block _ (by omega)).trans hv, ho.kept (row := none) (below_grows hb) (fun k hk e => by cases e)⟩, h.fit, h.dr.below hb, Nat.le_trans hs hb.size⟩

theorem MS.alloc {w wr : World} {gs g k : Nat} {l : List Wd} (h : MS w gs wr g k l) (o : Obj) : MS w gs (wr.alloc o) g k l := h.below ((Below.refl _ _).alloc (Nat.le_refl _) _)

/-- Stores above the memory's own blocks, into no block of its words. -/
theorem MS.over {w wr w' : World} {gs g k j : Nat} {l : List Wd} (h : MS w gs wr g k l) (hgw : w.heap.size = gs) (hg : g < gs) (hgr : wr.grownBy w' (some j)) (hj : gs + 2 ≤ j) (hne : ∀ v, wr.heap[gs + 1]? = some (.cells #[v] 25 (0, 0)) → v.ownBlock ≠ some j) : MS w gs w' g k l := by
  obtain ⟨v, hv, ho⟩ := h.mem
  have hs := h.sz
  refine ⟨(hgr.block gs (by omega) (by simp; omega)).trans h.res, ⟨v, (hgr.block (gs + 1) (by omega) (by simp; omega)).trans hv, ho.kept hgr (fun k hk e => ?_)⟩, h.fit, ⟨h.dr.1.kept hgr (by intro i hi; cases hi; omega), grown_over h.dr.2 hgr (by intro i hi; cases hi; omega)⟩, Nat.le_trans hs hgr.size⟩
  cases e
  exact hne v hv hk

theorem MS.memkept {wr w' : World} {gs k : Nat} {l : List Wd} {v : Value} {o : Obj} (hv : wr.heap[gs + 1]? = some (.cells #[v] 25 (0, 0))) (ho : OwnW wr (gs + 2) v k l) (hg : (wr.alloc o).grownBy w' v.ownBlock) (hs : gs + 2 ≤ wr.heap.size) : w'.heap[gs + 1]? = some (.cells #[v] 25 (0, 0)) := by
  rw [hg.block (gs + 1) (by simp; omega) (fun e => by have := ho.low e.symm; omega)]
  exact (alloc_block (by omega)).trans hv

theorem MS.step {w wr w' : World} {gs g k : Nat} {l : List Wd} {v v' : Value} {o : Obj} {y : Wd} (h : MS w gs wr g k l) (hgw : w.heap.size = gs) (hgl : g < gs) (hv : wr.heap[gs + 1]? = some (.cells #[v] 25 (0, 0))) (ho : OwnW wr (gs + 2) v k l) (hg : (wr.alloc o).grownBy w' v.ownBlock) (ho' : OwnW w' (gs + 2) v' (k + 1) (l ++ [y])) (hy : In64 y.s) :
    MS w gs (w'.setCell ⟨gs + 1, 0, none⟩ v') g (k + 1) (l ++ [y]) := by
  have hs := h.sz
  have hm' := MS.memkept hv ho hg hs
  have hr' : w'.heap[gs]? = some (.cells #[.slice none 0 0] 25 (0, 0)) := by
    rw [hg.block gs (by simp; omega) (fun e => by have := ho.low e.symm; omega)]
    exact (alloc_block (by omega)).trans h.res
  have hd1 := h.dr.alloc o
  have hd2 : Drawn w w' g := ⟨hd1.1.kept hg (fun j hj => by have := ho.low hj; omega), grown_over hd1.2 hg (fun j hj => by have := ho.low hj; omega)⟩
  refine ⟨(heap_setCell_other w' ⟨gs + 1, 0, none⟩ gs v' (by simp)).trans hr', ⟨v', ?_, ho'.kept (set_grown ..) (fun j hj e => ?_)⟩, ?_, hd2.set (by omega) (by omega) _ _, ?_⟩
  · rw [heap_setCell_same w' (gs + 1) 0 _ _ _ hm']; rfl
  · have := ho'.low hj
    simp at e
    omega
  · intro x hx
    rcases List.mem_append.1 hx with hx | hx
    · exact h.fit x hx
    · rw [List.mem_singleton.1 hx]; exact hy
  · have := hg.size
    simp at this ⊢
    omega

/-- What came back of a draw: words from block B on. -/
def MemD (B : Nat) (w : World) (a : Option Addr) (n : Nat) (l : List Wd) : Prop := l.length = n ∧ n ≤ 40 ∧ (0 < n → ∃ gb, a = some ⟨gb, 0, none⟩ ∧ WX w gb l ∧ B ≤ gb) ∧ ∀ x ∈ l, In64 x.s

theorem OwnW.wx {w : World} {base : Nat} {v : Value} {n : Nat} {l : List Wd} (h : OwnW w base v n l) : ∃ a c, v = .slice a n c ∧ l.length = n ∧ (0 < n → ∃ gb, a = some ⟨gb, 0, none⟩ ∧ WX w gb l ∧ base ≤ gb) := by
  have hl : l.length = n := by have := h.1; rw [flat_len] at this; omega
  rcases h.2 with ⟨rfl, rfl⟩ | ⟨gb, cap, cur, rfl, hg, hh, _, _, _, ht⟩
  · exact ⟨_, _, rfl, hl, fun h => absurd h (by omega)⟩
  · refine ⟨_, _, rfl, hl, fun _ => ⟨gb, rfl, ⟨cur.toList.drop (n * 7), ?_⟩, hg⟩⟩
    rw [hh, ← ht, List.take_append_drop]

/-- Behind the loop. -/
structure FS (w : World) (gs : Nat) (wr : World) (g : Nat) (a : Option Addr) (n c : Nat) (l : List Wd) : Prop where
  res : wr.heap[gs]? = some (.cells #[.slice none 0 0] 25 (0, 0))
  mem : wr.heap[gs + 1]? = some (.cells #[.slice a n c] 25 (0, 0))
  md : MemD (gs + 2) wr a n l
  dr : Drawn w wr g
  sz : gs + 2 ≤ wr.heap.size

theorem MemD.kept {B : Nat} {w w' : World} {a : Option Addr} {n : Nat} {l : List Wd} {row : Option Nat} (h : MemD B w a n l) (hg : w.grownBy w' row) (hr : ∀ k, row = some k → k < B) : MemD B w' a n l := by
  refine ⟨h.1, h.2.1, fun hn => ?_, h.2.2.2⟩
  obtain ⟨gb, e, hx, hb⟩ := h.2.2.1 hn
  exact ⟨gb, e, hx.of (hg.block gb hx.lt (fun e' => by have := hr gb e'.symm; omega)), hb⟩
theorem MemD.mono {B C : Nat} {w : World} {a : Option Addr} {n : Nat} {l : List Wd} (h : MemD B w a n l) (hc : C ≤ B) : MemD C w a n l := by
  refine ⟨h.1, h.2.1, fun hn => ?_, h.2.2.2⟩
  obtain ⟨gb, e, hx, hb⟩ := h.2.2.1 hn
  exact ⟨gb, e, hx, Nat.le_trans hc hb⟩

theorem MS.fs {w wr : World} {gs g k : Nat} {l : List Wd} (h : MS w gs wr g k l) (hk : k ≤ 40) : ∃ a c, FS w gs wr g a k c l := by
  obtain ⟨v, hv, ho⟩ := h.mem
  obtain ⟨a, c, rfl, hl, hx⟩ := ho.wx
  exact ⟨a, c, h.res, hv, ⟨hl, hk, hx, h.fit⟩, h.dr, h.sz⟩

theorem FS.drawn {w wr w' : World} {gs g n c : Nat} {a : Option Addr} {l : List Wd} (h : FS w gs wr g a n c l) (hg : g < gs) (hd : Drawn wr w' g) : FS w gs w' g a n c l := by
  have hs := h.sz
  exact ⟨(hd.block (by omega) (by omega)).trans h.res, (hd.block (by omega) (by omega)).trans h.mem, h.md.kept hd.2 (by intro k hk; cases hk; omega), h.dr.trans hd, Nat.le_trans hs hd.2.size⟩
theorem FS.drew {w wr : World} {gs g n c : Nat} {a : Option Addr} {l : List Wd} (h : FS w gs wr g a n c l) : FS w gs wr.drew g a n c l := by
  have hb : Below wr.heap.size wr wr.drew := (Below.refl _ _).drew
  exact ⟨h.res, h.mem, h.md.kept (row := none) (below_grows hb) (by intro k hk; cases hk), h.dr.below hb, h.sz⟩

theorem seven_grown (w : World) (k o0 o1 o2 o3 o4 o5 o6 : Nat) (v0 v1 v2 v3 v4 v5 v6 : Value) : w.grownBy (((((((w.setCell ⟨k, o0, none⟩ v0).setCell ⟨k, o1, none⟩ v1).setCell ⟨k, o2, none⟩ v2).setCell ⟨k, o3, none⟩ v3).setCell ⟨k, o4, none⟩ v4).setCell ⟨k, o5, none⟩ v5).setCell ⟨k, o6, none⟩ v6) (some k) :=
  grown_then (grown_then (grown_then (grown_then (grown_then (grown_then (set_grown ..) (set_grown ..)) (set_grown ..)) (set_grown ..)) (set_grown ..)) (set_grown ..)) (set_grown ..)

theorem FS.put {w wr : World} {gs g n c gb j : Nat} {l : List Wd} {y : Wd} (h : FS w gs wr g (some ⟨gb, 0, none⟩) n c l) (hgw : w.heap.size = gs) (hg : g < gs) (hj : j < n) (hy : In64 y.s) : FS w gs (((((((wr.setCell ⟨gb, j * 7, none⟩ (.bool y.t)).setCell ⟨gb, j * 7 + 1, none⟩ (.int .i64 y.n)).setCell ⟨gb, j * 7 + 2, none⟩ (.int .i64 y.l)).setCell ⟨gb, j * 7 + 3, none⟩ (.int .i64 y.h)).setCell ⟨gb, j * 7 + 4, none⟩ (.int .i64 y.a)).setCell ⟨gb, j * 7 + 5, none⟩ (.int .i64 y.p)).setCell ⟨gb, j * 7 + 6, none⟩ (.int .i64 y.s)) g (some ⟨gb, 0, none⟩) n c (l.set j y) := by
  have hs := h.sz
  obtain ⟨hl, hn, hx, hf⟩ := h.md
  obtain ⟨gb', e, hw, hb⟩ := hx (by omega)
  cases e
  have hgr := seven_grown wr gb (j * 7) (j * 7 + 1) (j * 7 + 2) (j * 7 + 3) (j * 7 + 4) (j * 7 + 5) (j * 7 + 6) (.bool y.t) (.int .i64 y.n) (.int .i64 y.l) (.int .i64 y.h) (.int .i64 y.a) (.int .i64 y.p) (.int .i64 y.s)
  refine ⟨(hgr.block gs (by omega) (by simp; omega)).trans h.res, (hgr.block (gs + 1) (by omega) (by simp; omega)).trans h.mem, ⟨by simpa using hl, hn, fun _ => ⟨gb, rfl, hw.set y (by omega), hb⟩, ?_⟩, ⟨h.dr.1.kept hgr (by intro i hi; cases hi; omega), grown_over h.dr.2 hgr (by intro i hi; cases hi; omega)⟩, Nat.le_trans hs hgr.size⟩
  intro x hx'
  rcases List.mem_or_eq_of_mem_set hx' with hx' | rfl
  · exact hf x hx'
  · exact hy

theorem FS.fin {w wr : World} {gs g n c : Nat} {a : Option Addr} {l : List Wd} (h : FS w gs wr g a n c l) (hgw : w.heap.size = gs) (hg : g < gs) :
    (wr.setCell ⟨gs, 0, none⟩ (.slice a n c)).heap[gs]? = some (.cells #[.slice a n c] 25 (0, 0)) ∧ MemD gs (wr.setCell ⟨gs, 0, none⟩ (.slice a n c)) a n l ∧ Drawn w (wr.setCell ⟨gs, 0, none⟩ (.slice a n c)) g := by
  refine ⟨by rw [heap_setCell_same wr gs 0 _ _ _ h.res]; rfl, (h.md.kept (set_grown wr gs 0 _) (by intro k hk; cases hk; omega)).mono (by omega), h.dr.set (by omega) (by omega) _ _⟩

set_option maxHeartbeats 8000000 in
theorem memoryM (g : Nat) (w : World) (h : Cur w g) :
    Calls Try.prog 11 #[.pointer (some ⟨g, 0, none⟩)] w fun e w' => ∃ a n c l, e = .returned (.agg #[.slice a n c]) ∧ MemD w.heap.size w' a n l ∧ Drawn w w' g := by
  have hgl0 := h.lt
  have hM0 : MS w w.heap.size ((w.alloc (.cells #[.slice none 0 0] 25)).alloc (.cells #[.slice none 0 0] 25)) g 0 [] := by
    refine ⟨?_, ⟨.slice none 0 0, ?_, ownW_nil _ _⟩, by simp, (h.start _).alloc _, by simp⟩
    · rw [alloc_block (by simp)]; exact heap_alloc_new w _
    · have := heap_alloc_new (w.alloc (.cells #[.slice none 0 0] 25)) (.cells #[.slice none 0 0] 25)
      simpa using this
  clear h
  go_enter Try.func11, Try.ntmps11
  go_upto_region 2 with fail
  generalize (w.alloc (.cells #[.slice none 0 0] 25)).alloc (.cells #[.slice none 0 0] 25) = w1 at *
  generalize hg : w.heap.size = gs at *
  have HG : Hid (w.heap.size = gs) := hg
  have M1 : Hid (MS w gs w1 g 0 []) := hM0
  have hgl : g < gs := hgl0
  clear hg hM0 hgl0
  go_wp2_with fail
  refine (belowM g _ _ M1.out.dr.1 (by omega)).mono ?_
  rintro e w2 ⟨x, rfl, hx0, hx1, _, hd2⟩
  replace hx1 : x < 40 := hx1 (by omega)
  obtain ⟨n, rfl⟩ := Int.eq_ofNat_of_zero_le hx0
  have hn : n < 40 := by omega
  have M2 : Hid (MS w gs w2 g 0 []) := M1.out.drawn hgl hd2
  clear hd2 M1 hx0 hx1
  go_wp2_with fail
  go_loopw [5] (fun i wr => ∃ k : Nat, k ≤ n ∧ i = .int .i64 k ∧ ∃ l, Hid (MS w gs wr g k l)) (fun i _ => n - (intOf i).toNat)
  case atStart => exact ⟨0, Nat.zero_le _, rfl, [], M2⟩
  case round =>
    obtain ⟨k, hk, rfl, l, MR⟩ := hrel
    clear M2
    by_cases hlt : k < n
    · go_wp2_with fail
      refine (l2wordS g _ MR.out.dr.1).mono ?_
      rintro e w3 ⟨xt, xn, xl, xh, xa, xp, xs, rfl, hxs, hd3⟩
      have HXS : Hid (In64 xs) := hxs
      have M3 : Hid (MS w gs w3 g k l) := MR.out.drawn hgl hd3
      clear hxs hd3 MR
      go_upto_region 7 with fail
      have M4 : Hid (MS w gs (w3.alloc (.cells #[.bool xt, .int .i64 xn, .int .i64 xl, .int .i64 xh, .int .i64 xa, .int .i64 xp, .int .i64 xs] 29)) g k l) := M3.out.alloc _
      have hx4 := heap_alloc_new w3 (.cells #[.bool xt, .int .i64 xn, .int .i64 xl, .int .i64 xh, .int .i64 xa, .int .i64 xp, .int .i64 xs] 29)
      have hfar : Hid (∀ v, (w3.alloc (.cells #[.bool xt, .int .i64 xn, .int .i64 xl, .int .i64 xh, .int .i64 xa, .int .i64 xp, .int .i64 xs] 29)).heap[gs + 1]? = some (.cells #[v] 25 (0, 0)) → v.ownBlock ≠ some w3.heap.size) := by
        intro v hv e
        obtain ⟨v', hv', ho'⟩ := M3.out.mem
        rw [alloc_block (by have := M3.out.sz; omega), hv'] at hv
        simp only [Option.some.injEq, Obj.cells.injEq, and_true] at hv
        have hvv : v' = v := by simpa using hv
        subst hvv
        have := ho'.high e
        omega
      have hgx : gs + 2 ≤ w3.heap.size := M3.out.sz
      clear M3
      generalize w3.alloc (.cells #[.bool xt, .int .i64 xn, .int .i64 xl, .int .i64 xh, .int .i64 xa, .int .i64 xp, .int .i64 xs] 29) = w4 at *
      generalize w3.heap.size = gx at *
      obtain ⟨y0, y1, y2, y3, y4, y5, y6, _⟩ := row_facts hx4
      have HX4 : Hid _ := hx4
      clear hx4
      go_wp2_with fail
      refine (dataM xt xn xl xh xa xp xs w4).mono ?_
      rintro e w5 ⟨rfl, rfl⟩
      have M5 : Hid (MS w gs (w4.alloc (.cells #[.bool xt, .int .i64 xn, .int .i64 xl, .int .i64 xh, .int .i64 xa, .int .i64 xp, .int .i64 xs] 29)) g k l) := M4.out.alloc _
      have hx5 := (alloc_block (o := .cells #[.bool xt, .int .i64 xn, .int .i64 xl, .int .i64 xh, .int .i64 xa, .int .i64 xp, .int .i64 xs] 29) (Array.getElem?_eq_some_iff.1 HX4.out).1).trans HX4.out
      have hfar5 : Hid (∀ v, (w4.alloc (.cells #[.bool xt, .int .i64 xn, .int .i64 xl, .int .i64 xh, .int .i64 xa, .int .i64 xp, .int .i64 xs] 29)).heap[gs + 1]? = some (.cells #[v] 25 (0, 0)) → v.ownBlock ≠ some gx) := by
        intro v hv
        rw [alloc_block (by have := M4.out.sz; omega)] at hv
        exact hfar.out v hv
      clear M4 HX4 y0 y1 y2 y3 y4 y5 y6 hfar
      generalize w4.alloc (.cells #[.bool xt, .int .i64 xn, .int .i64 xl, .int .i64 xh, .int .i64 xa, .int .i64 xp, .int .i64 xs] 29) = w5 at *
      generalize (xt && (xs == 0)) = d at *
      cases d
      · have hZ := hx5
        have MZ : Hid (MS w gs w5 g k l) := M5
        clear hx5 M5 hfar5
        obtain ⟨v, hv, how⟩ := MZ.out.mem
        obtain ⟨cm, fm⟩ := one_facts hv
        obtain ⟨y0, y1, y2, y3, y4, y5, y6, _⟩ := row_facts hZ
        have HZ2 : Hid _ := hZ
        have HV : Hid _ := hv
        have HOW : Hid (OwnW w5 (gs + 2) v k l) := how
        clear hZ hv how
        go_wp2_with (at_builtin; refine wpList_appendW1 rfl _ _ rfl (gs + 2) v k l rfl HOW.out #[.bool xt, .int .i64 xn, .int .i64 xl, .int .i64 xh, .int .i64 xa, .int .i64 xp, .int .i64 xs] (⟨xt, xn, xl, xh, xa, xp, xs⟩ : Wd) rfl rfl (by omega) MZ.out.sz ?_)
        intro v' w' ho' hg'
        obtain ⟨a', c', rfl, _⟩ := ho'.wx
        have hm' : w'.heap[gs + 1]? = some (.cells #[v] 25 (0, 0)) := MS.memkept HV.out HOW.out hg' MZ.out.sz
        obtain ⟨cm', fm'⟩ := one_facts hm'
        have MS' : Hid (MS w gs (w'.setCell ⟨gs + 1, 0, none⟩ (.slice a' (k + 1) c')) g (k + 1) (l ++ [(⟨xt, xn, xl, xh, xa, xp, xs⟩ : Wd)])) := MZ.out.step HG.out hgl HV.out HOW.out hg' ho' HXS.out
        clear ho' hg' hm' HV HOW HZ2 MZ cm fm y0 y1 y2 y3 y4 y5 y6
        go_wp2_with fail
        go_roundw
        case rel => exact ⟨k + 1, by omega, by go_num, l ++ [(⟨xt, xn, xl, xh, xa, xp, xs⟩ : Wd)], MS'⟩
        case measure => simp [intOf]; omega
      · by_cases hh : (n : Int) < xh
        · obtain ⟨y0, y1, y2, y3, y4, y5, y6, _⟩ := row_facts hx5
          have HX5 : Hid _ := hx5
          clear hx5
          go_wp2_with fail
          refine (l2intM (k : Int) w5).mono ?_
          rintro e w6 ⟨rfl, o, rfl⟩
          have M6 : Hid (MS w gs (w5.alloc o) g k l) := M5.out.alloc _
          have hx6 := (alloc_block (o := o) (Array.getElem?_eq_some_iff.1 HX5.out).1).trans HX5.out
          have hfar6 : Hid (∀ v, (w5.alloc o).heap[gs + 1]? = some (.cells #[v] 25 (0, 0)) → v.ownBlock ≠ some gx) := by
            intro v hv
            rw [alloc_block (by have := M5.out.sz; omega)] at hv
            exact hfar5.out v hv
          clear M5 HX5 y0 y1 y2 y3 y4 y5 y6 hfar5
          generalize w5.alloc o = w6 at *
          obtain ⟨z0, z1, z2, z3, z4, z5, z6, q0, q1, q2, q3, q4, q5, q6⟩ := row_facts hx6
          have HX6 : Hid _ := hx6
          clear hx6
          go_upto_region 9 with fail
          have hZ := put7_block (.bool false) (.int .i64 (k : Int)) (.int .i64 0) (.int .i64 0) (.int .i64 0) (.int .i64 0) (.int .i64 0) HX6.out
          have MZ : Hid (MS w gs (put7 w6 gx (.bool false) (.int .i64 (k : Int)) (.int .i64 0) (.int .i64 0) (.int .i64 0) (.int .i64 0) (.int .i64 0)) g k l) := M6.out.over HG.out hgl (put7_grown ..) hgx hfar6.out
          clear M6 HX6 hfar6 z0 z1 z2 z3 z4 z5 z6 q0 q1 q2 q3 q4 q5 q6
          show Code.wp _ _ _ _ (put7 w6 gx (.bool false) (.int .i64 (k : Int)) (.int .i64 0) (.int .i64 0) (.int .i64 0) (.int .i64 0) (.int .i64 0))
          generalize put7 w6 gx (.bool false) (.int .i64 (k : Int)) (.int .i64 0) (.int .i64 0) (.int .i64 0) (.int .i64 0) (.int .i64 0) = w7 at *
          obtain ⟨v, hv, how⟩ := MZ.out.mem
          obtain ⟨cm, fm⟩ := one_facts hv
          obtain ⟨y0, y1, y2, y3, y4, y5, y6, _⟩ := row_facts hZ
          have HZ2 : Hid _ := hZ
          have HV : Hid _ := hv
          have HOW : Hid (OwnW w7 (gs + 2) v k l) := how
          clear hZ hv how
          go_wp2_with (at_builtin; refine wpList_appendW1 rfl _ _ rfl (gs + 2) v k l rfl HOW.out #[.bool false, .int .i64 (k : Int), .int .i64 0, .int .i64 0, .int .i64 0, .int .i64 0, .int .i64 0] (⟨false, (k : Int), 0, 0, 0, 0, 0⟩ : Wd) rfl rfl (by omega) MZ.out.sz ?_)
          intro v' w' ho' hg'
          obtain ⟨a', c', rfl, _⟩ := ho'.wx
          have hm' : w'.heap[gs + 1]? = some (.cells #[v] 25 (0, 0)) := MS.memkept HV.out HOW.out hg' MZ.out.sz
          obtain ⟨cm', fm'⟩ := one_facts hm'
          have MS' : Hid (MS w gs (w'.setCell ⟨gs + 1, 0, none⟩ (.slice a' (k + 1) c')) g (k + 1) (l ++ [(⟨false, (k : Int), 0, 0, 0, 0, 0⟩ : Wd)])) := MZ.out.step HG.out hgl HV.out HOW.out hg' ho' in64_0
          clear ho' hg' hm' HV HOW HZ2 MZ cm fm y0 y1 y2 y3 y4 y5 y6
          go_wp2_with fail
          go_roundw
          case rel => exact ⟨k + 1, by omega, by go_num, l ++ [(⟨false, (k : Int), 0, 0, 0, 0, 0⟩ : Wd)], MS'⟩
          case measure => simp [intOf]; omega
        · have hdec : decide ((n : Int) < xh) = false := by simpa using hh
          clear hh
          have hZ := hx5
          have MZ : Hid (MS w gs w5 g k l) := M5
          clear hx5 M5 hfar5
          obtain ⟨v, hv, how⟩ := MZ.out.mem
          obtain ⟨cm, fm⟩ := one_facts hv
          obtain ⟨y0, y1, y2, y3, y4, y5, y6, _⟩ := row_facts hZ
          have HZ2 : Hid _ := hZ
          have HV : Hid _ := hv
          have HOW : Hid (OwnW w5 (gs + 2) v k l) := how
          clear hZ hv how
          go_wp2_with (at_builtin; refine wpList_appendW1 rfl _ _ rfl (gs + 2) v k l rfl HOW.out #[.bool xt, .int .i64 xn, .int .i64 xl, .int .i64 xh, .int .i64 xa, .int .i64 xp, .int .i64 xs] (⟨xt, xn, xl, xh, xa, xp, xs⟩ : Wd) rfl rfl (by omega) MZ.out.sz ?_)
          intro v' w' ho' hg'
          obtain ⟨a', c', rfl, _⟩ := ho'.wx
          have hm' : w'.heap[gs + 1]? = some (.cells #[v] 25 (0, 0)) := MS.memkept HV.out HOW.out hg' MZ.out.sz
          obtain ⟨cm', fm'⟩ := one_facts hm'
          have MS' : Hid (MS w gs (w'.setCell ⟨gs + 1, 0, none⟩ (.slice a' (k + 1) c')) g (k + 1) (l ++ [(⟨xt, xn, xl, xh, xa, xp, xs⟩ : Wd)])) := MZ.out.step HG.out hgl HV.out HOW.out hg' ho' HXS.out
          clear ho' hg' hm' HV HOW HZ2 MZ cm fm y0 y1 y2 y3 y4 y5 y6
          go_wp2_with fail
          go_roundw
          case rel => exact ⟨k + 1, by omega, by go_num, l ++ [(⟨xt, xn, xl, xh, xa, xp, xs⟩ : Wd)], MS'⟩
          case measure => simp [intOf]; omega
    · have : k = n := by omega
      subst this
      clear hlt
      go_wp2_with fail
      refine (onceM g _ _ MR.out.dr.1 (by omega)).mono ?_
      rintro e w3 ⟨b, rfl, hd3⟩
      have M3 : Hid (MS w gs w3 g k l) := MR.out.drawn hgl hd3
      clear hd3 MR
      obtain ⟨a, c, hF⟩ := M3.out.fs (by omega)
      have F : Hid (FS w gs w3 g a k c l) := hF
      clear hF M3
      cases b
      · obtain ⟨cr, fr⟩ := (one_facts F.out.res)
        obtain ⟨cm, fm⟩ := (one_facts F.out.mem)
        go_wp2_with fail
        obtain ⟨hr, hmd, hdr⟩ := F.out.fin HG.out hgl
        generalize w3.setCell ⟨gs, 0, none⟩ (.slice a k c) = W at hr hmd hdr ⊢
        obtain ⟨d, _⟩ := one_facts hr
        refine bodyPost_ret (v := .agg #[.slice a k c]) (by simp [results, Try.results11, go_sem, d]) rfl ⟨_, _, _, _, rfl, by rw [HG.out]; exact hmd, hdr⟩
      · by_cases hp : 0 < k
        · obtain ⟨gb, rfl, hwx, hbb⟩ := F.out.md.2.2.1 hp
          have hp' : (0 : Int) < (k : Int) := by omega
          clear hwx
          go_upto_region 11 with fail
          have F4 : Hid (FS w gs w3.drew g (some ⟨gb, 0, none⟩) k c l) := F.out.drew
          refine wp_region_held_drew (S := fun wx => wx.cell? ⟨gs + 1, 0, none⟩ = some (.slice (some ⟨gb, 0, none⟩) k c)) (by kernel_rfl) (one_facts F4.out.mem).1 (fun hHeld => ?_)
          generalize w3.drew = w4 at F4 hHeld ⊢
          clear F
          refine wpAnyH_take (i := 0) (oi := ?o501) (v := ?v501) ?i501 (by kernel_rfl) (by kernel_rfl) (by kernel_rfl) ?q501 ?y501 (hHeld) ?r501
          case i501 => exact rfl
          case q501 => exact (fun _ _ _ h => h)
          case y501 =>
            refine Or.inl ⟨by rfl, ?_⟩
            intro w hSw
            (try dsimp only at hSw)
            go_simp
            first | done | rfl
          try simp only [Act.put, List.getElem_toArray, List.getElem_cons_zero, List.getElem_cons_succ, List.setIfInBounds_toArray, List.set_cons_zero, List.set_cons_succ]
          refine wpAnyH_take (i := 1) (oi := ?o502) (v := ?v502) ?i502 (by kernel_rfl) (by kernel_rfl) (by kernel_rfl) ?q502 ?y502 (hHeld) ?r502
          case i502 => exact rfl
          case q502 => exact (fun _ _ _ h => h)
          case y502 =>
            refine Or.inl ⟨by rfl, ?_⟩
            intro w hSw
            (try dsimp only at hSw)
            go_simp
            first | done | rfl
          try simp only [Act.put, List.getElem_toArray, List.getElem_cons_zero, List.getElem_cons_succ, List.setIfInBounds_toArray, List.set_cons_zero, List.set_cons_succ]
          refine wpAnyH_take (i := 2) (oi := ?o503) (v := ?v503) ?i503 (by kernel_rfl) (by kernel_rfl) (by kernel_rfl) ?q503 ?y503 (hHeld) ?r503
          case i503 => exact rfl
          case q503 => exact (fun _ _ _ h => h)
          case y503 =>
            refine Or.inl ⟨by rfl, ?_⟩
            intro w hSw
            (try dsimp only at hSw)
            go_simp
            first | done | rfl
          try simp only [Act.put, List.getElem_toArray, List.getElem_cons_zero, List.getElem_cons_succ, List.setIfInBounds_toArray, List.set_cons_zero, List.set_cons_succ]
          refine wpAnyH_take (i := 3) (oi := ?o504) (v := ?v504) ?i504 (by kernel_rfl) (by kernel_rfl) (by kernel_rfl) ?q504 ?y504 (hHeld) ?r504
          case i504 => exact rfl
          case q504 => exact (fun _ _ _ h => h)
          case y504 =>
            refine Or.inl ⟨by rfl, ?_⟩
            intro w hSw
            (try dsimp only at hSw)
            go_simp
            first | done | rfl
          try simp only [Act.put, List.getElem_toArray, List.getElem_cons_zero, List.getElem_cons_succ, List.setIfInBounds_toArray, List.set_cons_zero, List.set_cons_succ]
          refine wpAnyH_take (i := 5) (oi := ?o505) (v := ?v505) ?i505 (by kernel_rfl) (by kernel_rfl) (by kernel_rfl) ?q505 ?y505 (hHeld) ?r505
          case i505 => exact rfl
          case q505 => exact (fun _ _ _ h => h)
          case y505 =>
            refine Or.inl ⟨by rfl, ?_⟩
            intro w hSw
            (try dsimp only at hSw)
            go_simp
            first | done | rfl
          try simp only [Act.put, List.getElem_toArray, List.getElem_cons_zero, List.getElem_cons_succ, List.setIfInBounds_toArray, List.set_cons_zero, List.set_cons_succ]
          have HC4 : Hid (Cur w4 g) := F4.out.dr.1
          refine wpAnyH_ready (rs := [4]) (by kernel_rfl) (by simp) ?_
          refine AllReadyH.cons (i := 4) (o := ?o506) ?i506 (fun K hK => ?_) AllReadyH.nil
          case i506 => exact rfl
          go_simp
          (with_reducible refine (belowM g _ w4 HC4.out (by omega)).mono ?_)
          rintro e w5 ⟨z, rfl, z0, z1, _, hd5⟩
          replace z1 := z1 hp'
          obtain ⟨j, rfl⟩ := Int.eq_ofNat_of_zero_le z0
          have hj : j < k := by omega
          have F5 : Hid (FS w gs w5 g (some ⟨gb, 0, none⟩) k c l) := F4.out.drawn hgl hd5
          have HC5 : Hid (Cur w5 g) := F5.out.dr.1
          clear hd5 F4 z0 HC4
          go_wp2_with fail
          refine hK.out _ _ ((one_facts F5.out.mem).1) (fun hHeld => ?_)
          clear hK K
          try simp only [Act.put, List.getElem_toArray, List.getElem_cons_zero, List.getElem_cons_succ, List.setIfInBounds_toArray, List.set_cons_zero, List.set_cons_succ]
          refine wpAnyH_ready (rs := [6]) (by kernel_rfl) (by simp) ?_
          refine AllReadyH.cons (i := 6) (o := ?o507) ?i507 (fun K hK => ?_) AllReadyH.nil
          case i507 => exact rfl
          go_simp
          (with_reducible refine (l2bentS g w5 HC5.out).mono ?_)
          rintro e w6 ⟨yt, yn, yl, yh, ya, yp, ys, rfl, hys, hd6⟩
          have F6 : Hid (FS w gs w6 g (some ⟨gb, 0, none⟩) k c l) := F5.out.drawn hgl hd6
          have HYS : Hid (In64 ys) := hys
          clear hd6 F5 hys HC5
          go_wp2_with fail
          refine hK.out _ _ ((one_facts F6.out.mem).1) (fun hHeld => ?_)
          clear hK K
          try simp only [Act.put, List.getElem_toArray, List.getElem_cons_zero, List.getElem_cons_succ, List.setIfInBounds_toArray, List.set_cons_zero, List.set_cons_succ]
          refine wpAnyH_take (i := 7) (oi := ?o508) (v := ?v508) ?i508 (by kernel_rfl) (by kernel_rfl) (by kernel_rfl) ?q508 ?y508 (hHeld) ?r508
          case i508 => exact rfl
          case q508 => exact (fun _ _ _ h => h)
          case y508 =>
            refine Or.inl ⟨by rfl, ?_⟩
            intro w hSw
            (try dsimp only at hSw)
            go_simp
            first | done | rfl
          try simp only [Act.put, List.getElem_toArray, List.getElem_cons_zero, List.getElem_cons_succ, List.setIfInBounds_toArray, List.set_cons_zero, List.set_cons_succ]
          obtain ⟨x, hx⟩ : ∃ x, l[j]? = some x := ⟨_, List.getElem?_eq_getElem (by rw [F6.out.md.1]; exact hj)⟩
          have hwx6 : WX w6 gb l := by
            obtain ⟨gb', e, hw, _⟩ := F6.out.md.2.2.1 hp
            cases e
            exact hw
          obtain ⟨c0, c1, c2, c3, c4, c5, c6⟩ := hwx6.word hx
          have f0 := hwx6.frozen (j * 7)
          have f1 := hwx6.frozen (j * 7 + 1)
          have f2 := hwx6.frozen (j * 7 + 2)
          have f3 := hwx6.frozen (j * 7 + 3)
          have f4 := hwx6.frozen (j * 7 + 4)
          have f5 := hwx6.frozen (j * 7 + 5)
          have f6 := hwx6.frozen (j * 7 + 6)
          have F7 := F6.out.put (y := ⟨yt, yn, yl, yh, ya, yp, ys⟩) HG.out hgl hj HYS.out
          dsimp only at F7
          have F : Hid _ := F7
          clear hx hwx6 F7
          refine wpAnyH_ready (rs := [8]) (by kernel_rfl) (by simp) ?_
          refine AllReadyH.cons (i := 8) (o := ?o509) ?i509 (fun K hK => ?_) AllReadyH.nil
          case i509 => exact rfl
          go_simp
          clear F6 c0 c1 c2 c3 c4 c5 c6 f0 f1 f2 f3 f4 f5 f6
          generalize (((((((w6.setCell ⟨gb, j * 7, none⟩ (.bool yt)).setCell ⟨gb, j * 7 + 1, none⟩ (.int .i64 yn)).setCell ⟨gb, j * 7 + 2, none⟩ (.int .i64 yl)).setCell ⟨gb, j * 7 + 3, none⟩ (.int .i64 yh)).setCell ⟨gb, j * 7 + 4, none⟩ (.int .i64 ya)).setCell ⟨gb, j * 7 + 5, none⟩ (.int .i64 yp)).setCell ⟨gb, j * 7 + 6, none⟩ (.int .i64 ys)) = w7 at *
          refine hK.out _ _ ((one_facts F.out.mem).1) (fun hHeld => ?_)
          clear hK K
          try simp only [Act.put, List.getElem_toArray, List.getElem_cons_zero, List.getElem_cons_succ, List.setIfInBounds_toArray, List.set_cons_zero, List.set_cons_succ]
          refine wpAnyH_done (by kernel_rfl) ?_ _
          obtain ⟨cr, fr⟩ := (one_facts F.out.res)
          obtain ⟨cm, fm⟩ := (one_facts F.out.mem)
          go_wp2_with fail
          obtain ⟨hr, hmd, hdr⟩ := F.out.fin HG.out hgl
          generalize w7.setCell ⟨gs, 0, none⟩ (.slice (some ⟨gb, 0, none⟩) k c) = W at hr hmd hdr ⊢
          obtain ⟨d, _⟩ := one_facts hr
          refine bodyPost_ret (v := .agg #[.slice (some ⟨gb, 0, none⟩) k c]) (by simp [results, Try.results11, go_sem, d]) rfl ⟨_, _, _, _, rfl, by rw [HG.out]; exact hmd, hdr⟩
        · have hdec : decide ((0 : Int) < (k : Int)) = false := by simpa using hp
          obtain ⟨cr, fr⟩ := (one_facts F.out.res)
          obtain ⟨cm, fm⟩ := (one_facts F.out.mem)
          go_wp2_with fail
          obtain ⟨hr, hmd, hdr⟩ := F.out.fin HG.out hgl
          generalize w3.setCell ⟨gs, 0, none⟩ (.slice a k c) = W at hr hmd hdr ⊢
          obtain ⟨d, _⟩ := one_facts hr
          refine bodyPost_ret (v := .agg #[.slice a k c]) (by simp [results, Try.results11, go_sem, d]) rfl ⟨_, _, _, _, rfl, by rw [HG.out]; exact hmd, hdr⟩
end Go.Proofs.Ytjojildjnafgiaa

/- A memory copied by append: a row of words with room behind it; one word of it set. -/
import Derived.Test.YtjojildjnafgiaaMemMark
import Derived.Laws.AppendOwn
import Derived.Deep.Cut
namespace Go.Proofs.Ytjojildjnafgiaa
open Go.RowKit
set_option linter.unusedVariables false
set_option linter.unusedSimpArgs false

/-- Block g: the words l, and room behind them. -/
def WX (w : World) (g : Nat) (l : List Wd) : Prop := ∃ rest, w.heap[g]? = some (.cells (flat l ++ rest).toArray 29 (0, 0))

theorem WX.lt {w : World} {g : Nat} {l : List Wd} (h : WX w g l) : g < w.heap.size := by obtain ⟨r, h⟩ := h; exact (Array.getElem?_eq_some_iff.1 h).1
theorem WX.of {w w' : World} {g : Nat} {l : List Wd} (h : WX w g l) (he : w'.heap[g]? = w.heap[g]?) : WX w' g l := by obtain ⟨r, h⟩ := h; exact ⟨r, he.trans h⟩
theorem WX.row {w : World} {g n : Nat} {l : List Wd} (h : WX w g l) (hn : l.length = n) : WRow w (some ⟨g, 0, none⟩) n l := by
  obtain ⟨r, h⟩ := h
  refine ⟨hn, fun _ => ⟨g, 0, rfl, fun k v hv => ?_⟩⟩
  rw [cell_of_row w g (0 + k) _ _ (0, 0) h]
  have hk := (List.getElem?_eq_some_iff.1 hv).1
  simp only [Nat.zero_add, List.getElem?_toArray]
  rw [List.getElem?_append_left hk, hv]
theorem WX.frozen {w : World} {g : Nat} {l : List Wd} (h : WX w g l) (j : Nat) : w.frozen? ⟨g, j, none⟩ = false := by obtain ⟨r, h⟩ := h; exact frozen_of_row w g j _ _ h
theorem WB.x {w : World} {g : Nat} {l : List Wd} (h : WB w g l) : WX w g l := ⟨[], by rw [List.append_nil]; exact h⟩

theorem flatx_set (l : List Wd) (rest : List Value) (k : Nat) (x : Wd) (hk : k < l.length) :
    ((((((((flat l ++ rest).set (k * 7) (.bool x.t)).set (k * 7 + 1) (.int .i64 x.n)).set (k * 7 + 2) (.int .i64 x.l)).set (k * 7 + 3) (.int .i64 x.h)).set (k * 7 + 4) (.int .i64 x.a)).set (k * 7 + 5) (.int .i64 x.p)).set (k * 7 + 6) (.int .i64 x.s)) = flat (l.set k x) ++ rest := by
  have hf := flat_len l
  rw [← flat_set l k x hk]
  rw [List.set_append_left _ _ (by omega), List.set_append_left _ _ (by simp; omega), List.set_append_left _ _ (by simp; omega), List.set_append_left _ _ (by simp; omega), List.set_append_left _ _ (by simp; omega), List.set_append_left _ _ (by simp; omega), List.set_append_left _ _ (by simp; omega)]

theorem WX.set {w : World} {g k : Nat} {l : List Wd} (h : WX w g l) (x : Wd) (hk : k < l.length) :
    WX (((((((w.setCell ⟨g, k * 7, none⟩ (.bool x.t)).setCell ⟨g, k * 7 + 1, none⟩ (.int .i64 x.n)).setCell ⟨g, k * 7 + 2, none⟩ (.int .i64 x.l)).setCell ⟨g, k * 7 + 3, none⟩ (.int .i64 x.h)).setCell ⟨g, k * 7 + 4, none⟩ (.int .i64 x.a)).setCell ⟨g, k * 7 + 5, none⟩ (.int .i64 x.p)).setCell ⟨g, k * 7 + 6, none⟩ (.int .i64 x.s)) g (l.set k x) := by
  obtain ⟨r, h⟩ := h
  refine ⟨r, ?_⟩
  rw [← flatx_set l r k x hk]
  exact wset _ _ _ _ _ (wset _ _ _ _ _ (wset _ _ _ _ _ (wset _ _ _ _ _ (wset _ _ _ _ _ (wset _ _ _ _ _ (wset _ _ _ _ _ h))))))

theorem WX.word {w : World} {g k : Nat} {l : List Wd} (h : WX w g l) {x : Wd} (hk : l[k]? = some x) :
    w.cell? ⟨g, k * 7, none⟩ = some (.bool x.t) ∧ w.cell? ⟨g, k * 7 + 1, none⟩ = some (.int .i64 x.n) ∧ w.cell? ⟨g, k * 7 + 2, none⟩ = some (.int .i64 x.l) ∧ w.cell? ⟨g, k * 7 + 3, none⟩ = some (.int .i64 x.h) ∧ w.cell? ⟨g, k * 7 + 4, none⟩ = some (.int .i64 x.a) ∧ w.cell? ⟨g, k * 7 + 5, none⟩ = some (.int .i64 x.p) ∧ w.cell? ⟨g, k * 7 + 6, none⟩ = some (.int .i64 x.s) := by
  obtain ⟨r, h⟩ := h
  have hkl := (List.getElem?_eq_some_iff.1 hk).1
  have hf := flat_len l
  have hh : ∀ i, i < 7 → ∀ v, x.vals[i]? = some v → w.cell? ⟨g, k * 7 + i, none⟩ = some v := by
    intro i hi v hv
    rw [cell_of_row w g _ _ _ (0, 0) h]
    simp only [List.getElem?_toArray]
    rw [List.getElem?_append_left (by omega)]
    exact (flat_at l k i hi x hk).trans hv
  exact ⟨hh 0 (by omega) _ rfl, hh 1 (by omega) _ rfl, hh 2 (by omega) _ rfl, hh 3 (by omega) _ rfl, hh 4 (by omega) _ rfl, hh 5 (by omega) _ rfl, hh 6 (by omega) _ rfl⟩

theorem wpList_appendW {w : World} {ops : Array Oper} {rest : List Oper} {o : Oper} {a : Act} {Q : Exit → Act → World → Prop} (hgd : o.guard = none) (s x : Operand)
    (ho : o.op = .call { callee := .builtin .append, args := #[s, x], argTypes := #[23, 23] })
    (h0 : Nat) (hs : a.eval s = .slice (some ⟨h0, 0, none⟩) 0 0) (hblk : w.heap[h0]? = some (.cells #[] 29 (0, 0)))
    (ad : Addr) (n c : Nat) (l : List Wd) (hx : a.eval x = .slice (some ad) n c) (hr : WRow w (some ad) n l) (hn : n ≤ 1048576) (B : Nat) (w0 : World) (hb : Below B w0 w) (hB : B ≤ h0)
    (h : ∀ g cap w', Hid (B ≤ g) → Hid (WX w' g l) → Hid (Below B w0 w') → wpList Try.prog ops Q rest (a.put o.dst (.slice (some ⟨g, 0, none⟩) n cap)) w') : wpList Try.prog ops Q (o :: rest) a w := by
  obtain ⟨i0, hi, hz0, hz1, hz2⟩ := info_parts infoW
  have hlt : h0 < w.heap.size := (Array.getElem?_eq_some_iff.1 hblk).1
  have hown : w.ownsRow B 29 7 (.slice (some ⟨h0, 0, none⟩) 0 0) 0 [] := ⟨rfl, .inr ⟨h0, 0, #[], rfl, hB, hblk, Nat.le_refl _, by unfold maxLen; omega, rfl, rfl⟩⟩
  refine wpList_append_own w hgd s x 23 ho B 29 i0 _ 7 56 Try.underlying23 hi hz0 hz1 hz2 rfl (by decide) _ 0 [] hs hown ad n c (flat l) hx (by rw [flat_len, hr.1]) ?_ (flat_one l) (by unfold maxLen; omega) (by omega) (by omega) ?_
  · intro j u hu
    have hp : 0 < n := by
      have := (List.getElem?_eq_some_iff.1 hu).1
      rw [flat_len, hr.1] at this; omega
    obtain ⟨b, off, e, hc⟩ := hr.2 hp
    cases e
    rw [Addr.add_lit]
    exact hc j u hu
  · intro v' w' ho' hg' hnone
    rcases ho'.2 with ⟨hv, _⟩ | ⟨g, cap, cur, hv, hge, hblk', hnc, hcm, hsz, htk⟩
    · have := (hnone.1 hv).1
      cases this
    · subst hv
      rw [Nat.zero_add] at htk hnc ⊢
      simp only [List.nil_append] at htk
      refine h g cap w' hge ⟨cur.toList.drop (n * 7), ?_⟩ (hb.grown hg' (by omega) (fun k hk => ?_))
      · rw [hblk', ← htk, List.take_append_drop]
      · simp [Value.ownBlock] at hk; omega

theorem two_mem {w w1 wA : World} {m z : Value} (e : wA = (w.alloc (.cells #[m] 25)).alloc (.cells #[z] 25)) (hb : Below wA.heap.size wA w1) :
    w1.heap[w.heap.size]? = some (.cells #[m] 25 (0, 0)) ∧ w1.heap[w.heap.size + 1]? = some (.cells #[z] 25 (0, 0)) ∧ Below w.heap.size w w1 ∧ w.heap.size + 2 ≤ w1.heap.size := by
  have hs := hb.size
  have hsz : wA.heap.size = w.heap.size + 2 := by rw [e]; simp
  have h0 : wA.heap[w.heap.size]? = some (.cells #[m] 25 (0, 0)) := by rw [e, old_block (by simp)]; exact heap_alloc_new w _
  have h1 : wA.heap[w.heap.size + 1]? = some (.cells #[z] 25 (0, 0)) := by
    rw [e]
    have := heap_alloc_new (w.alloc (.cells #[m] 25)) (.cells #[z] 25)
    simpa using this
  have hw : Below w.heap.size w wA := by rw [e]; exact ((Below.refl _ _).alloc (Nat.le_refl _) _).alloc (by simp) _
  exact ⟨(hb.block _ (by omega)).trans h0, (hb.block _ (by omega)).trans h1, hw.trans (hb.mono (by omega)), by omega⟩

end Go.Proofs.Ytjojildjnafgiaa

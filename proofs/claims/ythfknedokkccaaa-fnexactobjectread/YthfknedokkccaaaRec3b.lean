/- A list of records while it is copied, record by record. No function is walked here. -/
import Derived.Test.YthfknedokkccaaaRec3
namespace Go.Proofs.Ythfknedokkccaaa
open Go.RowKit
set_option linter.unusedVariables false

theorem made_flat3 (z : R3) (n : Nat) : (madeCells #[z.x, z.y, z.z] (n * 3)).toList = flat3 (List.replicate n z) := by
  apply List.ext_getElem?
  intro j
  by_cases hj : j < n * 3
  · have h3 : j % 3 < 3 := Nat.mod_lt _ (by omega)
    have e : j = (j / 3) * 3 + j % 3 := by omega
    have hk : (List.replicate n z)[j / 3]? = some z := by rw [List.getElem?_replicate, if_pos (by omega)]
    have := flat3_at (List.replicate n z) (j / 3) (j % 3) h3 z hk
    rw [← e] at this
    rw [this]
    simp only [madeCells, Array.toList_map, List.getElem?_map, Array.toList_range, List.getElem?_range hj, Option.map_some]
    show some (#[z.x, z.y, z.z][j % 3]!) = _
    have : j % 3 = 0 ∨ j % 3 = 1 ∨ j % 3 = 2 := by omega
    rcases this with h | h | h <;> rw [h] <;> rfl
  · rw [List.getElem?_eq_none (by simp [madeCells]; omega), List.getElem?_eq_none (by rw [flat3_len]; simp; omega)]

structure TL (w wr : World) (T : TypeId) (n k : Nat) (zero : R3) (l : List R3) (ds : List D3) : Prop where
  len : l.length = k
  row : wr.ownsRow w.heap.size T 3 (.slice (some ⟨w.heap.size, 0, none⟩) n n) n (flat3 (l ++ (List.replicate n zero).drop k))
  has : ∀ (i : Nat) (r : R3) (d : D3), l[i]? = some r → ds[i]? = some d → Hs wr w.heap.size r d
  bk : Bk w.heap.size wr.heap.size (some w.heap.size :: owners l)
  below : Below w.heap.size w wr

theorem TL.start {w wr : World} {T n : Nat} {zero : R3} {ds : List D3} (h : wr.ownsRow w.heap.size T 3 (.slice (some ⟨w.heap.size, 0, none⟩) n n) n (madeCells #[zero.x, zero.y, zero.z] (n * 3)).toList) (hg : w.grownBy wr none) : TL w wr T n 0 zero [] ds := by
  refine ⟨rfl, ?_, by simp, ?_, (Below.refl _ _).grown hg (Nat.le_refl _) (by intro k hk; cases hk)⟩
  · rw [made_flat3] at h; simpa using h
  · have := (h.lt w.heap.size rfl).2
    exact Bk.one (Nat.le_refl _) this

theorem TL.cells {w wr : World} {T n k : Nat} {zero : R3} {l : List R3} {ds : List D3} (h : TL w wr T n k zero l ds) (hk : k < n) :
    ∃ u0 u1 u2, wr.cell? ⟨w.heap.size, k * 3, none⟩ = some u0 ∧ wr.cell? ⟨w.heap.size, k * 3 + 1, none⟩ = some u1 ∧ wr.cell? ⟨w.heap.size, k * 3 + 2, none⟩ = some u2 ∧
      wr.frozen? ⟨w.heap.size, k * 3, none⟩ = false ∧ wr.frozen? ⟨w.heap.size, k * 3 + 1, none⟩ = false ∧ wr.frozen? ⟨w.heap.size, k * 3 + 2, none⟩ = false := by
  have hl := h.row.1
  have hc : ∀ j, j < n * 3 → ∃ u, wr.cell? ⟨w.heap.size, j, none⟩ = some u := by
    intro j hj
    rw [h.row.cellAt j hj]
    exact ⟨_, List.getElem?_eq_getElem (by omega)⟩
  obtain ⟨u0, h0⟩ := hc (k * 3) (by omega)
  obtain ⟨u1, h1⟩ := hc (k * 3 + 1) (by omega)
  obtain ⟨u2, h2⟩ := hc (k * 3 + 2) (by omega)
  exact ⟨u0, u1, u2, h0, h1, h2, h.row.frozenAt _, h.row.frozenAt _, h.row.frozenAt _⟩

theorem TL.call {w w1 w2 : World} {T n k : Nat} {zero : R3} {l : List R3} {ds : List D3} (h : TL w w1 T n k zero l ds) (hb : Below w1.heap.size w1 w2) : TL w w2 T n k zero l ds :=
  ⟨h.len, ownsRow_below h.row hb, fun i r d h1 h2 => (h.has i r d h1 h2).below hb, h.bk.mono hb.size, h.below.trans (hb.mono h.below.size)⟩

theorem Fd.Has.other {w : World} {base k i : Nat} {v u : Value} {f : Fd} (h : f.Has w base v) (hne : v.ownBlock ≠ some k) : f.Has (w.setCell ⟨k, i, none⟩ u) base v :=
  h.kept (grown_set w k i u) (.inr hne)

theorem Hs.other {w : World} {base k i : Nat} {r : R3} {d : D3} {u : Value} (h : Hs w base r d) (hne : ∀ o ∈ r.owns, o ≠ some k) : Hs (w.setCell ⟨k, i, none⟩ u) base r d :=
  ⟨h.1.other (hne _ (by simp [R3.owns])), h.2.1.other (hne _ (by simp [R3.owns])), h.2.2.other (hne _ (by simp [R3.owns]))⟩

theorem owners_mem {l : List R3} {i : Nat} {r : R3} (h : l[i]? = some r) {o : Option Nat} (ho : o ∈ r.owns) : o ∈ owners l := by
  induction l generalizing i with
  | nil => simp at h
  | cons x l ih =>
    cases i with
    | zero => simp only [List.getElem?_cons_zero, Option.some.injEq] at h; subst h; exact List.mem_append_left _ ho
    | succ i => rw [List.getElem?_cons_succ] at h; exact List.mem_append_right _ (ih h)

theorem Bk.head {lo hi g : Nat} {os : List (Option Nat)} (h : Bk lo hi (some g :: os)) : ∀ o ∈ os, o ≠ some g := by
  intro o ho e
  have := (List.pairwise_cons.1 h.2).1 o ho
  simp only [reduceCtorEq, false_or] at this
  exact this e.symm

theorem TL.step {w w1 w2 : World} {T n k : Nat} {zero : R3} {l : List R3} {ds : List D3} {r : R3} {d : D3} (h : TL w w1 T n k zero l ds) (hk : k < n) (hb : Below w1.heap.size w1 w2) (hd : ds[k]? = some d) (hr : Hs w2 w1.heap.size r d) (hB : Bk w1.heap.size w2.heap.size r.owns) :
    TL w (((w2.setCell ⟨w.heap.size, k * 3, none⟩ r.x).setCell ⟨w.heap.size, k * 3 + 1, none⟩ r.y).setCell ⟨w.heap.size, k * 3 + 2, none⟩ r.z) T n (k + 1) zero (l ++ [r]) ds := by
  have h2 := h.call hb
  have s1 := h.below.size
  have hbk : Bk w.heap.size w2.heap.size (some w.heap.size :: owners (l ++ [r])) := by
    have := h.bk.append hB s1 hb.size
    rw [owners_append]
    simpa [owners] using this
  have hne := hbk.head
  refine ⟨by simp [h.len], ?_, ?_, ?_, ((h2.below.setCell (Nat.le_refl _) _).setCell (Nat.le_refl _) _).setCell (Nat.le_refl _) _⟩
  · have := (((h2.row.stored (k * 3) r.x).1.stored (k * 3 + 1) r.y).1.stored (k * 3 + 2) r.z).1
    rw [flat3_set _ _ _ (by simp [h.len]; omega), take_set3 _ _ _ _ h.len (by simpa using hk)] at this
    exact this
  · intro i r' d' h1 h2'
    have hH : Hs w2 w.heap.size r' d' ∧ ∀ o ∈ r'.owns, o ≠ some w.heap.size := by
      by_cases hi : i < l.length
      · rw [List.getElem?_append_left hi] at h1
        exact ⟨h2.has i r' d' h1 h2', fun o ho => hne o (by rw [owners_append]; exact List.mem_append_left _ (owners_mem h1 ho))⟩
      · have hlt : i < (l ++ [r]).length := (List.getElem?_eq_some_iff.1 h1).1
        have hi2 : i = k := by rw [List.length_append, h.len] at hlt; rw [h.len] at hi; simp at hlt; omega
        subst hi2
        rw [List.getElem?_append_right (by rw [h.len]; exact Nat.le_refl _), h.len, Nat.sub_self] at h1
        simp only [List.getElem?_cons_zero, Option.some.injEq] at h1
        subst h1
        rw [hd] at h2'
        obtain rfl := Option.some.inj h2'
        exact ⟨hr.mono s1, fun o ho => hne o (by rw [owners_append]; exact List.mem_append_right _ (by simpa [owners] using ho))⟩
    exact ((hH.1.other hH.2).other hH.2).other hH.2
  · simpa using hbk

theorem TL.done {w wr : World} {T n : Nat} {zero : R3} {l : List R3} {ds : List D3} (h : TL w wr T n n zero l ds) (hd : ds.length = n) : DOwn wr T w.heap.size (.slice (some ⟨w.heap.size, 0, none⟩) n n) n l ds :=
  ⟨by have := h.row; rwa [List.drop_of_length_le (by simp), List.append_nil] at this, h.len, hd, h.has⟩

theorem DOwn.drow {w : World} {T base n c : Nat} {a : Option Addr} {l : List R3} {ds : List D3} (h : DOwn w T base (.slice a n c) n l ds) : DRow w a n ds ∧ n ≤ c ∧ c ≤ maxLen ∧ (a = none → c = 0) := by
  obtain ⟨a', c', e, h1, h2, h3, h4⟩ := h.shape
  simp only [Value.slice.injEq, true_and] at e
  obtain ⟨rfl, rfl⟩ := e
  exact ⟨h4, h1, h2, h3⟩

theorem infoE : (Try.prog.info? 41).map (fun i => (i.zero, i.size, i.bytes)) = some (some (.agg #[.slice none 0 0, .int .i64 0, .int .i64 0]), 3, 40) := by kernel_rfl
theorem infoM : (Try.prog.info? 43).map (fun i => (i.zero, i.size, i.bytes)) = some (some (.agg #[.slice none 0 0, .slice none 0 0, .int .i64 0]), 3, 56) := by kernel_rfl
def zeroE : R3 := ⟨.slice none 0 0, .int .i64 0, .int .i64 0⟩
def zeroM : R3 := ⟨.slice none 0 0, .slice none 0 0, .int .i64 0⟩
end Go.Proofs.Ythfknedokkccaaa

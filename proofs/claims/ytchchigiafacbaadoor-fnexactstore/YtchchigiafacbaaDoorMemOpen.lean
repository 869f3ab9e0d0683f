/- A memory that came in as an argument: its words, seven cells each. -/
import Derived.Test.YtchchigiafacbaaDoorMem
import Derived.Deep.Slices
import Derived.WideShapes
import Derived.ChangeArms
namespace Go.Proofs.YtchchigiafacbaaDoor
open Go.RowKit Go.WideShapes Go.ChangeShapes
set_option linter.unusedVariables false
set_option maxRecDepth 100000

/-- The six ints of a word are ints. -/
def FitsW (x : Wd) : Prop := (Lit.int .i64 x.n).wf = true ∧ (Lit.int .i64 x.l).wf = true ∧ (Lit.int .i64 x.h).wf = true ∧ (Lit.int .i64 x.a).wf = true ∧ (Lit.int .i64 x.p).wf = true ∧ (Lit.int .i64 x.s).wf = true

instance : Inhabited Wd := ⟨zeroW⟩

theorem open_wd {H : Type} {enc : TypeId × Value → H} {w : World} {base : Nat} {spare : Nat → Bool} {held : Bool} {fuel : Nat} {cs : List Value} {y : DataW H × List MemPlace}
    (h : DataW.trod enc Tryd.prog w base spare held fuel 47 cs = some y) : ∃ x : Wd, cs = x.vals ∧ FitsW x := by
  have ht : Tryd.prog.underlying 47 = some (.struct (Tryd.prog.fieldsOf 47)) := by kernel_rfl
  have hf : Tryd.prog.fieldsOf 47 = #[⟨ "Tag", 4, 0, false, "", "", 0⟩, ⟨ "N", 3, 1, false, "", "", 8⟩, ⟨ "Lo", 3, 2, false, "", "", 16⟩, ⟨ "Hi", 3, 3, false, "", "", 24⟩, ⟨ "At", 3, 4, false, "", "", 32⟩, ⟨ "Perm", 3, 5, false, "", "", 40⟩, ⟨ "Seal", 3, 6, false, "", "", 48⟩] := by kernel_rfl
  have hc : Tryd.prog.cellsOf 47 = 7 := by kernel_rfl
  have c0 : Tryd.prog.cellsOf 4 = 1 := by kernel_rfl
  have c1 : Tryd.prog.cellsOf 3 = 1 := by kernel_rfl
  have ub : Tryd.prog.underlying 4 = some .bool := by kernel_rfl
  have ui : Tryd.prog.underlying 3 = some (.int .i64) := by kernel_rfl
  rw [hf] at ht
  obtain ⟨xs, k, _, _, hlen, hxl, hg⟩ := DataW.trod_struct ht h
  rw [hc] at hlen
  match cs, hlen with
  | [v0, v1, v2, v3, v4, v5, v6], _ =>
    match xs, hxl with
    | [y0, y1, y2, y3, y4, y5, y6], _ =>
      have g0 := hg 0 _ rfl
      have g1 := hg 1 _ rfl
      have g2 := hg 2 _ rfl
      have g3 := hg 3 _ rfl
      have g4 := hg 4 _ rfl
      have g5 := hg 5 _ rfl
      have g6 := hg 6 _ rfl
      simp [c0, c1] at g0 g1 g2 g3 g4 g5 g6
      obtain ⟨t, e0, _⟩ := DataW.trod_bool ub g0
      obtain ⟨n, e1, _, f1⟩ := DataW.trod_int ui g1
      obtain ⟨l, e2, _, f2⟩ := DataW.trod_int ui g2
      obtain ⟨hh, e3, _, f3⟩ := DataW.trod_int ui g3
      obtain ⟨a, e4, _, f4⟩ := DataW.trod_int ui g4
      obtain ⟨p, e5, _, f5⟩ := DataW.trod_int ui g5
      obtain ⟨s, e6, _, f6⟩ := DataW.trod_int ui g6
      simp at e0 e1 e2 e3 e4 e5 e6
      exact ⟨⟨t, n, l, hh, a, p, s⟩, by simp [Wd.vals, e0, e1, e2, e3, e4, e5, e6], f1, f2, f3, f4, f5, f6⟩

theorem flat_cells (X : Nat → Wd) (n j : Nat) (v : Value) (h : (flat ((List.range n).map X))[j]? = some v) : j / 7 < n ∧ (X (j / 7)).vals[j % 7]? = some v := by
  have hj : j < n * 7 := by
    have := (List.getElem?_eq_some_iff.1 h).1
    rw [flat_len] at this; simpa using this
  have hk : ((List.range n).map X)[j / 7]? = some (X (j / 7)) := by simp; exact ⟨j / 7, by rw [List.getElem?_range (by omega)], rfl⟩
  have e : j = (j / 7) * 7 + j % 7 := by omega
  refine ⟨by omega, ?_⟩
  rw [← flat_at _ _ _ (Nat.mod_lt _ (by omega)) _ hk, ← e]
  exact h

theorem open_mem {H : Type} {enc : TypeId × Value → H} {w : World} {base b0 : Nat} {spare : Nat → Bool} {held : Bool} {v : Value} {d : DataW H} {ps : List MemPlace}
    (hv : Value.okWide Tryd.prog w .any b0 46 v) (h : DataW.Trod enc Tryd.prog w base spare held 46 v d ps) :
    ∃ (a : Option Addr) (n c : Nat) (l : List Wd), v = .agg #[.slice a n c] ∧ n ≤ c ∧ c ≤ maxLen ∧ WRow w a n l ∧ ∀ x ∈ l, FitsW x := by
  have ht : Tryd.prog.underlying 46 = some (.struct (Tryd.prog.fieldsOf 46)) := by kernel_rfl
  have hf : Tryd.prog.fieldsOf 46 = #[⟨ "Words", 44, 0, false, "", "", 0⟩] := by kernel_rfl
  have hc : Tryd.prog.cellsOf 46 = 1 := by kernel_rfl
  have hcs : Tryd.prog.cellsOf 44 = 1 := by kernel_rfl
  have hcw : Tryd.prog.cellsOf 47 = 7 := by kernel_rfl
  have us : Tryd.prog.underlying 44 = some (.slice 47) := by kernel_rfl
  simp only [Value.okWide, ht] at hv
  obtain ⟨cs, rfl, hsz, _⟩ := hv
  rw [hc] at hsz
  rw [hf] at ht
  obtain ⟨fuel, h⟩ := h
  obtain ⟨xs, k, _, _, hlen, hxl, hg⟩ := DataW.trod_struct ht h
  obtain ⟨cl⟩ := cs
  match cl, hsz with
  | [v0], _ =>
    match xs, hxl with
    | [y0], _ =>
      have g0 := hg 0 _ rfl
      simp [hcs] at g0
      rcases Deep.open_slice us g0 with ⟨e, _⟩ | ⟨a, len, cap, m, q, D, Pl, e, _, hl, hm, hmm, _, hx⟩
      · simp [Value.cells] at e
        exact ⟨none, 0, 0, [], by rw [e], Nat.le_refl _, by unfold maxLen; omega, ⟨rfl, fun h => absurd h (by omega)⟩, by simp⟩
      · simp [Value.cells] at e
        have hlm : len ≤ m := by rw [hmm]; split <;> omega
        rw [hcw] at hx
        obtain ⟨X, hX⟩ := Deep.choose_lt (α := Wd) (n := len) (p := fun i x => (∀ j, j < 7 → w.cell? (a.add (i * 7 + j)) = x.vals[j]?) ∧ FitsW x) (fun i hi => by
          obtain ⟨cs', h1, h2⟩ := hx i (by omega)
          obtain ⟨x, rfl, hfx⟩ := open_wd h2
          obtain ⟨_, _, hcell⟩ := World.cells?_some h1
          refine ⟨x, fun j hj => ?_, hfx⟩
          have := hcell j hj
          rwa [Deep.add_add] at this)
        refine ⟨some a, len, cap, (List.range len).map X, by rw [e], hl, hm, ⟨by simp, fun hn => ?_⟩, ?_⟩
        · obtain ⟨b, off, spot⟩ := a
          have h0 := (hX 0 hn).1 0 (by omega)
          have hspot : spot = none := by simpa [Addr.add] using World.cell?_spot (show w.cell? _ = some (.bool (X 0).t) from h0)
          subst hspot
          refine ⟨b, off, rfl, fun j v hj => ?_⟩
          obtain ⟨hlt, hjv⟩ := flat_cells X len j v hj
          have := (hX (j / 7) hlt).1 (j % 7) (Nat.mod_lt _ (by omega))
          rw [Addr.add_lit, show j / 7 * 7 + j % 7 = j by omega, hjv] at this
          exact this
        · intro x hx'
          obtain ⟨i, hi, rfl⟩ := List.mem_map.1 hx'
          exact (hX i (List.mem_range.1 hi)).2
end Go.Proofs.YtchchigiafacbaaDoor

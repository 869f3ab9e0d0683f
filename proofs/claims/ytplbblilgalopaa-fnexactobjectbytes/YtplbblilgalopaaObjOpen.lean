/- An object that came in as an argument: what reads there. -/
import Derived.Test.YtplbblilgalopaaObj
import Derived.Deep.Slices
import Derived.WideShapes
import Derived.ChangeArms
import Derived.ChangeSlices
namespace Go.Proofs.Ytplbblilgalopaa
open Go.RowKit Go.WideShapes Go.ChangeShapes
set_option linter.unusedVariables false
set_option maxRecDepth 100000

theorem open_fdb {H : Type} {enc : TypeId × Value → H} {w : World} {base : Nat} {spare : Nat → Bool} {held : Bool} {fuel : Nat} {cs : List Value} {y : DataW H × List MemPlace}
    (h : DataW.trod enc Try.prog w base spare held fuel 22 cs = some y) : ∃ v l, cs = [v] ∧ (Fd.b l).Read w v := by
  have us : Try.prog.underlying 22 = some (.slice 5) := by kernel_rfl
  have ui : Try.prog.underlying 5 = some (.int .u8) := by kernel_rfl
  rcases open_ints us ui (by kernel_rfl) h with ⟨e, _⟩ | ⟨⟨b, off, spot⟩, len, cap, zs, e, _, hl, hm, hz, _, hc, hwf⟩
  · exact ⟨_, [], e, none, 0, rfl, ⟨rfl, by simp, fun h => absurd h (by simp)⟩, by simp, by unfold maxLen; simp, fun _ => rfl⟩
  · have hlz : len ≤ zs.length := by rw [hz]; split <;> omega
    have hlen : (zs.take len).length = len := by rw [List.length_take, Nat.min_eq_left hlz]
    refine ⟨_, zs.take len, e, some ⟨b, off, spot⟩, cap, by rw [hlen], ?_, by rw [hlen]; exact hl, hm, by simp⟩
    rw [hlen]
    refine ⟨hlen, fun x hx => bounds_u8 (hwf x (List.mem_of_mem_take hx)), fun hp => ?_⟩
    have h0 := hc 0 (by omega)
    have hspot : spot = none := by simpa [Addr.add] using World.cell?_spot h0
    subst hspot
    refine ⟨b, off, rfl, fun i hi => ?_⟩
    have := hc i (by omega)
    rw [Addr.add_lit] at this
    rw [this]
    have e : (zs.take len)[i]?.getD 0 = zs.getD i 0 := by simp [List.getD, hi]
    rw [e]

theorem open_fdn {H : Type} {enc : TypeId × Value → H} {w : World} {base : Nat} {spare : Nat → Bool} {held : Bool} {fuel : Nat} {cs : List Value} {y : DataW H × List MemPlace}
    (h : DataW.trod enc Try.prog w base spare held fuel 3 cs = some y) : ∃ v x, cs = [v] ∧ (Fd.n x).Read w v := by
  have ui : Try.prog.underlying 3 = some (.int .i64) := by kernel_rfl
  obtain ⟨n, e, _, f⟩ := DataW.trod_int ui h
  exact ⟨_, n, e, rfl⟩

theorem open_ex {H : Type} {enc : TypeId × Value → H} {w : World} {base : Nat} {spare : Nat → Bool} {held : Bool} {fuel : Nat} {cs : List Value} {y : DataW H × List MemPlace}
    (h : DataW.trod enc Try.prog w base spare held fuel 84 cs = some y) : ∃ (r : R3) (d : D3), cs = r.vals ∧ isE d ∧ Rd w r d := by
  have ht : Try.prog.underlying 84 = some (.struct (Try.prog.fieldsOf 84)) := by kernel_rfl
  have hf : Try.prog.fieldsOf 84 = #[⟨ "Name", 22, 0, false, "", "", 0⟩, ⟨ "Print", 3, 1, false, "", "", 24⟩, ⟨ "At", 3, 2, false, "", "", 32⟩] := by kernel_rfl
  have hc : Try.prog.cellsOf 84 = 3 := by kernel_rfl
  have c0 : Try.prog.cellsOf 22 = 1 := by kernel_rfl
  have c1 : Try.prog.cellsOf 3 = 1 := by kernel_rfl
  rw [hf] at ht
  obtain ⟨xs, k, _, _, hlen, hxl, hg⟩ := DataW.trod_struct ht h
  rw [hc] at hlen
  match cs, hlen with
  | [v0, v1, v2], _ =>
    match xs, hxl with
    | [y0, y1, y2], _ =>
      have g0 := hg 0 _ rfl
      have g1 := hg 1 _ rfl
      have g2 := hg 2 _ rfl
      simp [c0, c1] at g0 g1 g2
      obtain ⟨u0, l, e0, f0⟩ := open_fdb g0
      obtain ⟨u1, p, e1, f1⟩ := open_fdn g1
      obtain ⟨u2, q, e2, f2⟩ := open_fdn g2
      simp at e0 e1 e2
      subst e0 e1 e2
      exact ⟨⟨v0, v1, v2⟩, ⟨.b l, .n p, .n q⟩, rfl, ⟨l, p, q, rfl⟩, f0, f1, f2⟩

theorem open_im {H : Type} {enc : TypeId × Value → H} {w : World} {base : Nat} {spare : Nat → Bool} {held : Bool} {fuel : Nat} {cs : List Value} {y : DataW H × List MemPlace}
    (h : DataW.trod enc Try.prog w base spare held fuel 86 cs = some y) : ∃ (r : R3) (d : D3), cs = r.vals ∧ isM d ∧ Rd w r d := by
  have ht : Try.prog.underlying 86 = some (.struct (Try.prog.fieldsOf 86)) := by kernel_rfl
  have hf : Try.prog.fieldsOf 86 = #[⟨ "Mod", 22, 0, false, "", "", 0⟩, ⟨ "Name", 22, 1, false, "", "", 24⟩, ⟨ "Print", 3, 2, false, "", "", 48⟩] := by kernel_rfl
  have hc : Try.prog.cellsOf 86 = 3 := by kernel_rfl
  have c0 : Try.prog.cellsOf 22 = 1 := by kernel_rfl
  have c1 : Try.prog.cellsOf 3 = 1 := by kernel_rfl
  rw [hf] at ht
  obtain ⟨xs, k, _, _, hlen, hxl, hg⟩ := DataW.trod_struct ht h
  rw [hc] at hlen
  match cs, hlen with
  | [v0, v1, v2], _ =>
    match xs, hxl with
    | [y0, y1, y2], _ =>
      have g0 := hg 0 _ rfl
      have g1 := hg 1 _ rfl
      have g2 := hg 2 _ rfl
      simp [c0, c1] at g0 g1 g2
      obtain ⟨u0, l, e0, f0⟩ := open_fdb g0
      obtain ⟨u1, l2, e1, f1⟩ := open_fdb g1
      obtain ⟨u2, p, e2, f2⟩ := open_fdn g2
      simp at e0 e1 e2
      subst e0 e1 e2
      exact ⟨⟨v0, v1, v2⟩, ⟨.b l, .b l2, .n p⟩, rfl, ⟨l, l2, p, rfl⟩, f0, f1, f2⟩

instance : Inhabited R3 := ⟨⟨.int .i64 0, .int .i64 0, .int .i64 0⟩⟩
instance : Inhabited D3 := ⟨⟨.n 0, .n 0, .n 0⟩⟩

theorem open_recs {H : Type} {enc : TypeId × Value → H} {w : World} {base : Nat} {spare : Nat → Bool} {held : Bool} {fuel : Nat} {cs : List Value} {y : DataW H × List MemPlace} {ST T : TypeId}
    (us : Try.prog.underlying ST = some (.slice T)) (hcw : Try.prog.cellsOf T = 3) (Q : D3 → Prop)
    (hop : ∀ (fuel : Nat) (cs : List Value) (y : DataW H × List MemPlace), DataW.trod enc Try.prog w base spare held fuel T cs = some y → ∃ (r : R3) (d : D3), cs = r.vals ∧ Q d ∧ Rd w r d)
    (h : DataW.trod enc Try.prog w base spare held fuel ST cs = some y) : ∃ v ds, cs = [v] ∧ DV w v ds ∧ ∀ d ∈ ds, Q d := by
  rcases Deep.open_slice us h with ⟨e, _⟩ | ⟨a, len, cap, m, q, D, Pl, e, _, hl, hm, hmm, _, hx⟩
  · exact ⟨_, [], e, ⟨none, 0, rfl, ⟨rfl, [], ⟨rfl, fun h => absurd h (by simp)⟩, by simp⟩, by simp, by unfold maxLen; simp, fun _ => rfl⟩, by simp⟩
  · have hlm : len ≤ m := by rw [hmm]; split <;> omega
    rw [hcw] at hx
    obtain ⟨X, hX⟩ := Deep.choose_lt (α := R3 × D3) (n := len) (p := fun i x => (∀ j, j < 3 → w.cell? (a.add (i * 3 + j)) = x.1.vals[j]?) ∧ Q x.2 ∧ Rd w x.1 x.2) (fun i hi => by
      obtain ⟨cs', h1, h2⟩ := hx i (by omega)
      obtain ⟨r, d, rfl, hq, hr⟩ := hop _ _ _ h2
      obtain ⟨_, _, hcell⟩ := World.cells?_some h1
      refine ⟨(r, d), fun j hj => ?_, hq, hr⟩
      have := hcell j hj
      rwa [Deep.add_add] at this)
    have hlen : ((List.range len).map fun i => (X i).2).length = len := by simp
    refine ⟨_, (List.range len).map fun i => (X i).2, e, ⟨some a, cap, by rw [hlen], ?_, by rw [hlen]; exact hl, hm, by simp⟩, ?_⟩
    · rw [hlen]
      refine ⟨hlen, (List.range len).map fun i => (X i).1, ⟨by simp, fun hp => ?_⟩, fun i r d h1 h2 => ?_⟩
      · obtain ⟨b, off, spot⟩ := a
        have h0 := (hX 0 hp).1 0 (by omega)
        have hspot : spot = none := by simpa [Addr.add] using World.cell?_spot (show w.cell? _ = some (X 0).1.x from h0)
        subst hspot
        refine ⟨b, off, rfl, fun j v hv => ?_⟩
        have hj : j < len * 3 := by
          have := (List.getElem?_eq_some_iff.1 hv).1
          rw [flat3_len] at this; simpa using this
        have hk : ((List.range len).map fun i => (X i).1)[j / 3]? = some (X (j / 3)).1 := by
          rw [List.getElem?_map, List.getElem?_range (by omega)]; rfl
        have e2 : j = (j / 3) * 3 + j % 3 := by omega
        rw [show (flat3 ((List.range len).map fun i => (X i).1))[j]? = (flat3 ((List.range len).map fun i => (X i).1))[(j / 3) * 3 + j % 3]? by rw [← e2], flat3_at _ _ _ (Nat.mod_lt _ (by omega)) _ hk] at hv
        have := (hX (j / 3) (by omega)).1 (j % 3) (Nat.mod_lt _ (by omega))
        rw [Addr.add_lit, ← e2, hv] at this
        exact this
      · have hi : i < len := by have := (List.getElem?_eq_some_iff.1 h1).1; simpa using this
        rw [List.getElem?_map, List.getElem?_range hi] at h1 h2
        simp only [Option.map_some, Option.some.injEq] at h1 h2
        subst h1 h2
        exact (hX i hi).2.2
    · intro d hd
      obtain ⟨i, hi, rfl⟩ := List.mem_map.1 hd
      exact (hX i (List.mem_range.1 hi)).2.1

theorem open_obj {H : Type} {enc : TypeId × Value → H} {w : World} {base b0 : Nat} {spare : Nat → Bool} {held : Bool} {v : Value} {d : DataW H} {ps : List MemPlace}
    (hv : Value.okWide Try.prog w .any b0 26 v) (h : DataW.Trod enc Try.prog w base spare held 26 v d ps) :
    ∃ (o : O5) (b : Ob), v = .agg #[o.x, o.e, o.i, o.d, o.c] ∧ ORead w o b := by
  have ht : Try.prog.underlying 26 = some (.struct (Try.prog.fieldsOf 26)) := by kernel_rfl
  have hf : Try.prog.fieldsOf 26 = #[⟨ "Name", 22, 0, false, "", "", 0⟩, ⟨ "Exports", 23, 1, false, "", "", 24⟩, ⟨ "Imports", 24, 2, false, "", "", 48⟩, ⟨ "Data", 3, 3, false, "", "", 72⟩, ⟨ "Code", 22, 4, false, "", "", 80⟩] := by kernel_rfl
  have hc : Try.prog.cellsOf 26 = 5 := by kernel_rfl
  have c0 : Try.prog.cellsOf 22 = 1 := by kernel_rfl
  have c1 : Try.prog.cellsOf 3 = 1 := by kernel_rfl
  have c2 : Try.prog.cellsOf 23 = 1 := by kernel_rfl
  have c3 : Try.prog.cellsOf 24 = 1 := by kernel_rfl
  simp only [Value.okWide, ht] at hv
  obtain ⟨cs, rfl, hsz, _⟩ := hv
  rw [hc] at hsz
  rw [hf] at ht
  obtain ⟨fuel, h⟩ := h
  obtain ⟨xs, k, _, _, hlen, hxl, hg⟩ := DataW.trod_struct ht h
  obtain ⟨cl⟩ := cs
  match cl, hsz with
  | [v0, v1, v2, v3, v4], _ =>
    match xs, hxl with
    | [y0, y1, y2, y3, y4], _ =>
      have g0 := hg 0 _ rfl
      have g1 := hg 1 _ rfl
      have g2 := hg 2 _ rfl
      have g3 := hg 3 _ rfl
      have g4 := hg 4 _ rfl
      simp [Value.cells, c0, c1, c2, c3] at g0 g1 g2 g3 g4
      obtain ⟨u0, l, e0, f0⟩ := open_fdb g0
      obtain ⟨u1, dE, e1, f1, s1⟩ := open_recs (by kernel_rfl) (by kernel_rfl) isE (fun _ _ _ h => open_ex h) g1
      obtain ⟨u2, dI, e2, f2, s2⟩ := open_recs (by kernel_rfl) (by kernel_rfl) isM (fun _ _ _ h => open_im h) g2
      obtain ⟨u3, x, e3, f3⟩ := open_fdn g3
      obtain ⟨u4, lc, e4, f4⟩ := open_fdb g4
      simp at e0 e1 e2 e3 e4
      subst e0 e1 e2 e3 e4
      exact ⟨⟨v0, v1, v2, v3, v4⟩, ⟨l, dE, dI, x, lc⟩, rfl, ⟨f0, f1, f2, f3, f4, s1, s2⟩⟩
end Go.Proofs.Ytplbblilgalopaa

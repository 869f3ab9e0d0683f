/- Trees that came in as arguments: what reads there. By mktreeopen.py. -/
import Derived.Test.YtpkbeeicffoaoaaTreeSz
import Derived.Deep.Slices
import Derived.WideShapes
import Derived.ChangeArms
import Derived.ChangeSlices
namespace Go.Proofs.Ytpkbeeicffoaoaa
open Go.RowKit Go.WideShapes Go.ChangeShapes
set_option linter.unusedVariables false
set_option linter.unusedSimpArgs false
set_option maxRecDepth 100000

theorem tr_i {H : Type} {enc : TypeId × Value → H} {w : World} {base : Nat} {spare : Nat → Bool} {held : Bool} {fuel : Nat} {cs : List Value} {y : DataW H × List MemPlace}
    (h : DataW.trod enc Try.prog w base spare held fuel 24 cs = some y) : ∃ v l, cs = [v] ∧ (Fl.i l).Rd w v := by
  have us : Try.prog.underlying 24 = some (.slice 3) := by kernel_rfl
  have ui : Try.prog.underlying 3 = some (.int .i64) := by kernel_rfl
  rcases open_ints us ui (by kernel_rfl) h with ⟨e, _⟩ | ⟨⟨b, off, spot⟩, len, cap, zs, e, _, hl, hm, hz, _, hc, hwf⟩
  · exact ⟨_, [], e, none, 0, rfl, ⟨rfl, by simp, fun h => absurd h (by simp)⟩, by simp, by unfold maxLen; simp, fun _ => rfl⟩
  · have hlz : len ≤ zs.length := by rw [hz]; split <;> omega
    have hlen : (zs.take len).length = len := by rw [List.length_take, Nat.min_eq_left hlz]
    refine ⟨_, zs.take len, e, some ⟨b, off, spot⟩, cap, by rw [hlen], ?_, by rw [hlen]; exact hl, hm, by simp⟩
    rw [hlen]
    refine ⟨hlen, fun x hx => bounds_i64 (hwf x (List.mem_of_mem_take hx)), fun hp => ?_⟩
    have h0 := hc 0 (by omega)
    have hspot : spot = none := by simpa [Addr.add] using World.cell?_spot h0
    subst hspot
    refine ⟨b, off, rfl, fun i hi => ?_⟩
    have := hc i (by omega)
    rw [Addr.add_lit] at this
    rw [this]
    have e : (zs.take len)[i]?.getD 0 = zs.getD i 0 := by simp [List.getD, hi]
    rw [e]

theorem tr_n {H : Type} {enc : TypeId × Value → H} {w : World} {base : Nat} {spare : Nat → Bool} {held : Bool} {fuel : Nat} {cs : List Value} {y : DataW H × List MemPlace}
    (h : DataW.trod enc Try.prog w base spare held fuel 3 cs = some y) : ∃ v x, cs = [v] ∧ (Fl.n x).Rd w v := by
  have ui : Try.prog.underlying 3 = some (.int .i64) := by kernel_rfl
  obtain ⟨n, e, _, f⟩ := DataW.trod_int ui h
  exact ⟨_, n, e, rfl⟩

theorem tr_t {H : Type} {enc : TypeId × Value → H} {w : World} {base : Nat} {spare : Nat → Bool} {held : Bool} {fuel : Nat} {cs : List Value} {y : DataW H × List MemPlace}
    (h : DataW.trod enc Try.prog w base spare held fuel 4 cs = some y) : ∃ v x, cs = [v] ∧ (Fl.t x).Rd w v := by
  have ui : Try.prog.underlying 4 = some .bool := by kernel_rfl
  obtain ⟨n, e, _⟩ := DataW.trod_bool ui h
  exact ⟨_, n, e, rfl⟩

theorem rec_of {w : World} {b : Nat} : ∀ {r : List Fl} {vs : List Value} {off : Nat}, RdVals w r vs → (∀ j, j < r.length → w.cell? ⟨b, off + j, none⟩ = vs[j]?) → RdRec w b off r := by
  intro r
  induction r with
  | nil => intro vs off _ _; exact trivial
  | cons f r ih =>
    intro vs off h hc
    obtain ⟨v, us, rfl, h1, h2⟩ := h
    refine ⟨⟨v, by have := hc 0 (by simp); simpa using this, h1⟩, ih h2 fun j hj => ?_⟩
    have := hc (j + 1) (by simpa using hj)
    rw [show off + (j + 1) = off + 1 + j by omega] at this
    simpa using this

theorem rows_of {w : World} {b K : Nat} : ∀ {rs : List (List Fl)} {off : Nat}, (∀ i r, rs[i]? = some r → RdRec w b (off + i * K) r) → RdRows w b K off rs := by
  intro rs
  induction rs with
  | nil => intro off _; exact trivial
  | cons r rs ih =>
    intro off h
    refine ⟨by have := h 0 r rfl; simpa using this, ih fun i r' hr => ?_⟩
    have := h (i + 1) r' (by simpa using hr)
    rw [show off + (i + 1) * K = off + K + i * K by rw [Nat.add_mul]; omega] at this
    exact this

theorem tr_l {H : Type} {enc : TypeId × Value → H} {w : World} {base : Nat} {spare : Nat → Bool} {held : Bool} {fuel : Nat} {cs : List Value} {y : DataW H × List MemPlace} {α : Type} [Inhabited α] (fl : α → List Fl) {ST T K : Nat}
    (us : Try.prog.underlying ST = some (.slice T)) (hcw : Try.prog.cellsOf T = K) (hK : 0 < K) (hfl : ∀ x, (fl x).length = K)
    (hop : ∀ n, n < fuel → ∀ (cs : List Value) (y : DataW H × List MemPlace), DataW.trod enc Try.prog w base spare held n T cs = some y → ∃ x, RdVals w (fl x) cs)
    (h : DataW.trod enc Try.prog w base spare held fuel ST cs = some y) : ∃ (v : Value) (l : List α), cs = [v] ∧ (Fl.l K (l.map fl)).Rd w v := by
  rcases DataW.trod_slice us h with ⟨e, _⟩ | ⟨a, len, cap, elems, rest, n, hfu, e, _, _, hl, hm, hlen, hel, _, _⟩
  · exact ⟨_, [], e, none, 0, rfl, by simp, by unfold maxLen; simp, fun _ => rfl, by simp⟩
  · rw [hcw] at hel
    obtain ⟨X, hX⟩ := Deep.choose_lt (α := α) (n := len) (p := fun i x => ∃ vs, RdVals w (fl x) vs ∧ ∀ j, j < K → w.cell? (a.add (i * K + j)) = vs[j]?) (fun i hi => by
      have h0 := hel i hi
      rw [List.getElem?_eq_getElem (by omega)] at h0
      obtain ⟨cs', h1, h2⟩ := Option.bind_eq_some_iff.1 h0
      obtain ⟨x, hx⟩ := hop n (by omega) _ _ h2
      obtain ⟨_, _, hcell⟩ := World.cells?_some h1
      refine ⟨x, cs', hx, fun j hj => ?_⟩
      have := hcell j hj
      rwa [Deep.add_add] at this)
    have hl2 : ((List.range len).map X).length = len := by simp
    refine ⟨_, (List.range len).map X, e, some a, cap, by simp, by simpa using hl, hm, by simp, fun hp => ?_⟩
    have hp : 0 < len := by simpa using hp
    obtain ⟨b, off, spot⟩ := a
    obtain ⟨vs, hvs, hc0⟩ := hX 0 hp
    have hv0 : ∃ u, vs[0]? = some u := by
      have h1 : 0 < (fl (X 0)).length := by rw [hfl]; exact hK
      match hr : fl (X 0), h1 with
      | f :: r, _ =>
        rw [hr] at hvs
        obtain ⟨v, us, rfl, _, _⟩ := hvs
        exact ⟨v, rfl⟩
    obtain ⟨u, hu⟩ := hv0
    have h0 := hc0 0 hK
    rw [hu] at h0
    have hspot : spot = none := by simpa [Addr.add] using World.cell?_spot h0
    subst hspot
    refine ⟨b, off, rfl, rows_of fun i r hr => ?_⟩
    have hi : i < len := by have := (List.getElem?_eq_some_iff.1 hr).1; simpa using this
    rw [List.getElem?_map, List.getElem?_map, List.getElem?_range hi] at hr
    simp only [Option.map_some, Option.some.injEq] at hr
    subst hr
    obtain ⟨vs, hvs, hcl⟩ := hX i hi
    refine rec_of hvs fun j hj => ?_
    have := hcl j (by rw [← hfl (X i)]; exact hj)
    rw [Addr.add_lit] at this
    rw [Nat.add_assoc]; exact this

instance : Inhabited Ag := ⟨Ag.mk false 0⟩
theorem tr_Arg {H : Type} {enc : TypeId × Value → H} {w : World} {base : Nat} {spare : Nat → Bool} {held : Bool} : ∀ (fuel : Nat) (cs : List Value) (y : DataW H × List MemPlace), DataW.trod enc Try.prog w base spare held fuel 95 cs = some y → ∃ x : Ag, RdVals w x.fl cs := by
  intro fuel
  intro cs y h
  have ht : Try.prog.underlying 95 = some (.struct (Try.prog.fieldsOf 95)) := by kernel_rfl
  have hf : Try.prog.fieldsOf 95 = #[⟨ "Arr", 4, 0, false, "", "", 0⟩, ⟨ "N", 3, 1, false, "", "", 8⟩] := by kernel_rfl
  have hc : Try.prog.cellsOf 95 = 2 := by kernel_rfl
  have c0 : Try.prog.cellsOf 4 = 1 := by kernel_rfl
  have c1 : Try.prog.cellsOf 3 = 1 := by kernel_rfl
  rw [hf] at ht
  obtain ⟨xs, k, hk, _, hlen, hxl, hg⟩ := DataW.trod_struct ht h
  rw [hc] at hlen
  match cs, hlen with
  | [v0, v1], _ =>
    match xs, hxl with
    | [y0, y1], _ =>
      have g0 := hg 0 _ rfl
      have g1 := hg 1 _ rfl
      simp [c0, c1] at g0 g1
      obtain ⟨u0, l0, e0, f0⟩ := tr_t g0
      obtain ⟨u1, l1, e1, f1⟩ := tr_n g1
      simp only [List.cons.injEq, and_true] at e0 e1
      subst e0 e1
      refine ⟨Ag.mk l0 l1, ?_⟩
      simp only [Ag.fl, exs_map, sts_map]
      exact ⟨_, _, rfl, f0, _, _, rfl, f1, rfl⟩

theorem open_Arg {H : Type} {enc : TypeId × Value → H} {w : World} {base b0 : Nat} {spare : Nat → Bool} {held : Bool} {v : Value} {d : DataW H} {ps : List MemPlace}
    (hv : Value.okWide Try.prog w .any b0 95 v) (h : DataW.Trod enc Try.prog w base spare held 95 v d ps) :
    ∃ (x : Ag) (vs : List Value), v = .agg vs.toArray ∧ RdVals w x.fl vs := by
  have ht : Try.prog.underlying 95 = some (.struct (Try.prog.fieldsOf 95)) := by kernel_rfl
  simp only [Value.okWide, ht] at hv
  obtain ⟨cs, rfl, hsz, _⟩ := hv
  obtain ⟨fuel, h⟩ := h
  obtain ⟨x, hx⟩ := tr_Arg fuel _ _ h
  obtain ⟨cl⟩ := cs
  exact ⟨x, cl, rfl, by simpa [Value.cells] using hx⟩

instance : Inhabited Wo := ⟨Wo.mk false 0 0 0 0 0 0⟩
theorem tr_Word {H : Type} {enc : TypeId × Value → H} {w : World} {base : Nat} {spare : Nat → Bool} {held : Bool} : ∀ (fuel : Nat) (cs : List Value) (y : DataW H × List MemPlace), DataW.trod enc Try.prog w base spare held fuel 76 cs = some y → ∃ x : Wo, RdVals w x.fl cs := by
  intro fuel
  intro cs y h
  have ht : Try.prog.underlying 76 = some (.struct (Try.prog.fieldsOf 76)) := by kernel_rfl
  have hf : Try.prog.fieldsOf 76 = #[⟨ "Tag", 4, 0, false, "", "", 0⟩, ⟨ "N", 3, 1, false, "", "", 8⟩, ⟨ "Lo", 3, 2, false, "", "", 16⟩, ⟨ "Hi", 3, 3, false, "", "", 24⟩, ⟨ "At", 3, 4, false, "", "", 32⟩, ⟨ "Perm", 3, 5, false, "", "", 40⟩, ⟨ "Seal", 3, 6, false, "", "", 48⟩] := by kernel_rfl
  have hc : Try.prog.cellsOf 76 = 7 := by kernel_rfl
  have c0 : Try.prog.cellsOf 4 = 1 := by kernel_rfl
  have c1 : Try.prog.cellsOf 3 = 1 := by kernel_rfl
  rw [hf] at ht
  obtain ⟨xs, k, hk, _, hlen, hxl, hg⟩ := DataW.trod_struct ht h
  rw [hc] at hlen
  match cs, hlen with
  | [v0, v1, v2, v3, v4, v5, v6], _ =>
    match xs, hxl with
    | [y0, y1, y2, y3, y4, y5, y6], _ =>
      have g0 := hg 0 _ rfl
      have g1 := hg 1 _ rfl
      have g2 := hg 2 _ rfl
      have g3 := hg 3 _ rfl
      have g4 := hg 4 _ rfl
      have g5 := hg 5 _ rfl
      have g6 := hg 6 _ rfl
      simp [c0, c1] at g0 g1 g2 g3 g4 g5 g6
      obtain ⟨u0, l0, e0, f0⟩ := tr_t g0
      obtain ⟨u1, l1, e1, f1⟩ := tr_n g1
      obtain ⟨u2, l2, e2, f2⟩ := tr_n g2
      obtain ⟨u3, l3, e3, f3⟩ := tr_n g3
      obtain ⟨u4, l4, e4, f4⟩ := tr_n g4
      obtain ⟨u5, l5, e5, f5⟩ := tr_n g5
      obtain ⟨u6, l6, e6, f6⟩ := tr_n g6
      simp only [List.cons.injEq, and_true] at e0 e1 e2 e3 e4 e5 e6
      subst e0 e1 e2 e3 e4 e5 e6
      refine ⟨Wo.mk l0 l1 l2 l3 l4 l5 l6, ?_⟩
      simp only [Wo.fl, exs_map, sts_map]
      exact ⟨_, _, rfl, f0, _, _, rfl, f1, _, _, rfl, f2, _, _, rfl, f3, _, _, rfl, f4, _, _, rfl, f5, _, _, rfl, f6, rfl⟩

theorem open_Word {H : Type} {enc : TypeId × Value → H} {w : World} {base b0 : Nat} {spare : Nat → Bool} {held : Bool} {v : Value} {d : DataW H} {ps : List MemPlace}
    (hv : Value.okWide Try.prog w .any b0 76 v) (h : DataW.Trod enc Try.prog w base spare held 76 v d ps) :
    ∃ (x : Wo) (vs : List Value), v = .agg vs.toArray ∧ RdVals w x.fl vs := by
  have ht : Try.prog.underlying 76 = some (.struct (Try.prog.fieldsOf 76)) := by kernel_rfl
  simp only [Value.okWide, ht] at hv
  obtain ⟨cs, rfl, hsz, _⟩ := hv
  obtain ⟨fuel, h⟩ := h
  obtain ⟨x, hx⟩ := tr_Word fuel _ _ h
  obtain ⟨cl⟩ := cs
  exact ⟨x, cl, rfl, by simpa [Value.cells] using hx⟩

instance : Inhabited Ev := ⟨Ev.mk 0 0 0 0 [] 0⟩
theorem tr_Event {H : Type} {enc : TypeId × Value → H} {w : World} {base : Nat} {spare : Nat → Bool} {held : Bool} : ∀ (fuel : Nat) (cs : List Value) (y : DataW H × List MemPlace), DataW.trod enc Try.prog w base spare held fuel 71 cs = some y → ∃ x : Ev, RdVals w x.fl cs := by
  intro fuel
  intro cs y h
  have ht : Try.prog.underlying 71 = some (.struct (Try.prog.fieldsOf 71)) := by kernel_rfl
  have hf : Try.prog.fieldsOf 71 = #[⟨ "Kind", 3, 0, false, "", "", 0⟩, ⟨ "From", 3, 1, false, "", "", 8⟩, ⟨ "To", 3, 2, false, "", "", 16⟩, ⟨ "Proc", 3, 3, false, "", "", 24⟩, ⟨ "Args", 69, 4, false, "", "", 32⟩, ⟨ "N", 3, 5, false, "", "", 56⟩] := by kernel_rfl
  have hc : Try.prog.cellsOf 71 = 6 := by kernel_rfl
  have c0 : Try.prog.cellsOf 3 = 1 := by kernel_rfl
  have c1 : Try.prog.cellsOf 69 = 1 := by kernel_rfl
  rw [hf] at ht
  obtain ⟨xs, k, hk, _, hlen, hxl, hg⟩ := DataW.trod_struct ht h
  rw [hc] at hlen
  match cs, hlen with
  | [v0, v1, v2, v3, v4, v5], _ =>
    match xs, hxl with
    | [y0, y1, y2, y3, y4, y5], _ =>
      have g0 := hg 0 _ rfl
      have g1 := hg 1 _ rfl
      have g2 := hg 2 _ rfl
      have g3 := hg 3 _ rfl
      have g4 := hg 4 _ rfl
      have g5 := hg 5 _ rfl
      simp [c0, c1] at g0 g1 g2 g3 g4 g5
      obtain ⟨u0, l0, e0, f0⟩ := tr_n g0
      obtain ⟨u1, l1, e1, f1⟩ := tr_n g1
      obtain ⟨u2, l2, e2, f2⟩ := tr_n g2
      obtain ⟨u3, l3, e3, f3⟩ := tr_n g3
      obtain ⟨u4, l4, e4, f4⟩ := tr_l (K := 2) Ag.fl (by kernel_rfl) (by kernel_rfl) (by omega) (fun x => by rfl) (fun n hn cs y h => tr_Arg n cs y h) g4
      obtain ⟨u5, l5, e5, f5⟩ := tr_n g5
      simp only [List.cons.injEq, and_true] at e0 e1 e2 e3 e4 e5
      subst e0 e1 e2 e3 e4 e5
      refine ⟨Ev.mk l0 l1 l2 l3 l4 l5, ?_⟩
      simp only [Ev.fl, exs_map, sts_map]
      exact ⟨_, _, rfl, f0, _, _, rfl, f1, _, _, rfl, f2, _, _, rfl, f3, _, _, rfl, f4, _, _, rfl, f5, rfl⟩

theorem open_Event {H : Type} {enc : TypeId × Value → H} {w : World} {base b0 : Nat} {spare : Nat → Bool} {held : Bool} {v : Value} {d : DataW H} {ps : List MemPlace}
    (hv : Value.okWide Try.prog w .any b0 71 v) (h : DataW.Trod enc Try.prog w base spare held 71 v d ps) :
    ∃ (x : Ev) (vs : List Value), v = .agg vs.toArray ∧ RdVals w x.fl vs := by
  have ht : Try.prog.underlying 71 = some (.struct (Try.prog.fieldsOf 71)) := by kernel_rfl
  simp only [Value.okWide, ht] at hv
  obtain ⟨cs, rfl, hsz, _⟩ := hv
  obtain ⟨fuel, h⟩ := h
  obtain ⟨x, hx⟩ := tr_Event fuel _ _ h
  obtain ⟨cl⟩ := cs
  exact ⟨x, cl, rfl, by simpa [Value.cells] using hx⟩

instance : Inhabited Rs := ⟨Rs.mk 0 0 0 0 0 0 [] [] [] [] []⟩
theorem tr_Result {H : Type} {enc : TypeId × Value → H} {w : World} {base : Nat} {spare : Nat → Bool} {held : Bool} : ∀ (fuel : Nat) (cs : List Value) (y : DataW H × List MemPlace), DataW.trod enc Try.prog w base spare held fuel 26 cs = some y → ∃ x : Rs, RdVals w x.fl cs := by
  intro fuel
  intro cs y h
  have ht : Try.prog.underlying 26 = some (.struct (Try.prog.fieldsOf 26)) := by kernel_rfl
  have hf : Try.prog.fieldsOf 26 = #[⟨ "End", 3, 0, false, "", "", 0⟩, ⟨ "Code", 3, 1, false, "", "", 8⟩, ⟨ "Who", 3, 2, false, "", "", 16⟩, ⟨ "Mod", 3, 3, false, "", "", 24⟩, ⟨ "Low", 3, 4, false, "", "", 32⟩, ⟨ "Steps", 3, 5, false, "", "", 40⟩, ⟨ "Events", 22, 6, false, "", "", 48⟩, ⟨ "Regs", 23, 7, false, "", "", 72⟩, ⟨ "Words", 23, 8, false, "", "", 96⟩, ⟨ "Wrote", 24, 9, false, "", "", 120⟩, ⟨ "Read", 24, 10, false, "", "", 144⟩] := by kernel_rfl
  have hc : Try.prog.cellsOf 26 = 11 := by kernel_rfl
  have c0 : Try.prog.cellsOf 3 = 1 := by kernel_rfl
  have c1 : Try.prog.cellsOf 22 = 1 := by kernel_rfl
  have c2 : Try.prog.cellsOf 23 = 1 := by kernel_rfl
  have c3 : Try.prog.cellsOf 24 = 1 := by kernel_rfl
  rw [hf] at ht
  obtain ⟨xs, k, hk, _, hlen, hxl, hg⟩ := DataW.trod_struct ht h
  rw [hc] at hlen
  match cs, hlen with
  | [v0, v1, v2, v3, v4, v5, v6, v7, v8, v9, v10], _ =>
    match xs, hxl with
    | [y0, y1, y2, y3, y4, y5, y6, y7, y8, y9, y10], _ =>
      have g0 := hg 0 _ rfl
      have g1 := hg 1 _ rfl
      have g2 := hg 2 _ rfl
      have g3 := hg 3 _ rfl
      have g4 := hg 4 _ rfl
      have g5 := hg 5 _ rfl
      have g6 := hg 6 _ rfl
      have g7 := hg 7 _ rfl
      have g8 := hg 8 _ rfl
      have g9 := hg 9 _ rfl
      have g10 := hg 10 _ rfl
      simp [c0, c1, c2, c3] at g0 g1 g2 g3 g4 g5 g6 g7 g8 g9 g10
      obtain ⟨u0, l0, e0, f0⟩ := tr_n g0
      obtain ⟨u1, l1, e1, f1⟩ := tr_n g1
      obtain ⟨u2, l2, e2, f2⟩ := tr_n g2
      obtain ⟨u3, l3, e3, f3⟩ := tr_n g3
      obtain ⟨u4, l4, e4, f4⟩ := tr_n g4
      obtain ⟨u5, l5, e5, f5⟩ := tr_n g5
      obtain ⟨u6, l6, e6, f6⟩ := tr_l (K := 6) Ev.fl (by kernel_rfl) (by kernel_rfl) (by omega) (fun x => by rfl) (fun n hn cs y h => tr_Event n cs y h) g6
      obtain ⟨u7, l7, e7, f7⟩ := tr_l (K := 7) Wo.fl (by kernel_rfl) (by kernel_rfl) (by omega) (fun x => by rfl) (fun n hn cs y h => tr_Word n cs y h) g7
      obtain ⟨u8, l8, e8, f8⟩ := tr_l (K := 7) Wo.fl (by kernel_rfl) (by kernel_rfl) (by omega) (fun x => by rfl) (fun n hn cs y h => tr_Word n cs y h) g8
      obtain ⟨u9, l9, e9, f9⟩ := tr_i g9
      obtain ⟨u10, l10, e10, f10⟩ := tr_i g10
      simp only [List.cons.injEq, and_true] at e0 e1 e2 e3 e4 e5 e6 e7 e8 e9 e10
      subst e0 e1 e2 e3 e4 e5 e6 e7 e8 e9 e10
      refine ⟨Rs.mk l0 l1 l2 l3 l4 l5 l6 l7 l8 l9 l10, ?_⟩
      simp only [Rs.fl, exs_map, sts_map]
      exact ⟨_, _, rfl, f0, _, _, rfl, f1, _, _, rfl, f2, _, _, rfl, f3, _, _, rfl, f4, _, _, rfl, f5, _, _, rfl, f6, _, _, rfl, f7, _, _, rfl, f8, _, _, rfl, f9, _, _, rfl, f10, rfl⟩

theorem open_Result {H : Type} {enc : TypeId × Value → H} {w : World} {base b0 : Nat} {spare : Nat → Bool} {held : Bool} {v : Value} {d : DataW H} {ps : List MemPlace}
    (hv : Value.okWide Try.prog w .any b0 26 v) (h : DataW.Trod enc Try.prog w base spare held 26 v d ps) :
    ∃ (x : Rs) (vs : List Value), v = .agg vs.toArray ∧ RdVals w x.fl vs := by
  have ht : Try.prog.underlying 26 = some (.struct (Try.prog.fieldsOf 26)) := by kernel_rfl
  simp only [Value.okWide, ht] at hv
  obtain ⟨cs, rfl, hsz, _⟩ := hv
  obtain ⟨fuel, h⟩ := h
  obtain ⟨x, hx⟩ := tr_Result fuel _ _ h
  obtain ⟨cl⟩ := cs
  exact ⟨x, cl, rfl, by simpa [Value.cells] using hx⟩

end Go.Proofs.Ytpkbeeicffoaoaa

/- Faces of one's own, made piece by piece: every piece in a block of its own, the pieces of one record behind those of the records ahead. No function is walked here. -/
import Derived.Test.YtajnfknldofjlaaGreatDoorAll
import Derived.Test.YtajnfknldofjlaaGreatDoorTreeTo2
namespace Go.Proofs.YtajnfknldofjlaaGreatDoor
open Go.RowKit
set_option linter.unusedVariables false

theorem owns_type {w : World} {T base n k g : Nat} {v : Value} {xs : List Value} (h : w.ownsRow base T k v n xs) (hg : v.ownBlock = some g) : ∃ cur, w.heap[g]? = some (.cells cur T (0, 0)) := by
  rcases h.2 with ⟨e, _⟩ | ⟨g', cap, cur, hv, _, hh, _⟩
  · rw [e] at hg; cases hg
  · rw [hv] at hg
    simp only [Value.ownBlock, Option.some.injEq] at hg
    subst hg
    exact ⟨cur, hh⟩
theorem owns_stays {w w' : World} {T base n k : Nat} {v : Value} {xs : List Value} (h : w.ownsRow base T k v n xs) (hs : ∀ g, v.ownBlock = some g → w'.heap[g]? = w.heap[g]?) : w'.ownsRow base T k v n xs := by
  refine ⟨h.1, ?_⟩
  rcases h.2 with hn | ⟨g, cap, cur, hv, hg, hh, r⟩
  · exact .inl hn
  · exact .inr ⟨g, cap, cur, hv, hg, by rw [hs g (by rw [hv]; rfl)]; exact hh, r⟩
theorem owns_mono {w : World} {T base base' n k : Nat} {v : Value} {xs : List Value} (h : w.ownsRow base T k v n xs) (hb : base' ≤ base) : w.ownsRow base' T k v n xs := by
  refine ⟨h.1, ?_⟩
  rcases h.2 with hn | ⟨g, cap, cur, hv, hg, r⟩
  · exact .inl hn
  · exact .inr ⟨g, cap, cur, hv, by omega, r⟩
theorem owns_shape {w : World} {T base n k : Nat} {v : Value} {xs : List Value} (h : w.ownsRow base T k v n xs) : ∃ a c, v = .slice a n c ∧ n ≤ c ∧ c ≤ maxLen ∧ (a = none → c = 0) ∧ (0 < n → ∃ g, a = some ⟨g, 0, none⟩) := by
  rcases h.2 with ⟨rfl, rfl⟩ | ⟨g, cap, cur, rfl, hg, hh, hnc, hcm, hs, ht⟩
  · exact ⟨none, 0, rfl, by omega, by simp, fun _ => rfl, by omega⟩
  · exact ⟨_, cap, rfl, hnc, hcm, by simp, fun _ => ⟨g, rfl⟩⟩

/-- Cells of one's own (of type T), in a block from lo up to hi. -/
structure Ob (w : World) (T : TypeId) (lo hi : Nat) (v : Value) (n : Nat) (xs : List Value) : Prop where
  own : w.ownsRow lo T 1 v n xs
  lt : ∀ k, v.ownBlock = some k → k < hi

theorem Ob.stays {w w' : World} {T lo hi n : Nat} {v : Value} {xs : List Value} (h : Ob w T lo hi v n xs) (hs : ∀ g, lo ≤ g → g < hi → (∃ cur, w.heap[g]? = some (.cells cur T (0, 0))) → w'.heap[g]? = w.heap[g]?) : Ob w' T lo hi v n xs :=
  ⟨owns_stays h.own fun g hg => hs g (h.own.lt g hg).1 (h.lt g hg) (owns_type h.own hg), h.lt⟩
theorem Ob.wide {w : World} {T lo hi lo' hi' n : Nat} {v : Value} {xs : List Value} (h : Ob w T lo hi v n xs) (a : lo' ≤ lo) (b : hi ≤ hi') : Ob w T lo' hi' v n xs :=
  ⟨owns_mono h.own a, fun k hk => Nat.lt_of_lt_of_le (h.lt k hk) b⟩

def bV (l : List Int) : List Value := l.map (Value.int .u8)
def iV (l : List Int) : List Value := l.map (Value.int .i64)
def isB (l : List Int) : Prop := ∀ x ∈ l, 0 ≤ x ∧ x ≤ 255
def isI (l : List Int) : Prop := ∀ x ∈ l, -9223372036854775808 ≤ x ∧ x ≤ 9223372036854775807

/-- The records' own pieces. -/
def Fps (w : World) : Nat → Nat → List (Value × Value) → List Fp → Prop
  | lo, hi, [], ds => ds = []
  | lo, hi, x :: l, ds => ∃ d ds' m1 m2, ds = d :: ds' ∧ lo ≤ m1 ∧ m1 ≤ m2 ∧ m2 ≤ hi ∧ Ob w 5 lo m1 x.1 d.name.length (bV d.name) ∧ isB d.name ∧ Ob w 3 m1 m2 x.2 d.kinds.length (iV d.kinds) ∧ isI d.kinds ∧ Fps w m2 hi l ds'

/-- What stays: blocks from lo up to hi that are of bytes or of ints. -/
def StaysP (lo hi : Nat) (w w' : World) : Prop := ∀ g, lo ≤ g → g < hi → ((∃ cur, w.heap[g]? = some (.cells cur 5 (0, 0))) ∨ (∃ cur, w.heap[g]? = some (.cells cur 3 (0, 0)))) → w'.heap[g]? = w.heap[g]?
theorem StaysP.mono {lo hi lo' hi' : Nat} {w w' : World} (h : StaysP lo hi w w') (a : lo ≤ lo') (b : hi' ≤ hi) : StaysP lo' hi' w w' := fun g h1 h2 h3 => h g (by omega) (by omega) h3
theorem StaysP.of {lo hi : Nat} {w w' : World} (h : Stays lo hi w w') : StaysP lo hi w w' := fun g h1 h2 _ => h g h1 h2

theorem Fps.stays {w w' : World} : ∀ {l : List (Value × Value)} {lo hi : Nat} {ds : List Fp}, Fps w lo hi l ds → StaysP lo hi w w' → Fps w' lo hi l ds := by
  intro l
  induction l with
  | nil => intro lo hi ds h _; exact h
  | cons x l ih =>
    intro lo hi ds h hs
    obtain ⟨d, ds', m1, m2, rfl, a, b, c, h1, hb, h2, hi', h3⟩ := h
    exact ⟨d, ds', m1, m2, rfl, a, b, c, h1.stays (fun g p q r => hs g p (by omega) (.inl r)), hb, h2.stays (fun g p q r => hs g (by omega) (by omega) (.inr r)), hi', ih h3 (hs.mono (by omega) (Nat.le_refl _))⟩

theorem Fps.wide {w : World} : ∀ {l : List (Value × Value)} {lo hi lo' hi' : Nat} {ds : List Fp}, Fps w lo hi l ds → lo' ≤ lo → hi ≤ hi' → Fps w lo' hi' l ds := by
  intro l
  induction l with
  | nil => intro lo hi lo' hi' ds h _ _; exact h
  | cons x l ih =>
    intro lo hi lo' hi' ds h p q
    obtain ⟨d, ds', m1, m2, rfl, a, b, c, h1, hb, h2, hi', h3⟩ := h
    exact ⟨d, ds', m1, m2, rfl, by omega, b, by omega, h1.wide p (Nat.le_refl _), hb, h2, hi', ih h3 (Nat.le_refl _) q⟩

theorem Fps.len {w : World} : ∀ {l : List (Value × Value)} {lo hi : Nat} {ds : List Fp}, Fps w lo hi l ds → l.length = ds.length := by
  intro l
  induction l with
  | nil => intro lo hi ds h; rw [show ds = [] from h]; rfl
  | cons x l ih =>
    intro lo hi ds h
    obtain ⟨d, ds', m1, m2, rfl, a, b, c, h1, hb, h2, hi', h3⟩ := h
    simp [ih h3]

/-- One record more. -/
theorem Fps.snoc {w : World} : ∀ {l : List (Value × Value)} {lo mid m1 m2 : Nat} {ds : List Fp} {x : Value × Value} {d : Fp}, Fps w lo mid l ds → lo ≤ mid → mid ≤ m1 → m1 ≤ m2 → Ob w 5 mid m1 x.1 d.name.length (bV d.name) → isB d.name → Ob w 3 m1 m2 x.2 d.kinds.length (iV d.kinds) → isI d.kinds → Fps w lo m2 (l ++ [x]) (ds ++ [d]) := by
  intro l
  induction l with
  | nil =>
    intro lo mid m1 m2 ds x d h p q r h1 hb h2 hi
    rw [show ds = [] from h]
    exact ⟨d, [], m1, m2, rfl, by omega, r, Nat.le_refl _, h1.wide p (Nat.le_refl _), hb, h2, hi, rfl⟩
  | cons y l ih =>
    intro lo mid m1 m2 ds x d h p q r h1 hb h2 hi
    obtain ⟨d0, ds', k1, k2, rfl, a, b, c, e1, eb, e2, ei, e3⟩ := h
    exact ⟨d0, ds' ++ [d], k1, k2, rfl, a, b, by omega, e1, eb, e2, ei, ih e3 c q r h1 hb h2 hi⟩

/-- Parted at a record. -/
theorem Fps.part {w : World} : ∀ {l : List (Value × Value)} {lo hi : Nat} {ds : List Fp} (j : Nat), Fps w lo hi l ds → lo ≤ hi → ∃ mid, lo ≤ mid ∧ mid ≤ hi ∧ Fps w lo mid (l.take j) (ds.take j) ∧ Fps w mid hi (l.drop j) (ds.drop j) := by
  intro l
  induction l with
  | nil =>
    intro lo hi ds j h p
    rw [show ds = [] from h]
    exact ⟨lo, Nat.le_refl _, p, by simp [Fps], by simp [Fps]⟩
  | cons y l ih =>
    intro lo hi ds j h p
    cases j with
    | zero => exact ⟨lo, Nat.le_refl _, p, by simp [Fps], by simpa using h⟩
    | succ j =>
      obtain ⟨d0, ds', k1, k2, rfl, a, b, c, e1, eb, e2, ei, e3⟩ := h
      obtain ⟨mid, h1, h2, h3, h4⟩ := ih j e3 c
      exact ⟨mid, by omega, h2, ⟨d0, ds'.take j, k1, k2, rfl, a, b, h1, e1, eb, e2, ei, h3⟩, by simpa using h4⟩

def flat2 : List (Value × Value) → List Value
  | [] => []
  | x :: l => x.1 :: x.2 :: flat2 l
theorem flat2_append (l m : List (Value × Value)) : flat2 (l ++ m) = flat2 l ++ flat2 m := by
  induction l with
  | nil => rfl
  | cons x l ih => simp [flat2, ih]
theorem flat2_len (l : List (Value × Value)) : (flat2 l).length = l.length * 2 := by
  induction l with
  | nil => rfl
  | cons x l ih => simp [flat2, ih]; omega
theorem flat2_at : ∀ {l : List (Value × Value)} {j : Nat} {x : Value × Value}, l[j]? = some x → (flat2 l)[j * 2]? = some x.1 ∧ (flat2 l)[j * 2 + 1]? = some x.2 := by
  intro l
  induction l with
  | nil => intro j x h; simp at h
  | cons y l ih =>
    intro j x h
    cases j with
    | zero => simp only [List.getElem?_cons_zero, Option.some.injEq] at h; subst h; exact ⟨rfl, rfl⟩
    | succ j =>
      rw [List.getElem?_cons_succ] at h
      rw [show (j + 1) * 2 = j * 2 + 1 + 1 by omega]
      exact ih h

theorem Ob.brow {w : World} {lo hi : Nat} {v : Value} {l : List Int} (h : Ob w 5 lo hi v l.length (bV l)) (hb : isB l) : (Fl.b l).Rd w v := by
  obtain ⟨a, c, rfl, h1, h2, h3, _⟩ := owns_shape h.own
  exact ⟨a, c, rfl, Own.row (base := lo) ⟨h.own, hb⟩, h1, h2, h3⟩
theorem Ob.irow {w : World} {lo hi : Nat} {v : Value} {l : List Int} (h : Ob w 3 lo hi v l.length (iV l)) (hb : isI l) : (Fl.i l).Rd w v := by
  have ho : IOwn w lo v l.length l := ⟨h.own, hb⟩
  obtain ⟨a, c, rfl, h1, h2, h3, _⟩ := owns_shape h.own
  obtain ⟨a', c', e, _, _, hr, _⟩ := ho.shape
  simp only [Value.slice.injEq, true_and] at e
  obtain ⟨rfl, rfl⟩ := e
  exact ⟨a, c, rfl, hr, h1, h2, h3⟩

theorem Fps.rows {w : World} {g : Nat} : ∀ {l : List (Value × Value)} {lo hi off : Nat} {ds : List Fp}, Fps w lo hi l ds → (∀ i v, (flat2 l)[i]? = some v → w.cell? ⟨g, off + i, none⟩ = some v) → RdRows w g 2 off (ds.map Fp.fl) := by
  intro l
  induction l with
  | nil => intro lo hi off ds h _; rw [show ds = [] from h]; exact trivial
  | cons x l ih =>
    intro lo hi off ds h hc
    obtain ⟨d, ds', m1, m2, rfl, a, b, c, h1, hb, h2, hi', h3⟩ := h
    refine ⟨⟨⟨x.1, hc 0 _ rfl, h1.brow hb⟩, ⟨x.2, hc 1 _ rfl, h2.irow hi'⟩, trivial⟩, ih h3 fun i v hv => ?_⟩
    have := hc (i + 2) v (by simpa [flat2] using hv)
    rw [show off + (i + 2) = off + 2 + i by omega] at this
    exact this

/-- A face of one's own. -/
structure Fg (w : World) (lo hi : Nat) (nv pv : Value) (l : List (Value × Value)) (f : Fa) : Prop where
  name : ∃ m, lo ≤ m ∧ m ≤ hi ∧ Ob w 5 lo m nv f.name.length (bV f.name) ∧ isB f.name ∧ Fps w m hi l f.procs
  row : w.ownsRow lo 90 2 pv f.procs.length (flat2 l)
  lt : ∀ k, pv.ownBlock = some k → k < hi

theorem Fg.stays {w w' : World} {lo hi : Nat} {nv pv : Value} {l : List (Value × Value)} {f : Fa} (h : Fg w lo hi nv pv l f) (hs : Stays lo hi w w') : Fg w' lo hi nv pv l f := by
  obtain ⟨m, a, b, h1, hb, h2⟩ := h.name
  exact ⟨⟨m, a, b, h1.stays (fun g p q _ => hs g p (by omega)), hb, h2.stays (StaysP.of (hs.mono a (Nat.le_refl _)))⟩, owns_stays h.row (fun g hg => hs g (h.row.lt g hg).1 (h.lt g hg)), h.lt⟩
theorem Fg.wide {w : World} {lo hi lo' hi' : Nat} {nv pv : Value} {l : List (Value × Value)} {f : Fa} (h : Fg w lo hi nv pv l f) (p : lo' ≤ lo) (q : hi ≤ hi') : Fg w lo' hi' nv pv l f := by
  obtain ⟨m, a, b, h1, hb, h2⟩ := h.name
  exact ⟨⟨m, by omega, by omega, h1.wide p (Nat.le_refl _), hb, h2.wide (Nat.le_refl _) q⟩, owns_mono h.row p, fun k hk => Nat.lt_of_lt_of_le (h.lt k hk) q⟩

theorem owns_cells {w : World} {T base n k g c : Nat} {xs : List Value} (h : w.ownsRow base T k (.slice (some ⟨g, 0, none⟩) n c) n xs) : ∀ i v, xs[i]? = some v → w.cell? ⟨g, i, none⟩ = some v := by
  intro i v hv
  have hi := (List.getElem?_eq_some_iff.1 hv).1
  rw [h.cellAt i (by have := h.1; omega)]
  exact hv

theorem Fg.rdp {w : World} {lo hi : Nat} {nv pv : Value} {l : List (Value × Value)} {f : Fa} (h : Fg w lo hi nv pv l f) : (Fl.l 2 (f.procs.map Fp.fl)).Rd w pv := by
  obtain ⟨m, _, _, _, _, h2⟩ := h.name
  have hrow := h.row
  obtain ⟨a, c, rfl, h3, h4, h5, h6⟩ := owns_shape hrow
  refine ⟨a, c, by simp, by simpa using h3, h4, h5, fun hp => ?_⟩
  obtain ⟨g, rfl⟩ := h6 (by simpa using hp)
  exact ⟨g, 0, rfl, h2.rows fun i v hv => by rw [Nat.zero_add]; exact owns_cells hrow i v hv⟩
theorem Fg.vals {w : World} {lo hi : Nat} {nv pv : Value} {l : List (Value × Value)} {f : Fa} (h : Fg w lo hi nv pv l f) : RdVals w f.fl [nv, pv] := by
  obtain ⟨m, _, _, h1, hb, _⟩ := h.name
  exact ⟨nv, _, rfl, h1.brow hb, pv, _, rfl, h.rdp, rfl⟩

/-- A record more: its pieces made, then the row has grown. -/
theorem Fg.push {w w1 w2 w3 w4 : World} {lo hi : Nat} {nv pv pv' : Value} {l : List (Value × Value)} {f : Fa} {x y : Value} {d : Fp} (h : Fg w lo hi nv pv l f) (hlo : lo ≤ hi) (hh : hi ≤ w.heap.size)
    (b1 : Below w.heap.size w w1) (hx : Ob w1 5 w.heap.size w1.heap.size x d.name.length (bV d.name)) (hxb : isB d.name)
    (b2 : Below w1.heap.size w1 w2) (hy : Ob w2 3 w1.heap.size w2.heap.size y d.kinds.length (iV d.kinds)) (hyi : isI d.kinds)
    (b3 : Below w2.heap.size w2 w3) (hr : w4.ownsRow lo 90 2 pv' (f.procs.length + 1) (flat2 l ++ [x, y])) (hg : w3.grownBy w4 pv.ownBlock) :
    Fg w4 lo w4.heap.size nv pv' (l ++ [(x, y)]) ⟨f.name, f.procs ++ [d]⟩ := by
  have s1 := b1.size
  have s2 := b2.size
  have s3 := b3.size
  have s4 := hg.size
  have k3 : Stays lo hi w w3 := fun g p q => ((b3.block g (by omega)).trans (b2.block g (by omega))).trans (b1.block g (by omega))
  have h3 := h.stays k3
  have hx3 := hx.stays (w' := w3) (fun g p q _ => (b3.block g (by omega)).trans (b2.block g (by omega)))
  have hy3 := hy.stays (w' := w3) (fun g p q _ => b3.block g (by omega))
  have kp : ∀ A B, StaysP A B w3 w4 := fun A B g p q r => by
    refine hg.block g ?_ ?_
    · rcases r with ⟨c, e⟩ | ⟨c, e⟩ <;> exact (Array.getElem?_eq_some_iff.1 e).1
    · intro e
      obtain ⟨c, e2⟩ := owns_type h3.row e.symm
      rcases r with ⟨c', e'⟩ | ⟨c', e'⟩ <;> (rw [e2] at e'; simp only [Option.some.injEq, Obj.cells.injEq] at e'; exact absurd e'.2.1 (by decide))
  obtain ⟨m, a, b, n1, nb, p1⟩ := h3.name
  refine ⟨⟨m, a, by omega, n1.stays (fun g p q r => kp lo m g p q (.inl r)), nb, ?_⟩, ?_, fun k hk => (hr.lt k hk).2⟩
  · have := (p1.stays (kp m hi)).wide (Nat.le_refl _) hh |>.snoc (x := (x, y)) (d := d) (by omega) s1 s2 (hx3.stays (fun g p q r => kp _ _ g p q (.inl r))) hxb (hy3.stays (fun g p q r => kp _ _ g p q (.inr r))) hyi
    exact this.wide (Nat.le_refl _) (by omega)
  · rw [flat2_append]
    simpa [flat2] using hr
end Go.Proofs.YtajnfknldofjlaaGreatDoor

/- Scripts of one's own while they are made: every action's arguments in a block of their own, behind those ahead. No function is walked here. -/
import Derived.Test.YtpkbeeicffoaoaaBools
namespace Go.Proofs.Ytpkbeeicffoaoaa
open Go.RowKit
set_option linter.unusedVariables false
set_option linter.unusedSimpArgs false
set_option maxRecDepth 100000

theorem owns_type {w : World} {T base n k g : Nat} {v : Value} {xs : List Value} (h : w.ownsRow base T k v n xs) (hg : v.ownBlock = some g) : ∃ cur, w.heap[g]? = some (.cells cur T (0, 0)) := by
  rcases h.2 with ⟨e, _⟩ | ⟨g', cap, cur, hv, _, hh, _⟩
  · rw [e] at hg; cases hg
  · rw [hv] at hg
    simp only [Value.ownBlock, Option.some.injEq] at hg
    subst hg
    exact ⟨cur, hh⟩
theorem owns_stays {w w' : World} {T base n k : Nat} {v : Value} {xs : List Value} (h : w.ownsRow base T k v n xs) (hs : ∀ g, v.ownBlock = some g → w'.heap[g]? = w.heap[g]?) : w'.ownsRow base T k v n xs := by
  refine ⟨h.1, ?_⟩
  rcases h.2 with hn | ⟨g, cap, cur, hv, hg, hh, r⟩
  · exact .inl hn
  · exact .inr ⟨g, cap, cur, hv, hg, by rw [hs g (by rw [hv]; rfl)]; exact hh, r⟩
theorem owns_mono {w : World} {T base base' n k : Nat} {v : Value} {xs : List Value} (h : w.ownsRow base T k v n xs) (hb : base' ≤ base) : w.ownsRow base' T k v n xs := by
  refine ⟨h.1, ?_⟩
  rcases h.2 with hn | ⟨g, cap, cur, hv, hg, r⟩
  · exact .inl hn
  · exact .inr ⟨g, cap, cur, hv, by omega, r⟩
theorem owns_shape {w : World} {T base n k : Nat} {v : Value} {xs : List Value} (h : w.ownsRow base T k v n xs) : ∃ a c, v = .slice a n c ∧ n ≤ c ∧ c ≤ maxLen ∧ (a = none → c = 0) ∧ (0 < n → ∃ g, a = some ⟨g, 0, none⟩) := by
  rcases h.2 with ⟨rfl, rfl⟩ | ⟨g, cap, cur, rfl, hg, hh, hnc, hcm, hs, ht⟩
  · exact ⟨none, 0, rfl, by omega, by simp, fun _ => rfl, by omega⟩
  · exact ⟨_, cap, rfl, hnc, hcm, by simp, fun _ => ⟨g, rfl⟩⟩
theorem owns_cells {w : World} {T base n k g c : Nat} {xs : List Value} (h : w.ownsRow base T k (.slice (some ⟨g, 0, none⟩) n c) n xs) : ∀ i v, xs[i]? = some v → w.cell? ⟨g, i, none⟩ = some v := by
  intro i v hv
  have hi := (List.getElem?_eq_some_iff.1 hv).1
  rw [h.cellAt i (by have := h.1; omega)]
  exact hv

/-- Cells of one's own (of type T), in a block from lo up to hi. -/
structure Pc (w : World) (T : TypeId) (k lo hi : Nat) (v : Value) (n : Nat) (xs : List Value) : Prop where
  own : w.ownsRow lo T k v n xs
  lt : ∀ g, v.ownBlock = some g → g < hi
theorem Pc.stays {w w' : World} {T k lo hi n : Nat} {v : Value} {xs : List Value} (h : Pc w T k lo hi v n xs) (hs : ∀ g, lo ≤ g → g < hi → (∃ cur, w.heap[g]? = some (.cells cur T (0, 0))) → w'.heap[g]? = w.heap[g]?) : Pc w' T k lo hi v n xs :=
  ⟨owns_stays h.own fun g hg => hs g (h.own.lt g hg).1 (h.lt g hg) (owns_type h.own hg), h.lt⟩
theorem Pc.wide {w : World} {T k lo hi lo' hi' n : Nat} {v : Value} {xs : List Value} (h : Pc w T k lo hi v n xs) (a : lo' ≤ lo) (b : hi ≤ hi') : Pc w T k lo' hi' v n xs :=
  ⟨owns_mono h.own a, fun g hg => Nat.lt_of_lt_of_le (h.lt g hg) b⟩

theorem typ_ne {w : World} {g T U : Nat} {c d : Array Value} (h : w.heap[g]? = some (.cells c T (0, 0))) (k : w.heap[g]? = some (.cells d U (0, 0))) : T = U := by
  rw [h] at k
  simp only [Option.some.injEq, Obj.cells.injEq] at k
  exact k.2.1
/-- A row of type T has grown: what is of another type stays. -/
theorem grown_other {w w' : World} {T base n k : Nat} {v : Value} {xs : List Value} (h : w.ownsRow base T k v n xs) (hg : w.grownBy w' v.ownBlock) {g U : Nat} (hne : U ≠ T) (hu : ∃ cur, w.heap[g]? = some (.cells cur U (0, 0))) : w'.heap[g]? = w.heap[g]? := by
  obtain ⟨c, hc⟩ := hu
  refine hg.block g (Array.getElem?_eq_some_iff.1 hc).1 fun e => ?_
  obtain ⟨d, hd⟩ := owns_type h e.symm
  exact hne (typ_ne hc hd)

theorem blk_typ {w : World} {g T U : Nat} {vs : List Value} (h : Blk w g T vs) (hu : ∃ cur, w.heap[g]? = some (.cells cur U (0, 0))) : U = T := by
  obtain ⟨c, hc⟩ := hu
  exact typ_ne hc h
def Ag.vals (x : Ag) : List Value := [.bool x.arr, .int .i64 x.n]
def flatG : List Ag → List Value
  | [] => []
  | x :: l => x.vals ++ flatG l
def Ac.vals (c : Value) (r : Ac) : List Value := [.int .i64 r.kind, .int .i64 r.to, .int .i64 r.proc, c, .int .i64 r.n]
def flatA : List (Value × Ac) → List Value
  | [] => []
  | x :: l => x.2.vals x.1 ++ flatA l
theorem flatG_append (l m : List Ag) : flatG (l ++ m) = flatG l ++ flatG m := by
  induction l with
  | nil => rfl
  | cons x l ih => simp [flatG, ih]
theorem flatA_append (l m : List (Value × Ac)) : flatA (l ++ m) = flatA l ++ flatA m := by
  induction l with
  | nil => rfl
  | cons x l ih => simp [flatA, ih]
theorem flatG_len (l : List Ag) : (flatG l).length = l.length * 2 := by
  induction l with
  | nil => rfl
  | cons x l ih => simp [flatG, Ag.vals, ih]; omega
theorem flatA_len (l : List (Value × Ac)) : (flatA l).length = l.length * 5 := by
  induction l with
  | nil => rfl
  | cons x l ih => simp [flatA, Ac.vals, ih]; omega
theorem flatG_at {l : List Ag} {j i : Nat} {x : Ag} (hi : i < 2) (h : l[j]? = some x) : (flatG l)[j * 2 + i]? = x.vals[i]? := by
  induction l generalizing j with
  | nil => simp at h
  | cons y l ih =>
    cases j with
    | zero =>
      simp only [List.getElem?_cons_zero, Option.some.injEq] at h
      subst h
      rw [flatG, Nat.zero_mul, Nat.zero_add, List.getElem?_append_left (by simpa [Ag.vals] using hi)]
    | succ j =>
      rw [List.getElem?_cons_succ] at h
      have e : (j + 1) * 2 + i = y.vals.length + (j * 2 + i) := by simp [Ag.vals]; omega
      rw [flatG, e, List.getElem?_append_right (by omega), Nat.add_sub_cancel_left]
      exact ih h
theorem flatA_at {l : List (Value × Ac)} {j i : Nat} {x : Value × Ac} (hi : i < 5) (h : l[j]? = some x) : (flatA l)[j * 5 + i]? = (x.2.vals x.1)[i]? := by
  induction l generalizing j with
  | nil => simp at h
  | cons y l ih =>
    cases j with
    | zero =>
      simp only [List.getElem?_cons_zero, Option.some.injEq] at h
      subst h
      rw [flatA, Nat.zero_mul, Nat.zero_add, List.getElem?_append_left (by simpa [Ac.vals] using hi)]
    | succ j =>
      rw [List.getElem?_cons_succ] at h
      have e : (j + 1) * 5 + i = (y.2.vals y.1).length + (j * 5 + i) := by simp [Ac.vals]; omega
      rw [flatA, e, List.getElem?_append_right (by omega), Nat.add_sub_cancel_left]
      exact ih h
theorem flatG_one (l : List Ag) : ∀ v ∈ flatG l, v.oneCell' = true := by
  induction l with
  | nil => simp [flatG]
  | cons x l ih =>
    intro v hv
    rw [flatG, List.mem_append] at hv
    rcases hv with hv | hv
    · simp only [Ag.vals, List.mem_cons, List.not_mem_nil, or_false] at hv
      rcases hv with h | h <;> (rw [h]; rfl)
    · exact ih v hv

/-- The arguments' own pieces. -/
def Cda (w : World) : Nat → Nat → List (Value × Ac) → Prop
  | lo, hi, [] => True
  | lo, hi, x :: l => ∃ m, lo ≤ m ∧ m ≤ hi ∧ Pc w 89 2 lo m x.1 x.2.args.length (flatG x.2.args) ∧ Cda w m hi l
/-- Blocks of arguments from lo up to hi stay. -/
def StaysG (lo hi : Nat) (w w' : World) : Prop := ∀ g, lo ≤ g → g < hi → (∃ cur, w.heap[g]? = some (.cells cur 89 (0, 0))) → w'.heap[g]? = w.heap[g]?
theorem StaysG.mono {lo hi lo' hi' : Nat} {w w' : World} (h : StaysG lo hi w w') (a : lo ≤ lo') (b : hi' ≤ hi) : StaysG lo' hi' w w' := fun g h1 h2 h3 => h g (by omega) (by omega) h3
theorem StaysG.of {lo hi : Nat} {w w' : World} (h : Stays lo hi w w') : StaysG lo hi w w' := fun g h1 h2 _ => h g h1 h2
theorem Cda.stays {w w' : World} : ∀ {l : List (Value × Ac)} {lo hi : Nat}, Cda w lo hi l → StaysG lo hi w w' → Cda w' lo hi l := by
  intro l
  induction l with
  | nil => intro lo hi _ _; exact trivial
  | cons x l ih =>
    intro lo hi h hs
    obtain ⟨m, a, b, h1, h2⟩ := h
    exact ⟨m, a, b, h1.stays (fun g p q r => hs g p (by omega) r), ih h2 (hs.mono a (Nat.le_refl _))⟩
theorem Cda.wide {w : World} : ∀ {l : List (Value × Ac)} {lo hi lo' hi' : Nat}, Cda w lo hi l → lo' ≤ lo → hi ≤ hi' → Cda w lo' hi' l := by
  intro l
  induction l with
  | nil => intro lo hi lo' hi' _ _ _; exact trivial
  | cons x l ih =>
    intro lo hi lo' hi' h p q
    obtain ⟨m, a, b, h1, h2⟩ := h
    exact ⟨m, by omega, by omega, h1.wide p (Nat.le_refl _), ih h2 (Nat.le_refl _) q⟩
theorem Cda.snoc {w : World} : ∀ {l : List (Value × Ac)} {lo mid hi : Nat} {x : Value × Ac}, Cda w lo mid l → lo ≤ mid → mid ≤ hi → Pc w 89 2 mid hi x.1 x.2.args.length (flatG x.2.args) → Cda w lo hi (l ++ [x]) := by
  intro l
  induction l with
  | nil =>
    intro lo mid hi x h p q h1
    exact ⟨hi, by omega, Nat.le_refl _, h1.wide p (Nat.le_refl _), trivial⟩
  | cons y l ih =>
    intro lo mid hi x h p q h1
    obtain ⟨m, a, b, e1, e2⟩ := h
    exact ⟨m, a, by omega, e1, ih e2 b q h1⟩
theorem grows {w : World} {g : Nat} : ∀ {l : List Ag} {off : Nat}, (∀ i v, (flatG l)[i]? = some v → w.cell? ⟨g, off + i, none⟩ = some v) → RdRows w g 2 off (l.map Ag.fl) := by
  intro l
  induction l with
  | nil => intro off _; exact trivial
  | cons x l ih =>
    intro off hc
    refine ⟨⟨⟨_, hc 0 _ rfl, rfl⟩, ⟨_, hc 1 _ rfl, rfl⟩, trivial⟩, ih fun i v hv => ?_⟩
    have := hc (i + 2) v (by simpa [flatG, Ag.vals] using hv)
    rw [show off + (i + 2) = off + 2 + i by omega] at this
    exact this
theorem Pc.grow {w : World} {lo hi : Nat} {v : Value} {l : List Ag} (h : Pc w 89 2 lo hi v l.length (flatG l)) : (Fl.l 2 (l.map Ag.fl)).Rd w v := by
  have ho := h.own
  obtain ⟨a, c, rfl, h1, h2, h3, h4⟩ := owns_shape ho
  refine ⟨a, c, by simp, by simpa using h1, h2, h3, fun hp => ?_⟩
  obtain ⟨g, rfl⟩ := h4 (by simpa using hp)
  exact ⟨g, 0, rfl, grows fun i v hv => by rw [Nat.zero_add]; exact owns_cells ho i v hv⟩
theorem Cda.rows {w : World} {g : Nat} : ∀ {l : List (Value × Ac)} {lo hi off : Nat}, Cda w lo hi l → (∀ i v, (flatA l)[i]? = some v → w.cell? ⟨g, off + i, none⟩ = some v) → RdRows w g 5 off (l.map fun x => x.2.fl) := by
  intro l
  induction l with
  | nil => intro lo hi off h _; exact trivial
  | cons x l ih =>
    intro lo hi off h hc
    obtain ⟨m, a, b, h1, h2⟩ := h
    refine ⟨⟨⟨_, hc 0 _ rfl, rfl⟩, ⟨_, hc 1 _ rfl, rfl⟩, ⟨_, hc 2 _ rfl, rfl⟩, ⟨_, hc 3 _ rfl, h1.grow⟩, ⟨_, hc 4 _ rfl, rfl⟩, trivial⟩, ih h2 fun i v hv => ?_⟩
    have := hc (i + 5) v (by simpa [flatA, Ac.vals] using hv)
    rw [show off + (i + 5) = off + 5 + i by omega] at this
    exact this

/-- A script of one's own, in blocks from lo up to hi. -/
structure Sc (w : World) (lo hi : Nat) (v : Value) (l : List (Value × Ac)) : Prop where
  codes : Cda w lo hi l
  row : Pc w 53 5 lo hi v l.length (flatA l)
theorem Sc.keep {w w' : World} {lo hi : Nat} {v : Value} {l : List (Value × Ac)} (h : Sc w lo hi v l) (hs : ∀ g T, lo ≤ g → g < hi → (∃ cur, w.heap[g]? = some (.cells cur T (0, 0))) → (T = 89 ∨ T = 53) → w'.heap[g]? = w.heap[g]?) : Sc w' lo hi v l :=
  ⟨h.codes.stays (fun g a b r => hs g _ a b r (.inl rfl)), h.row.stays (fun g a b r => hs g _ a b r (.inr rfl))⟩
theorem Sc.wide {w : World} {lo hi lo' hi' : Nat} {v : Value} {l : List (Value × Ac)} (h : Sc w lo hi v l) (a : lo' ≤ lo) (b : hi ≤ hi') : Sc w lo' hi' v l := ⟨h.codes.wide a b, h.row.wide a b⟩
theorem Sc.stays {w w' : World} {lo hi : Nat} {v : Value} {l : List (Value × Ac)} (h : Sc w lo hi v l) (hs : Stays lo hi w w') : Sc w' lo hi v l := h.keep fun g T a b _ _ => hs g a b
theorem Sc.below {w w' : World} {lo hi : Nat} {v : Value} {l : List (Value × Ac)} (h : Sc w lo hi v l) (hb : Below w.heap.size w w') : Sc w' lo hi v l := h.keep fun g T _ _ ⟨c, hc⟩ _ => hb.block g (Array.getElem?_eq_some_iff.1 hc).1
theorem Sc.nil (w : World) (lo hi : Nat) : Sc w lo hi (.slice none 0 0) [] := ⟨trivial, World.ownsRow_nil _ _ _ _, fun k hk => by cases hk⟩
theorem Sc.put {w : World} {lo hi g i : Nat} {T : TypeId} {v u : Value} {l : List (Value × Ac)} {vs : List Value} (h : Sc w lo hi v l) (hb : Blk w g T vs) (h1 : T ≠ 89) (h2 : T ≠ 53) : Sc (w.setCell ⟨g, i, none⟩ u) lo hi v l := by
  refine h.keep fun g' U _ _ hc hU => heap_setCell_other w ⟨g, i, none⟩ g' u fun e => ?_
  have e' : g' = g := e
  subst e'
  have hT := blk_typ hb hc
  subst hT
  rcases hU with h | h
  · exact h1 h
  · exact h2 h
theorem Sc.rd {w : World} {lo hi : Nat} {v : Value} {l : List (Value × Ac)} (h : Sc w lo hi v l) : (Fl.l 5 ((l.map fun x => x.2).map Ac.fl)).Rd w v := by
  have ho := h.row.own
  obtain ⟨a, c, rfl, h1, h2, h3, h4⟩ := owns_shape ho
  refine ⟨a, c, by simp, by simpa using h1, h2, h3, fun hp => ?_⟩
  obtain ⟨g, rfl⟩ := h4 (by simpa using hp)
  refine ⟨g, 0, rfl, ?_⟩
  have := h.codes.rows (g := g) (off := 0) fun i v hv => by rw [Nat.zero_add]; exact owns_cells ho i v hv
  rw [List.map_map]
  exact this
/-- An action more, whose arguments lie in blocks from c0 on. -/
theorem Sc.push {w w1 : World} {lo hi c0 : Nat} {v v' c : Value} {l : List (Value × Ac)} {r : Ac} (h : Sc w lo hi v l) (hlo : lo ≤ hi) (hc0 : hi ≤ c0) (hc : Pc w 89 2 c0 w.heap.size c r.args.length (flatG r.args)) (hcs : c0 ≤ w.heap.size)
    (hr : w1.ownsRow lo 53 5 v' (l.length + 1) (flatA l ++ r.vals c)) (hg : w.grownBy w1 v.ownBlock) : Sc w1 lo w1.heap.size v' (l ++ [(c, r)]) := by
  have s1 := hg.size
  have k3 : ∀ A B, StaysG A B w w1 := fun A B g _ _ r => grown_other h.row.own hg (by decide) r
  refine ⟨?_, ?_⟩
  · exact ((h.codes.stays (k3 _ _)).wide (Nat.le_refl _) hc0 |>.snoc (x := (c, r)) (by omega) hcs (hc.stays (fun g p q r => k3 _ _ g p q r))).wide (Nat.le_refl _) s1
  · refine ⟨?_, fun g hg => (hr.lt g hg).2⟩
    rw [List.length_append, flatA_append]
    simpa [flatA] using hr
theorem Sc.blk {w w1 : World} {lo hi g : Nat} {T : TypeId} {v : Value} {l : List (Value × Ac)} {vs : List Value} (h : Sc w lo hi v l) (hg : w.grownBy w1 v.ownBlock) (hb : Blk w g T vs) (hT : T ≠ 53) : Blk w1 g T vs :=
  (grown_other h.row.own hg hT ⟨_, hb⟩).trans hb
theorem Pc.nil (w : World) (T k lo hi : Nat) : Pc w T k lo hi (.slice none 0 0) 0 [] := ⟨World.ownsRow_nil _ _ _ _, fun k hk => by cases hk⟩

theorem infoAg : (Try.prog.info? 89).map (fun i => (i.zero, i.size, i.bytes)) = some (some (.agg #[.bool false, .int .i64 0]), 2, 16) := by kernel_rfl
theorem infoAc : (Try.prog.info? 53).map (fun i => (i.zero, i.size, i.bytes)) = some (some (.agg #[.int .i64 0, .int .i64 0, .int .i64 0, .slice none 0 0, .int .i64 0]), 5, 56) := by kernel_rfl

/-! What Back tells -/
def wildAt (l : List Bool) (i : Int) : Bool := decide (0 ≤ i) && (decide (i < (l.length : Int)) && l[i.toNat]?.getD false)
def evA (e : Ev) : Option Ac := if e.kind = 0 then some ⟨0, e.to, e.proc, e.args, e.n⟩ else if e.kind = 1 then some ⟨1, 0, 0, [], e.n⟩ else if e.kind = 2 then some ⟨2, 0, 0, [], e.n⟩ else if e.kind = 3 then some ⟨3, 0, 0, [], 0⟩ else none
def actsOf (l : List Bool) (es : List Ev) : List Ac := (es.filter fun e => wildAt l e.fr).filterMap evA
def lastA (r : Rs) (l : List Bool) : List Ac := if r.fin = 2 ∧ wildAt l r.who = true then [⟨4, 0, 0, [], r.code⟩] else if r.fin = 1 ∧ wildAt l ((l.length : Int) - 1) = true then [⟨1, 0, 0, [], 0⟩] else []
def backA (r : Rs) (l : List Bool) : List Ac := actsOf l r.ev ++ lastA r l
def backOk (r : Rs) (l : List Bool) : Bool := decide (1 ≤ l.length ∧ l.length ≤ 8 ∧ (backA r l).length ≤ 2000)
def backS (r : Rs) (l : List Bool) : List Ac := if backOk r l then backA r l else []

/-- What Back ends in. -/
def BkFin (r : Rs) (l : List Bool) (w : World) (e : Ending) (w' : World) : Prop :=
  Below w.heap.size w w' ∧ ∃ v acs, e = .returned (.tuple #[v, .bool (backOk r l)]) ∧ acs.map (fun x => x.2) = backS r l ∧ Sc w' w.heap.size w'.heap.size v acs
end Go.Proofs.Ytpkbeeicffoaoaa

import Derived.Test.YtopnodadggohiaaGreatDoorAll
import Derived.Test.YtopnodadggohiaaGreatDoorTreeTo2
import Derived.Test.YtopnodadggohiaaGreatDoorMarkT
/- Faces of one's own, made piece by piece: every piece in a block of its own, the pieces of one record behind those of the records ahead. No function is walked here. -/
namespace Go.Proofs.YtopnodadggohiaaGreatDoor
open Go.RowKit
set_option linter.unusedVariables false

theorem owns_type {w : World} {T base n k g : Nat} {v : Value} {xs : List Value} (h : w.ownsRow base T k v n xs) (hg : v.ownBlock = some g) : ∃ cur, w.heap[g]? = some (.cells cur T (0, 0)) := by
 rcases h.2 with ⟨e, _⟩ | ⟨g', cap, cur, hv, _, hh, _⟩
 ·
  rw [e] at hg; cases hg
 ·
  rw [hv] at hg
  simp only [Value.ownBlock, Option.some.injEq] at hg
  subst hg
  exact ⟨cur, hh⟩
theorem owns_stays {w w' : World} {T base n k : Nat} {v : Value} {xs : List Value} (h : w.ownsRow base T k v n xs) (hs : ∀ g, v.ownBlock = some g → w'.heap[g]? = w.heap[g]?) : w'.ownsRow base T k v n xs := by
 refine ⟨h.1, ?_⟩
 rcases h.2 with hn | ⟨g, cap, cur, hv, hg, hh, r⟩
 ·
  exact .inl hn
 ·
  exact .inr ⟨g, cap, cur, hv, hg, by rw [hs g (by rw [hv]; rfl)]; exact hh, r⟩
theorem owns_mono {w : World} {T base base' n k : Nat} {v : Value} {xs : List Value} (h : w.ownsRow base T k v n xs) (hb : base' ≤ base) : w.ownsRow base' T k v n xs := by
 refine ⟨h.1, ?_⟩
 rcases h.2 with hn | ⟨g, cap, cur, hv, hg, r⟩
 ·
  exact .inl hn
 ·
  exact .inr ⟨g, cap, cur, hv, by omega, r⟩
theorem owns_shape {w : World} {T base n k : Nat} {v : Value} {xs : List Value} (h : w.ownsRow base T k v n xs) : ∃ a c, v = .slice a n c ∧ n ≤ c ∧ c ≤ maxLen ∧ (a = none → c = 0) ∧ (0 < n → ∃ g, a = some ⟨g, 0, none⟩) := by
 rcases h.2 with ⟨rfl, rfl⟩ | ⟨g, cap, cur, rfl, hg, hh, hnc, hcm, hs, ht⟩
 ·
  exact ⟨none, 0, rfl, by omega, by simp, fun _ => rfl, by omega⟩
 ·
  exact ⟨_, cap, rfl, hnc, hcm, by simp, fun _ => ⟨g, rfl⟩⟩

/-- Cells of one's own (of type T), in a block from lo up to hi. -/
structure Ob (w : World) (T : TypeId) (lo hi : Nat) (v : Value) (n : Nat) (xs : List Value) : Prop where
 own : w.ownsRow lo T 1 v n xs
 lt : ∀ k, v.ownBlock = some k → k < hi

theorem Ob.stays {w w' : World} {T lo hi n : Nat} {v : Value} {xs : List Value} (h : Ob w T lo hi v n xs) (hs : ∀ g, lo ≤ g → g < hi → (∃ cur, w.heap[g]? = some (.cells cur T (0, 0))) → w'.heap[g]? = w.heap[g]?) : Ob w' T lo hi v n xs :=
 ⟨owns_stays h.own fun g hg => hs g (h.own.lt g hg).1 (h.lt g hg) (owns_type h.own hg), h.lt⟩
theorem Ob.wide {w : World} {T lo hi lo' hi' n : Nat} {v : Value} {xs : List Value} (h : Ob w T lo hi v n xs) (a : lo' ≤ lo) (b : hi ≤ hi') : Ob w T lo' hi' v n xs :=
 ⟨owns_mono h.own a, fun k hk => Nat.lt_of_lt_of_le (h.lt k hk) b⟩

def bV (l : List Int) : List Value := l.map (Value.int .u8)
def iV (l : List Int) : List Value := l.map (Value.int .i64)
def isB (l : List Int) : Prop := ∀ x ∈ l, 0 ≤ x ∧ x ≤ 255
def isI (l : List Int) : Prop := ∀ x ∈ l, -9223372036854775808 ≤ x ∧ x ≤ 9223372036854775807

/-- The records' own pieces. -/
def Fps (w : World) : Nat → Nat → List (Value × Value) → List Fp → Prop
 | lo, hi, [], ds => ds = []
 | lo, hi, x :: l, ds => ∃ d ds' m1 m2, ds = d :: ds' ∧ lo ≤ m1 ∧ m1 ≤ m2 ∧ m2 ≤ hi ∧ Ob w 5 lo m1 x.1 d.name.length (bV d.name) ∧ isB d.name ∧ Ob w 3 m1 m2 x.2 d.kinds.length (iV d.kinds) ∧ isI d.kinds ∧ Fps w m2 hi l ds'

/-- What stays: blocks from lo up to hi that are of bytes or of ints. -/
def StaysP (lo hi : Nat) (w w' : World) : Prop := ∀ g, lo ≤ g → g < hi → ((∃ cur, w.heap[g]? = some (.cells cur 5 (0, 0))) ∨ (∃ cur, w.heap[g]? = some (.cells cur 3 (0, 0)))) → w'.heap[g]? = w.heap[g]?
theorem StaysP.mono {lo hi lo' hi' : Nat} {w w' : World} (h : StaysP lo hi w w') (a : lo ≤ lo') (b : hi' ≤ hi) : StaysP lo' hi' w w' := fun g h1 h2 h3 => h g (by omega) (by omega) h3
theorem StaysP.of {lo hi : Nat} {w w' : World} (h : Stays lo hi w w') : StaysP lo hi w w' := fun g h1 h2 _ => h g h1 h2

theorem Fps.stays {w w' : World} : ∀ {l : List (Value × Value)} {lo hi : Nat} {ds : List Fp}, Fps w lo hi l ds → StaysP lo hi w w' → Fps w' lo hi l ds := by
 intro l
 induction l with
 | nil => intro lo hi ds h _; exact h
 | cons x l ih =>
  intro lo hi ds h hs
  obtain ⟨d, ds', m1, m2, rfl, a, b, c, h1, hb, h2, hi', h3⟩ := h
  exact ⟨d, ds', m1, m2, rfl, a, b, c, h1.stays (fun g p q r => hs g p (by omega) (.inl r)), hb, h2.stays (fun g p q r => hs g (by omega) (by omega) (.inr r)), hi', ih h3 (hs.mono (by omega) (Nat.le_refl _))⟩

theorem Fps.wide {w : World} : ∀ {l : List (Value × Value)} {lo hi lo' hi' : Nat} {ds : List Fp}, Fps w lo hi l ds → lo' ≤ lo → hi ≤ hi' → Fps w lo' hi' l ds := by
 intro l
 induction l with
 | nil => intro lo hi lo' hi' ds h _ _; exact h
 | cons x l ih =>
  intro lo hi lo' hi' ds h p q
  obtain ⟨d, ds', m1, m2, rfl, a, b, c, h1, hb, h2, hi', h3⟩ := h
  exact ⟨d, ds', m1, m2, rfl, by omega, b, by omega, h1.wide p (Nat.le_refl _), hb, h2, hi', ih h3 (Nat.le_refl _) q⟩

theorem Fps.len {w : World} : ∀ {l : List (Value × Value)} {lo hi : Nat} {ds : List Fp}, Fps w lo hi l ds → l.length = ds.length := by
 intro l
 induction l with
 | nil => intro lo hi ds h; rw [show ds = [] from h]; rfl
 | cons x l ih =>
  intro lo hi ds h
  obtain ⟨d, ds', m1, m2, rfl, a, b, c, h1, hb, h2, hi', h3⟩ := h
  simp [ih h3]

/-- One record more. -/
theorem Fps.snoc {w : World} : ∀ {l : List (Value × Value)} {lo mid m1 m2 : Nat} {ds : List Fp} {x : Value × Value} {d : Fp}, Fps w lo mid l ds → lo ≤ mid → mid ≤ m1 → m1 ≤ m2 → Ob w 5 mid m1 x.1 d.name.length (bV d.name) → isB d.name → Ob w 3 m1 m2 x.2 d.kinds.length (iV d.kinds) → isI d.kinds → Fps w lo m2 (l ++ [x]) (ds ++ [d]) := by
 intro l
 induction l with
 | nil =>
  intro lo mid m1 m2 ds x d h p q r h1 hb h2 hi
  rw [show ds = [] from h]
  exact ⟨d, [], m1, m2, rfl, by omega, r, Nat.le_refl _, h1.wide p (Nat.le_refl _), hb, h2, hi, rfl⟩
 | cons y l ih =>
  intro lo mid m1 m2 ds x d h p q r h1 hb h2 hi
  obtain ⟨d0, ds', k1, k2, rfl, a, b, c, e1, eb, e2, ei, e3⟩ := h
  exact ⟨d0, ds' ++ [d], k1, k2, rfl, a, b, by omega, e1, eb, e2, ei, ih e3 c q r h1 hb h2 hi⟩

/-- Parted at a record. -/
theorem Fps.part {w : World} : ∀ {l : List (Value × Value)} {lo hi : Nat} {ds : List Fp} (j : Nat), Fps w lo hi l ds → lo ≤ hi → ∃ mid, lo ≤ mid ∧ mid ≤ hi ∧ Fps w lo mid (l.take j) (ds.take j) ∧ Fps w mid hi (l.drop j) (ds.drop j) := by
 intro l
 induction l with
 | nil =>
  intro lo hi ds j h p
  rw [show ds = [] from h]
  exact ⟨lo, Nat.le_refl _, p, by simp [Fps], by simp [Fps]⟩
 | cons y l ih =>
  intro lo hi ds j h p
  cases j with
  | zero => exact ⟨lo, Nat.le_refl _, p, by simp [Fps], by simpa using h⟩
  | succ j =>
   obtain ⟨d0, ds', k1, k2, rfl, a, b, c, e1, eb, e2, ei, e3⟩ := h
   obtain ⟨mid, h1, h2, h3, h4⟩ := ih j e3 c
   exact ⟨mid, by omega, h2, ⟨d0, ds'.take j, k1, k2, rfl, a, b, h1, e1, eb, e2, ei, h3⟩, by simpa using h4⟩

def flat2 : List (Value × Value) → List Value
 | [] => []
 | x :: l => x.1 :: x.2 :: flat2 l
theorem flat2_append (l m : List (Value × Value)) : flat2 (l ++ m) = flat2 l ++ flat2 m := by
 induction l with
 | nil => rfl
 | cons x l ih => simp [flat2, ih]
theorem flat2_len (l : List (Value × Value)) : (flat2 l).length = l.length * 2 := by
 induction l with
 | nil => rfl
 | cons x l ih => simp [flat2, ih]; omega
theorem flat2_at : ∀ {l : List (Value × Value)} {j : Nat} {x : Value × Value}, l[j]? = some x → (flat2 l)[j * 2]? = some x.1 ∧ (flat2 l)[j * 2 + 1]? = some x.2 := by
 intro l
 induction l with
 | nil => intro j x h; simp at h
 | cons y l ih =>
  intro j x h
  cases j with
  | zero => simp only [List.getElem?_cons_zero, Option.some.injEq] at h; subst h; exact ⟨rfl, rfl⟩
  | succ j =>
   rw [List.getElem?_cons_succ] at h
   rw [show (j + 1) * 2 = j * 2 + 1 + 1 by omega]
   exact ih h

theorem Ob.brow {w : World} {lo hi : Nat} {v : Value} {l : List Int} (h : Ob w 5 lo hi v l.length (bV l)) (hb : isB l) : (Fl.b l).Rd w v := by
 obtain ⟨a, c, rfl, h1, h2, h3, _⟩ := owns_shape h.own
 exact ⟨a, c, rfl, Own.row (base := lo) ⟨h.own, hb⟩, h1, h2, h3⟩
theorem Ob.irow {w : World} {lo hi : Nat} {v : Value} {l : List Int} (h : Ob w 3 lo hi v l.length (iV l)) (hb : isI l) : (Fl.i l).Rd w v := by
 have ho : IOwn w lo v l.length l := ⟨h.own, hb⟩
 obtain ⟨a, c, rfl, h1, h2, h3, _⟩ := owns_shape h.own
 obtain ⟨a', c', e, _, _, hr, _⟩ := ho.shape
 simp only [Value.slice.injEq, true_and] at e
 obtain ⟨rfl, rfl⟩ := e
 exact ⟨a, c, rfl, hr, h1, h2, h3⟩

theorem Fps.rows {w : World} {g : Nat} : ∀ {l : List (Value × Value)} {lo hi off : Nat} {ds : List Fp}, Fps w lo hi l ds → (∀ i v, (flat2 l)[i]? = some v → w.cell? ⟨g, off + i, none⟩ = some v) → RdRows w g 2 off (ds.map Fp.fl) := by
 intro l
 induction l with
 | nil => intro lo hi off ds h _; rw [show ds = [] from h]; exact trivial
 | cons x l ih =>
  intro lo hi off ds h hc
  obtain ⟨d, ds', m1, m2, rfl, a, b, c, h1, hb, h2, hi', h3⟩ := h
  refine ⟨⟨⟨x.1, hc 0 _ rfl, h1.brow hb⟩, ⟨x.2, hc 1 _ rfl, h2.irow hi'⟩, trivial⟩, ih h3 fun i v hv => ?_⟩
  have := hc (i + 2) v (by simpa [flat2] using hv)
  rw [show off + (i + 2) = off + 2 + i by omega] at this
  exact this

/-- A face of one's own. -/
structure Fg (w : World) (lo hi : Nat) (nv pv : Value) (l : List (Value × Value)) (f : Fa) : Prop where
 name : ∃ m, lo ≤ m ∧ m ≤ hi ∧ Ob w 5 lo m nv f.name.length (bV f.name) ∧ isB f.name ∧ Fps w m hi l f.procs
 row : w.ownsRow lo 66 2 pv f.procs.length (flat2 l)
 lt : ∀ k, pv.ownBlock = some k → k < hi

theorem Fg.stays {w w' : World} {lo hi : Nat} {nv pv : Value} {l : List (Value × Value)} {f : Fa} (h : Fg w lo hi nv pv l f) (hs : Stays lo hi w w') : Fg w' lo hi nv pv l f := by
 obtain ⟨m, a, b, h1, hb, h2⟩ := h.name
 exact ⟨⟨m, a, b, h1.stays (fun g p q _ => hs g p (by omega)), hb, h2.stays (StaysP.of (hs.mono a (Nat.le_refl _)))⟩, owns_stays h.row (fun g hg => hs g (h.row.lt g hg).1 (h.lt g hg)), h.lt⟩
theorem Fg.wide {w : World} {lo hi lo' hi' : Nat} {nv pv : Value} {l : List (Value × Value)} {f : Fa} (h : Fg w lo hi nv pv l f) (p : lo' ≤ lo) (q : hi ≤ hi') : Fg w lo' hi' nv pv l f := by
 obtain ⟨m, a, b, h1, hb, h2⟩ := h.name
 exact ⟨⟨m, by omega, by omega, h1.wide p (Nat.le_refl _), hb, h2.wide (Nat.le_refl _) q⟩, owns_mono h.row p, fun k hk => Nat.lt_of_lt_of_le (h.lt k hk) q⟩

theorem owns_cells {w : World} {T base n k g c : Nat} {xs : List Value} (h : w.ownsRow base T k (.slice (some ⟨g, 0, none⟩) n c) n xs) : ∀ i v, xs[i]? = some v → w.cell? ⟨g, i, none⟩ = some v := by
 intro i v hv
 have hi := (List.getElem?_eq_some_iff.1 hv).1
 rw [h.cellAt i (by have := h.1; omega)]
 exact hv

theorem Fg.rdp {w : World} {lo hi : Nat} {nv pv : Value} {l : List (Value × Value)} {f : Fa} (h : Fg w lo hi nv pv l f) : (Fl.l 2 (f.procs.map Fp.fl)).Rd w pv := by
 obtain ⟨m, _, _, _, _, h2⟩ := h.name
 have hrow := h.row
 obtain ⟨a, c, rfl, h3, h4, h5, h6⟩ := owns_shape hrow
 refine ⟨a, c, by simp, by simpa using h3, h4, h5, fun hp => ?_⟩
 obtain ⟨g, rfl⟩ := h6 (by simpa using hp)
 exact ⟨g, 0, rfl, h2.rows fun i v hv => by rw [Nat.zero_add]; exact owns_cells hrow i v hv⟩
theorem Fg.vals {w : World} {lo hi : Nat} {nv pv : Value} {l : List (Value × Value)} {f : Fa} (h : Fg w lo hi nv pv l f) : RdVals w f.fl [nv, pv] := by
 obtain ⟨m, _, _, h1, hb, _⟩ := h.name
 exact ⟨nv, _, rfl, h1.brow hb, pv, _, rfl, h.rdp, rfl⟩

/-- A record more: its pieces made, then the row has grown. -/
theorem Fg.push {w w1 w2 w3 w4 : World} {lo hi : Nat} {nv pv pv' : Value} {l : List (Value × Value)} {f : Fa} {x y : Value} {d : Fp} (h : Fg w lo hi nv pv l f) (hlo : lo ≤ hi) (hh : hi ≤ w.heap.size)
  (b1 : Below w.heap.size w w1) (hx : Ob w1 5 w.heap.size w1.heap.size x d.name.length (bV d.name)) (hxb : isB d.name)
  (b2 : Below w1.heap.size w1 w2) (hy : Ob w2 3 w1.heap.size w2.heap.size y d.kinds.length (iV d.kinds)) (hyi : isI d.kinds)
  (b3 : Below w2.heap.size w2 w3) (hr : w4.ownsRow lo 66 2 pv' (f.procs.length + 1) (flat2 l ++ [x, y])) (hg : w3.grownBy w4 pv.ownBlock) :
  Fg w4 lo w4.heap.size nv pv' (l ++ [(x, y)]) ⟨f.name, f.procs ++ [d]⟩ := by
 have s1 := b1.size
 have s2 := b2.size
 have s3 := b3.size
 have s4 := hg.size
 have k3 : Stays lo hi w w3 := fun g p q => ((b3.block g (by omega)).trans (b2.block g (by omega))).trans (b1.block g (by omega))
 have h3 := h.stays k3
 have hx3 := hx.stays (w' := w3) (fun g p q _ => (b3.block g (by omega)).trans (b2.block g (by omega)))
 have hy3 := hy.stays (w' := w3) (fun g p q _ => b3.block g (by omega))
 have kp : ∀ A B, StaysP A B w3 w4 := fun A B g p q r => by
  refine hg.block g ?_ ?_
  ·
   rcases r with ⟨c, e⟩ | ⟨c, e⟩ <;> exact (Array.getElem?_eq_some_iff.1 e).1
  ·
   intro e
   obtain ⟨c, e2⟩ := owns_type h3.row e.symm
   rcases r with ⟨c', e'⟩ | ⟨c', e'⟩ <;> (rw [e2] at e'; simp only [Option.some.injEq, Obj.cells.injEq] at e'; exact absurd e'.2.1 (by decide))
 obtain ⟨m, a, b, n1, nb, p1⟩ := h3.name
 refine ⟨⟨m, a, by omega, n1.stays (fun g p q r => kp lo m g p q (.inl r)), nb, ?_⟩, ?_, fun k hk => (hr.lt k hk).2⟩
 ·
  have := (p1.stays (kp m hi)).wide (Nat.le_refl _) hh |>.snoc (x := (x, y)) (d := d) (by omega) s1 s2 (hx3.stays (fun g p q r => kp _ _ g p q (.inl r))) hxb (hy3.stays (fun g p q r => kp _ _ g p q (.inr r))) hyi
  exact this.wide (Nat.le_refl _) (by omega)
 ·
  rw [flat2_append]
  simpa [flat2] using hr
end Go.Proofs.YtopnodadggohiaaGreatDoor

/- Marks over faces of one's own: laid, and looked for. -/
namespace Go.Proofs.YtopnodadggohiaaGreatDoor
open Go.RowKit
set_option linter.unusedVariables false
set_option linter.unusedSimpArgs false
set_option maxRecDepth 100000

def imarks (k n : Nat) : List Int := (List.range n).map fun i => ((k + i : Nat) : Int)
theorem imarks_length (k n : Nat) : (imarks k n).length = n := by simp [imarks]
theorem imarks_int (k n : Nat) (h : k + n ≤ 2000000000) : isI (imarks k n) := by
 intro x hx
 unfold imarks at hx
 simp only [List.mem_map, List.mem_range] at hx
 obtain ⟨i, hi, rfl⟩ := hx
 omega
theorem imarks_at (k n i : Nat) (h : i < n) : (imarks k n)[i]?.getD 0 = ((k + i : Nat) : Int) := by simp [imarks, h]

theorem imark_round {w wr : World} {base g n cap k i : Nat} {m : List Int} (hm : m.length = n) (hi : i < n) (x : Int) (hx : x = (imarks k n)[i]?.getD 0)
  (hown : wr.ownsRow base 3 1 (.slice (some ⟨g, 0, none⟩) n cap) n (((imarks k n).take i ++ m.drop i).map (Value.int .i64))) (hg : w.grownBy wr (some g)) :
  (wr.setCell ⟨g, i, none⟩ (.int .i64 x)).ownsRow base 3 1 (.slice (some ⟨g, 0, none⟩) n cap) n (((imarks k n).take (i + 1) ++ m.drop (i + 1)).map (Value.int .i64)) ∧ w.grownBy (wr.setCell ⟨g, i, none⟩ (.int .i64 x)) (some g) := by
 subst hx
 obtain ⟨h1, h2⟩ := hown.stored i (.int .i64 ((imarks k n)[i]?.getD 0))
 rw [mapset _ _ _ _ (by omega) (by rw [imarks_length]; omega)] at h1
 exact ⟨h1, h2.os.trans hg.os, h2.tape.trans hg.tape, h2.output.trans hg.output, Nat.le_trans hg.size h2.size, fun b hb hne => (h2.block b (Nat.lt_of_lt_of_le hb hg.size) hne).trans (hg.block b hb hne)⟩

set_option maxHeartbeats 1000000 in
theorem markI (base : Nat) (v : Value) (n : Nat) (l : List Int) (k : Nat) (w : World) (hl : l.length = n) (h : w.ownsRow base 3 1 v n (iV l)) (hk : k + n ≤ 1073741824) :
  Calls Tryz.prog 72 #[v, .int .i64 k] w fun e w' => e = .returned (.int .i64 ((k + n : Nat) : Int)) ∧ w'.ownsRow base 3 1 v n (iV (imarks k n)) ∧ w.grownBy w' v.ownBlock := by
 rcases h.2 with ⟨rfl, rfl⟩ | ⟨g, cap, cur, rfl, hg, hh, hnc, hcm, hs, ht⟩
 ·
  have hfin : w.ownsRow base 3 1 (.slice none 0 0) 0 (iV (imarks k 0)) := World.ownsRow_nil _ _ _ _
  clear h
  go_enter Tryz.func72, Tryz.ntmps72
  go_wp2
  refine wp_loop_rounds 1 ?_
  rw [rounds_succ]
  go_wp2
  go_ret
  exact ⟨ret_int (by omega), hfin, World.grownBy.refl _ _⟩
 ·
  have Hl : Hid (l.length = n) := hl
  have HO : Hid (w.ownsRow base 3 1 (.slice (some ⟨g, 0, none⟩) n cap) n (((imarks k n).take 0 ++ l.drop 0).map (Value.int .i64))) := by
   show World.ownsRow _ _ _ _ _ _ _
   simpa [iV] using h
  clear h hh hs ht hl
  unfold maxLen at hcm
  go_enter Tryz.func72, Tryz.ntmps72
  go_wp2
  go_loopw [1, 5] (fun kk i wr => ∃ j : Nat, j ≤ n ∧ i = .int .i64 j ∧ kk = .int .i64 ((k + j : Nat) : Int) ∧ Hid (wr.ownsRow base 3 1 (.slice (some ⟨g, 0, none⟩) n cap) n (((imarks k n).take j ++ l.drop j).map (Value.int .i64))) ∧ w.grownBy wr (some g)) (fun _ i _ => n - (intOf i).toNat)
  case atStart => exact ⟨0, Nat.zero_le _, rfl, rfl, HO, World.grownBy.refl _ _⟩
  case round =>
   obtain ⟨j, hj, rfl, rfl, hown, hgr⟩ := hrel
   clear HO
   by_cases hlt : j < n
   ·
    have hcy : ∃ u, wr.cell? ⟨g, j, none⟩ = some u := by
     rw [hown.out.cellAt j (by omega)]
     exact ⟨_, List.getElem?_eq_getElem (by have := hown.out.1; omega)⟩
    obtain ⟨u, hcy⟩ := hcy
    have hfy : wr.frozen? ⟨g, j, none⟩ = false := hown.out.frozenAt j
    have R := fun x hx => imark_round (k := k) Hl.out hlt x hx hown.out hgr
    have RH := R ((k : Int) + (j : Int)) (by rw [imarks_at k n j hlt]; omega)
    have R1 : Hid _ := RH.1
    have R2 := RH.2
    clear R RH hown
    go_wp2
    go_roundw
    case rel => exact ⟨j + 1, by omega, by go_num, by go_num, R1, R2⟩
    case measure => simp [intOf]; omega
   ·
    go_wp2
    go_ret
    have : j = n := by omega
    subst this
    refine ⟨ret_int (by omega), ?_, hgr⟩
    have := hown.out
    rwa [List.take_of_length_le (by rw [imarks_length]; exact Nat.le_refl _), List.drop_of_length_le (by rw [Hl.out]; exact Nat.le_refl _), List.append_nil] at this

set_option maxHeartbeats 1000000 in
theorem heldI (a : Option Addr) (n c : Nat) (k : Nat) (w : World) (h : NRow w a n (imarks k n)) (hk : k + n ≤ 1073741824) :
  Calls Tryz.prog 73 #[.slice a n c, .int .i64 k] w fun e w' => e = .returned (.int .i64 ((k + n : Nat) : Int)) ∧ w' = w := by
 obtain ⟨_, _, hc⟩ := h
 rcases Nat.eq_zero_or_pos n with h0 | hpos
 ·
  subst h0
  clear hc
  go_enter Tryz.func73, Tryz.ntmps73
  go_wp2
  refine wp_loop_rounds 1 ?_
  rw [rounds_succ]
  go_wp2
  go_ret
  exact ⟨ret_int (by omega), rfl⟩
 ·
  obtain ⟨b, off, rfl, hd⟩ := hc hpos
  clear hc
  go_enter Tryz.func73, Tryz.ntmps73
  go_wp2
  go_loop [1, 5] (fun kk i => ∃ j : Nat, j ≤ n ∧ i = .int .i64 j ∧ kk = .int .i64 ((k + j : Nat) : Int)) (fun _ i => n - (intOf i).toNat)
  case atStart => exact ⟨0, Nat.zero_le _, rfl, rfl⟩
  case round =>
   obtain ⟨j, hj, rfl, rfl⟩ := hrel
   by_cases hlt : j < n
   ·
    have hx := hd j hlt
    rw [imarks_at k n j hlt] at hx
    clear hd
    go_wp2
    go_round
    case rel => exact ⟨j + 1, by omega, by go_num, by go_num⟩
    case measure => simp [intOf]; omega
   ·
    clear hd
    go_wp2
    go_ret
    exact ⟨ret_int (by omega), rfl⟩

def Fp.wt (d : Fp) : Nat := d.name.length + d.kinds.length
def fwt : List Fp → Nat
 | [] => 0
 | d :: l => d.wt + fwt l
def Fp.mark (k : Nat) (d : Fp) : Fp := ⟨marks k d.name.length, imarks (k + d.name.length) d.kinds.length⟩
def markP (k : Nat) : List Fp → List Fp
 | [] => []
 | d :: l => d.mark k :: markP (k + d.wt) l
def Fa.wt (f : Fa) : Nat := f.name.length + fwt f.procs
def Fa.mark (k : Nat) (f : Fa) : Fa := ⟨marks k f.name.length, markP (k + f.name.length) f.procs⟩

theorem markP_len (k : Nat) (l : List Fp) : (markP k l).length = l.length := by
 induction l generalizing k with
 | nil => rfl
 | cons d l ih => simp [markP, ih]
theorem fwt_append (l m : List Fp) : fwt (l ++ m) = fwt l + fwt m := by
 induction l with
 | nil => simp [fwt]
 | cons x l ih => simp [fwt, ih]; omega
theorem fwt_next {ds : List Fp} {j : Nat} {d : Fp} (h : ds[j]? = some d) : fwt (ds.take (j + 1)) = fwt (ds.take j) + d.wt := by
 obtain ⟨hk, rfl⟩ := List.getElem?_eq_some_iff.1 h
 rw [List.take_succ_eq_append_getElem hk, fwt_append]
 simp [fwt]
theorem fwt_take (ds : List Fp) (k : Nat) : fwt (ds.take k) ≤ fwt ds := by
 have := fwt_append (ds.take k) (ds.drop k)
 rw [List.take_append_drop] at this
 omega
theorem markP_append (k : Nat) (l m : List Fp) : markP k (l ++ m) = markP k l ++ markP (k + fwt l) m := by
 induction l generalizing k with
 | nil => simp [markP, fwt]
 | cons x l ih => simp [markP, fwt, ih, Nat.add_assoc]
theorem markP_next (k : Nat) {ds : List Fp} {j : Nat} {d : Fp} (h : ds[j]? = some d) : markP k (ds.take (j + 1)) = markP k (ds.take j) ++ [d.mark (k + fwt (ds.take j))] := by
 obtain ⟨hk, rfl⟩ := List.getElem?_eq_some_iff.1 h
 rw [List.take_succ_eq_append_getElem hk, markP_append]
 simp [markP]

/-- What marks change: blocks from a up to b, none of them a row of records. -/
structure Tch (a b : Nat) (w w' : World) : Prop where
 os : w'.os = w.os
 tape : w'.tape = w.tape
 output : w'.output = w.output
 size : w.heap.size ≤ w'.heap.size
 block : ∀ g, g < w.heap.size → (g < a ∨ b ≤ g ∨ (∃ cur, w.heap[g]? = some (.cells cur 66 (0, 0)))) → w'.heap[g]? = w.heap[g]?
theorem Tch.refl (a b : Nat) (w : World) : Tch a b w w := ⟨rfl, rfl, rfl, Nat.le_refl _, fun _ _ _ => rfl⟩
theorem Tch.trans {a b : Nat} {u v w : World} (h : Tch a b u v) (k : Tch a b v w) : Tch a b u w :=
 ⟨k.os.trans h.os, k.tape.trans h.tape, k.output.trans h.output, Nat.le_trans h.size k.size, fun g hg ho => (k.block g (Nat.lt_of_lt_of_le hg h.size) (by
  rcases ho with e | e | ⟨c, e⟩
  ·
   exact .inl e
  ·
   exact .inr (.inl e)
  ·
   exact .inr (.inr ⟨c, (h.block g hg (.inr (.inr ⟨c, e⟩))).trans e⟩))).trans (h.block g hg ho)⟩
theorem Tch.wide {a b a' b' : Nat} {u v : World} (h : Tch a b u v) (p : a' ≤ a) (q : b ≤ b') : Tch a' b' u v :=
 ⟨h.os, h.tape, h.output, h.size, fun g hg ho => h.block g hg (by
  rcases ho with e | e | e
  ·
   exact .inl (by omega)
  ·
   exact .inr (.inl (by omega))
  ·
   exact .inr (.inr e))⟩
theorem Tch.of {w w' : World} {T a b n : Nat} {v : Value} {xs : List Value} (h : Ob w T a b v n xs) (hT : T ≠ 66) (hg : w.grownBy w' v.ownBlock) : Tch a b w w' :=
 ⟨hg.os, hg.tape, hg.output, hg.size, fun g hl ho => hg.block g hl (fun e => by
  have h1 := (h.own.lt g e.symm).1
  have h2 := h.lt g e.symm
  rcases ho with x | x | ⟨c, x⟩
  ·
   omega
  ·
   omega
  ·
   obtain ⟨c', x'⟩ := owns_type h.own e.symm
   rw [x] at x'
   simp only [Option.some.injEq, Obj.cells.injEq] at x'
   exact hT x'.2.1.symm)⟩
theorem Tch.stays {a b lo hi : Nat} {w w' : World} (h : Tch a b w w') (hd : hi ≤ a ∨ b ≤ lo) : StaysP lo hi w w' := fun g p q r => h.block g (by rcases r with ⟨c, e⟩ | ⟨c, e⟩ <;> exact (Array.getElem?_eq_some_iff.1 e).1) (by omega)
theorem Tch.row {a b lo n : Nat} {w w' : World} {v : Value} {xs : List Value} (h : Tch a b w w') (hr : w.ownsRow lo 66 2 v n xs) : w'.ownsRow lo 66 2 v n xs :=
 owns_stays hr fun g hg => h.block g (hr.lt g hg).2 (.inr (.inr (owns_type hr hg)))
theorem Tch.out {a b : Nat} {w w' : World} (h : Tch a b w w') : Out a b w w' := ⟨h.os, h.tape, h.output, h.size, fun g hg ho => h.block g hg (by omega)⟩

/-- How far records have been marked. -/
structure MkP (w : World) (lo m hi : Nat) (pv : Value) (l : List (Value × Value)) (ds : List Fp) (k : Nat) (wr : World) (j : Nat) : Prop where
 ps : ∃ mid, m ≤ mid ∧ mid ≤ hi ∧ Fps wr m mid (l.take j) (markP k (ds.take j)) ∧ Fps wr mid hi (l.drop j) (ds.drop j)
 row : wr.ownsRow lo 66 2 pv ds.length (flat2 l)
 tch : Tch m hi w wr

theorem MkP.next {w wr w1 w2 : World} {lo m hi mid m1 m2 : Nat} {pv x y : Value} {l : List (Value × Value)} {ds : List Fp} {d : Fp} {k j : Nat} (hl : l[j]? = some (x, y)) (hd : ds[j]? = some d)
  (hm : m ≤ mid) (hA : Fps wr m mid (l.take j) (markP k (ds.take j))) (h1 : mid ≤ m1) (h2 : m1 ≤ m2) (h3 : m2 ≤ hi) (hR : Fps wr m2 hi (l.drop (j + 1)) (ds.drop (j + 1)))
  (hx : Ob wr 5 mid m1 x d.name.length (bV d.name)) (hy : Ob wr 3 m1 m2 y d.kinds.length (iV d.kinds))
  (row : wr.ownsRow lo 66 2 pv ds.length (flat2 l)) (tch : Tch m hi w wr)
  (o1 : w1.ownsRow mid 5 1 x d.name.length (bV (marks (k + fwt (ds.take j)) d.name.length))) (g1 : wr.grownBy w1 x.ownBlock)
  (o2 : w2.ownsRow m1 3 1 y d.kinds.length (iV (imarks (k + fwt (ds.take j) + d.name.length) d.kinds.length))) (g2 : w1.grownBy w2 y.ownBlock) (hk : k + fwt (ds.take j) + d.name.length + d.kinds.length ≤ 2000000000) :
  MkP w lo m hi pv l ds k w2 (j + 1) := by
 have t1 := Tch.of hx (by decide) g1
 have hy1 := hy.stays (w' := w1) (fun g p q r => t1.stays (.inr (Nat.le_refl _)) g p q (.inr r))
 have t2 := Tch.of hy1 (by decide) g2
 have hx2 : Ob w2 5 mid m1 x d.name.length (bV (marks (k + fwt (ds.take j)) d.name.length)) := (Ob.mk o1 hx.lt).stays (fun g p q r => t2.stays (.inl (Nat.le_refl _)) g p q (.inl r))
 have hA2 := (hA.stays (t1.stays (.inl (Nat.le_refl _)))).stays (t2.stays (.inl h1))
 have hR2 := (hR.stays (t1.stays (.inr h2))).stays (t2.stays (.inr (Nat.le_refl _)))
 have e : l.take (j + 1) = l.take j ++ [(x, y)] := by
  obtain ⟨hj, hx⟩ := List.getElem?_eq_some_iff.1 hl
  rw [List.take_succ_eq_append_getElem hj, hx]
 refine ⟨⟨m2, by omega, h3, ?_, hR2⟩, t2.row (t1.row row), tch.trans ((t1.wide hm (by omega)).trans (t2.wide (by omega) h3))⟩
 rw [e, markP_next k hd]
 refine hA2.snoc hm h1 h2 ?_ (marks_byte _ _) ?_ (imarks_int _ _ (by omega))
 ·
  show Ob w2 _ _ _ _ (marks _ _).length _
  rw [marks_length]; exact hx2
 ·
  show Ob w2 _ _ _ _ (imarks _ _).length _
  rw [imarks_length]; exact ⟨o2, hy.lt⟩

set_option maxHeartbeats 4000000 in
theorem markFps (lo m hi : Nat) (pv : Value) (l : List (Value × Value)) (ds : List Fp) (k : Nat) (w : World) (hrow : w.ownsRow lo 66 2 pv ds.length (flat2 l)) (hp : Fps w m hi l ds) (hm : m ≤ hi) (hk : k + fwt ds ≤ 1000000000) (hN : ds.length ≤ 1048576) :
  Calls Tryz.prog 41 #[pv, .int .i64 k] w fun e w' => e = .returned (.int .i64 ((k + fwt ds : Nat) : Int)) ∧ Fps w' m hi l (markP k ds) ∧ w'.ownsRow lo 66 2 pv ds.length (flat2 l) ∧ Tch m hi w w' := by
 have HLD : Hid (l.length = ds.length) := hp.len
 have H0 : Hid (MkP w lo m hi pv l ds k w 0) := ⟨⟨m, Nat.le_refl _, hm, by simp [markP, Fps], by simpa using hp⟩, hrow, Tch.refl _ _ _⟩
 obtain ⟨a, c, rfl, hc1, hc2, hc3, hc4⟩ := owns_shape hrow
 obtain ⟨n, hn⟩ : ∃ z, z = ds.length := ⟨_, rfl⟩
 have HN9 : Hid (ds.length = n) := hn.symm
 rw [← hn] at hc1 hc4 hN H0 ⊢
 clear hrow hp hn
 have hn9 : n ≤ 9223372036854775807 := by omega
 generalize hW : fwt ds = W at hk ⊢
 have HW : Hid (fwt ds = W) := hW
 clear hW
 go_enter Tryz.func41, Tryz.ntmps41
 go_wp2_with fail
 go_loopw [1, 5] (fun kk i wr => ∃ (j kj : Nat), j ≤ n ∧ i = .int .i64 j ∧ kk = .int .i64 kj ∧ Hid (kj = k + fwt (ds.take j)) ∧ Hid (MkP w lo m hi (.slice a n c) l ds k wr j)) (fun _ i _ => n - (intOf i).toNat)
 case atStart => exact ⟨0, k, Nat.zero_le _, rfl, rfl, by show _ = _; simp [fwt], H0⟩
 case round =>
  obtain ⟨j, kj, hj, rfl, rfl, hkj, hst⟩ := hrel
  clear H0
  by_cases hlt : j < n
  ·
   obtain ⟨d, hd⟩ : ∃ d, ds[j]? = some d := ⟨_, List.getElem?_eq_getElem (by rw [HN9.out]; exact hlt)⟩
   obtain ⟨⟨x, y⟩, hx⟩ : ∃ x, l[j]? = some x := ⟨_, List.getElem?_eq_getElem (by rw [HLD.out, HN9.out]; exact hlt)⟩
   obtain ⟨g, rfl⟩ := hc4 (by omega)
   obtain ⟨⟨mid, hm1, hm2, hA, hB⟩, hrow0, tch⟩ := hst.out
   have hrow := hrow0
   rw [HN9.out] at hrow
   rw [drop_at hx, drop_at hd] at hB
   obtain ⟨d', ds', m1, m2, e, ha, hb, hc, h1, hbn, h2, hin, h3⟩ := hB
   simp only [List.cons.injEq] at e
   obtain ⟨rfl, rfl⟩ := e
   obtain ⟨f1, f2⟩ := flat2_at hx
   have q0 := owns_cells hrow _ _ f1
   have q1 := owns_cells hrow _ _ f2
   have hnx := fwt_next hd
   have hle := fwt_take ds (j + 1)
   rw [hnx, HW.out] at hle
   unfold Fp.wt at hnx hle
   have hkk := hkj.out
   have H1 := markB mid x d.name.length d.name kj wr ⟨h1.own, hbn⟩ (by omega) (by omega)
   have HX : Hid (∀ w1 w2, w1.ownsRow mid 5 1 x d.name.length (bV (marks kj d.name.length)) → wr.grownBy w1 x.ownBlock → w2.ownsRow m1 3 1 y d.kinds.length (iV (imarks (kj + d.name.length) d.kinds.length)) → w1.grownBy w2 y.ownBlock → MkP w lo m hi (.slice (some ⟨g, 0, none⟩) n c) l ds k w2 (j + 1)) := by
    intro w1 w2 o1 g1 o2 g2
    rw [hkk] at o1 o2
    exact MkP.next hx hd hm1 hA ha hb hc h3 h1 h2 hrow0 tch o1 g1 o2 g2 (by omega)
   have HY : Hid (∀ w1, wr.grownBy w1 x.ownBlock → w1.cell? ⟨g, j * 2 + 1, none⟩ = some y ∧ Ob w1 3 m1 m2 y d.kinds.length (iV d.kinds)) := by
    intro w1 g1
    have t1 := Tch.of h1 (by decide) g1
    exact ⟨owns_cells (t1.row hrow) _ _ f2, h2.stays (fun g p q r => t1.stays (.inr (Nat.le_refl _)) g p q (.inr r))⟩
   have HK1 : Hid (kj + d.name.length + d.kinds.length = k + fwt (ds.take (j + 1))) := by show _ = _; omega
   have hb1 : kj + d.name.length + d.kinds.length ≤ 1000000000 := by omega
   clear hst hA h1 h2 h3 hrow hrow0 tch f1 f2 hnx hle hkk hkj hx hd
   simp only at q0 q1
   go_wp2_with fail
   refine H1.mono ?_
   rintro e w1 ⟨rfl, o1, g1⟩
   obtain ⟨c1, o2⟩ := HY.out w1 g1
   have H2 := markI m1 y d.kinds.length d.kinds (kj + d.name.length) w1 rfl o2.own (by omega)
   clear HY H1 q0 q1
   go_wp2_with fail
   refine H2.mono ?_
   rintro e w2 ⟨rfl, o3, g3⟩
   have HF : Hid _ := HX.out w1 w2 o1.1 g1 o3 g3
   clear HX H2 c1 o2 o1 g1 o3 g3
   go_wp2_with fail
   go_roundw
   case rel => exact ⟨j + 1, kj + d.name.length + d.kinds.length, by omega, by go_num, rfl, HK1, HF⟩
   case measure => simp [intOf]; omega
  ·
   have : n = j := by omega
   subst this
   have hkk := hkj.out
   obtain ⟨⟨mid, hm1, hm2, hA, hB⟩, hrow, tch⟩ := hst.out
   have e1 : ds.take n = ds := List.take_of_length_le (by rw [HN9.out]; exact Nat.le_refl _)
   have e2 : l.take n = l := List.take_of_length_le (by rw [HLD.out, HN9.out]; exact Nat.le_refl _)
   rw [e1, HW.out] at hkk
   rw [e1, e2] at hA
   have HA : Hid (Fps wr m hi l (markP k ds) ∧ wr.ownsRow lo 66 2 (.slice a n c) n (flat2 l) ∧ Tch m hi w wr) := ⟨hA.wide (Nat.le_refl _) hm2, by rw [HN9.out] at hrow; exact hrow, tch⟩
   clear hA hB hrow tch hst
   go_wp2_with fail
   go_ret
   exact ⟨ret_int (by omega), HA.out⟩

set_option maxHeartbeats 4000000 in
theorem heldFps (lo m hi : Nat) (pv : Value) (l : List (Value × Value)) (ds : List Fp) (k : Nat) (w : World) (hrow : w.ownsRow lo 66 2 pv ds.length (flat2 l)) (hp : Fps w m hi l (markP k ds)) (hk : k + fwt ds ≤ 1000000000) (hN : ds.length ≤ 1048576) :
  Calls Tryz.prog 43 #[pv, .int .i64 k] w fun e w' => e = .returned (.int .i64 ((k + fwt ds : Nat) : Int)) ∧ w' = w := by
 have HLD : Hid (l.length = ds.length) := by have := hp.len; rwa [markP_len] at this
 have HP : Hid (Fps w m hi l (markP k ds)) := hp
 obtain ⟨a, c, rfl, hc1, hc2, hc3, hc4⟩ := owns_shape hrow
 have HRW : Hid (w.ownsRow lo 66 2 (.slice a ds.length c) ds.length (flat2 l)) := hrow
 obtain ⟨n, hn⟩ : ∃ z, z = ds.length := ⟨_, rfl⟩
 have HN9 : Hid (ds.length = n) := hn.symm
 rw [← hn] at hc1 hc4 hN HRW ⊢
 clear hrow hp hn
 have hn9 : n ≤ 9223372036854775807 := by omega
 generalize hW : fwt ds = W at hk ⊢
 have HW : Hid (fwt ds = W) := hW
 clear hW
 go_enter Tryz.func43, Tryz.ntmps43
 go_wp2_with fail
 go_loop [1, 5] (fun kk i => ∃ (j kj : Nat), j ≤ n ∧ i = .int .i64 j ∧ kk = .int .i64 kj ∧ Hid (kj = k + fwt (ds.take j))) (fun _ i => n - (intOf i).toNat)
 case atStart => exact ⟨0, k, Nat.zero_le _, rfl, rfl, by show _ = _; simp [fwt]⟩
 case round =>
  obtain ⟨j, kj, hj, rfl, rfl, hkj⟩ := hrel
  by_cases hlt : j < n
  ·
   obtain ⟨d, hd⟩ : ∃ d, ds[j]? = some d := ⟨_, List.getElem?_eq_getElem (by rw [HN9.out]; exact hlt)⟩
   obtain ⟨⟨x, y⟩, hx⟩ : ∃ x, l[j]? = some x := ⟨_, List.getElem?_eq_getElem (by rw [HLD.out, HN9.out]; exact hlt)⟩
   obtain ⟨g, rfl⟩ := hc4 (by omega)
   have hrow := HRW.out
   have hj' : ds.drop j = d :: ds.drop (j + 1) := drop_at hd
   obtain ⟨mid, hm1, hB⟩ : ∃ mid hi', Fps w mid hi' (l.drop j) (markP (k + fwt (ds.take j)) (ds.drop j)) := by
    have e : markP k ds = markP k (ds.take j) ++ markP (k + fwt (ds.take j)) (ds.drop j) := by rw [← markP_append, List.take_append_drop]
    have hP := HP.out
    by_cases hmh : m ≤ hi
    ·
     obtain ⟨mid, _, _, _, h4⟩ := hP.part j hmh
     have e3 : (markP k ds).drop j = markP (k + fwt (ds.take j)) (ds.drop j) := by
      have h5 : (markP k (ds.take j)).length = j := by rw [markP_len, List.length_take, HN9.out]; omega
      rw [e, List.drop_append, h5, Nat.sub_self, List.drop_of_length_le (by omega)]
      rfl
     rw [e3] at h4
     exact ⟨mid, hi, h4⟩
    ·
     exfalso
     cases l with
     | nil => simp at hx
     | cons z l => obtain ⟨_, _, m1, m2, _, p, q, r, _⟩ := hP; omega
   rw [hj', drop_at hx] at hB
   unfold markP at hB
   obtain ⟨d', ds', m1, m2, e, ha, hb, hc, h1, hbn, h2, hin, h3⟩ := hB
   simp only [List.cons.injEq] at e
   obtain ⟨rfl, rfl⟩ := e
   obtain ⟨f1, f2⟩ := flat2_at hx
   have q0 := owns_cells hrow _ _ f1
   have q1 := owns_cells hrow _ _ f2
   have hnx := fwt_next hd
   have hle := fwt_take ds (j + 1)
   rw [hnx, HW.out] at hle
   unfold Fp.wt at hnx hle
   have hkk := hkj.out
   rw [← hkk] at h1 h2 hbn hin
   simp only [Fp.mark] at h1 h2 hbn hin
   obtain ⟨ax, cx, rfl, rx, _⟩ := h1.brow hbn
   obtain ⟨ay, cy, rfl, ry, _⟩ := h2.irow hin
   rw [marks_length] at rx
   rw [imarks_length] at ry
   simp only [marks_length, imarks_length] at q0 q1
   have H1 := heldB ax d.name.length cx kj w rx (by omega) (by omega)
   have H2 := heldI ay d.kinds.length cy (kj + d.name.length) w ry (by omega)
   have HK1 : Hid (kj + d.name.length + d.kinds.length = k + fwt (ds.take (j + 1))) := by show _ = _; omega
   have hb1 : kj + d.name.length + d.kinds.length ≤ 1000000000 := by omega
   clear h1 h2 h3 hrow f1 f2 hnx hle hkk hkj hx hd hj' hbn hin rx ry
   go_wp2_with fail
   refine H1.mono ?_
   rintro e w1 ⟨rfl, rfl⟩
   go_wp2_with fail
   refine H2.mono ?_
   rintro e w2 ⟨rfl, rfl⟩
   go_wp2_with fail
   go_round
   case rel => exact ⟨j + 1, kj + d.name.length + d.kinds.length, by omega, by go_num, rfl, HK1⟩
   case measure => simp [intOf]; omega
  ·
   have : n = j := by omega
   subst this
   have hkk := hkj.out
   rw [List.take_of_length_le (by rw [HN9.out]; exact Nat.le_refl _), HW.out] at hkk
   go_wp2_with fail
   go_ret
   exact ⟨ret_int (by omega), rfl⟩

theorem Fg.out {w w' : World} {lo hi : Nat} {nv pv : Value} {l : List (Value × Value)} {f : Fa} (h : Fg w lo hi nv pv l f) (b : Below w.heap.size w w') (hh : hi ≤ w.heap.size) : Fg w' lo hi nv pv l f := h.stays (Stays.of b hh)

set_option maxHeartbeats 4000000 in
theorem markFaceG (lo hi : Nat) (nv pv : Value) (l : List (Value × Value)) (f : Fa) (k : Nat) (w : World) (h : Fg w lo hi nv pv l f) (hh : hi ≤ w.heap.size) (hk : k + f.wt ≤ 1000000000) (hN : f.procs.length ≤ 1048576) :
  Calls Tryz.prog 12 #[.agg #[nv, pv], .int .i64 k] w fun e w' => e = .returned (.int .i64 ((k + f.wt : Nat) : Int)) ∧ Fg w' lo hi nv pv l (f.mark k) ∧ Out lo hi w w' := by
 have x0 := Blk.new w 31 [nv, pv]
 have y0 : Below w.heap.size w (w.alloc (.cells #[nv, pv] 31 (0, 0))) := (Below.refl _ _).alloc (Nat.le_refl _) _
 have h0 := h.out y0 hh
 have O0 : Out lo hi w (w.alloc (.cells #[nv, pv] 31 (0, 0))) := Out.grown (grown_alloc w _ none)
 simp only [List.toArray] at x0
 clear h
 go_enter Tryz.func12, Tryz.ntmps12
 go_upto_region 1 with fail
 generalize w.alloc (.cells #[nv, pv] 31 (0, 0)) = w0 at *
 have q0 := x0.cell (i := 0) rfl
 obtain ⟨m, a, b, n1, nb, ps⟩ := h0.name
 have row := h0.row
 have lt := h0.lt
 have hwt : f.wt = f.name.length + fwt f.procs := rfl
 have H1 := markB lo nv f.name.length f.name k w0 ⟨n1.own, nb⟩ (by omega) (by omega)
 go_wp2_with fail
 refine H1.mono ?_
 rintro e w1 ⟨rfl, o1, g1⟩
 have t1 := Tch.of n1 (by decide) g1
 have x1 := t1.out.blk x0 (.inr (by omega))
 have q1 := x1.cell (i := 1) rfl
 have H2 := markFps lo m hi pv l f.procs (k + f.name.length) w1 (t1.row row) (ps.stays (t1.stays (.inr (Nat.le_refl _)))) b (by omega) hN
 clear q0 H1
 go_wp2_with fail
 refine H2.mono ?_
 rintro e w2 ⟨rfl, p2, r2, t2⟩
 have HF : Hid (Fg w2 lo hi nv pv l (f.mark k) ∧ Out lo hi w w2) := by
  refine ⟨⟨⟨m, a, b, ?_, marks_byte _ _, p2⟩, ?_, lt⟩, (O0.trans (t1.out.wide (Nat.le_refl _) b)).trans (t2.out.wide a (Nat.le_refl _))⟩
  ·
   show Ob w2 _ _ _ _ (marks _ _).length _
   rw [marks_length]
   exact (Ob.mk o1.1 n1.lt).stays (fun g p q r => t2.stays (.inl (Nat.le_refl _)) g p q (.inl r))
  ·
   show w2.ownsRow _ _ _ _ (markP _ _).length _
   rw [markP_len]; exact r2
 clear H2 q1 x0 x1 t1 t2 p2 r2 o1 g1 h0 n1 ps row y0 O0 lt
 go_wp2_with fail
 go_ret
 exact ⟨ret_int (by rw [hwt]; omega), HF.out⟩

set_option maxHeartbeats 4000000 in
theorem heldFaceG (lo hi : Nat) (nv pv : Value) (l : List (Value × Value)) (f : Fa) (k : Nat) (w : World) (h : Fg w lo hi nv pv l (f.mark k)) (hh : hi ≤ w.heap.size) (hk : k + f.wt ≤ 1000000000) (hN : f.procs.length ≤ 1048576) :
  Calls Tryz.prog 13 #[.agg #[nv, pv], .int .i64 k] w fun e w' => e = .returned (.int .i64 ((k + f.wt : Nat) : Int)) ∧ Below w.heap.size w w' := by
 have x0 := Blk.new w 31 [nv, pv]
 have y0 : Below w.heap.size w (w.alloc (.cells #[nv, pv] 31 (0, 0))) := (Below.refl _ _).alloc (Nat.le_refl _) _
 have h0 := h.out y0 hh
 simp only [List.toArray] at x0
 clear h
 go_enter Tryz.func13, Tryz.ntmps13
 go_upto_region 1 with fail
 generalize w.alloc (.cells #[nv, pv] 31 (0, 0)) = w0 at *
 obtain ⟨q0, q1⟩ := x0.c2
 obtain ⟨m, a, b, n1, nb, ps⟩ := h0.name
 have row := h0.row
 have hwt : f.wt = f.name.length + fwt f.procs := rfl
 simp only [Fa.mark] at n1 nb ps row
 rw [markP_len] at row
 obtain ⟨ax, cx, rfl, rx, _⟩ := n1.brow nb
 rw [marks_length] at rx
 simp only [marks_length] at q0
 have H1 := heldB ax f.name.length cx k w0 rx (by omega) (by omega)
 have H2 := heldFps lo m hi pv l f.procs (k + f.name.length) w0 row ps (by omega) hN
 have HB : Hid (Below w.heap.size w w0) := y0
 clear n1 nb ps row rx y0 h0
 go_wp2_with fail
 refine H1.mono ?_
 rintro e w1 ⟨rfl, rfl⟩
 go_wp2_with fail
 refine H2.mono ?_
 rintro e w2 ⟨rfl, rfl⟩
 go_wp2_with fail
 go_ret
 exact ⟨ret_int (by rw [hwt]; omega), HB.out⟩
end Go.Proofs.YtopnodadggohiaaGreatDoor

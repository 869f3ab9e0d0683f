/- An image of one's own while it is made; append of noughts, of words, of a region. No function is walked here. -/
import Derived.Test.YtefciaeajlgheaaLkPure
import Derived.Test.YtefciaeajlgheaaAppendB
namespace Go.Proofs.Ytefciaeajlgheaa
open Go.RowKit
set_option linter.unusedVariables false
set_option linter.unusedSimpArgs false
set_option maxRecDepth 100000

theorem owns_type {w : World} {T base n k g : Nat} {v : Value} {xs : List Value} (h : w.ownsRow base T k v n xs) (hg : v.ownBlock = some g) : ∃ cur, w.heap[g]? = some (.cells cur T (0, 0)) := by
  rcases h.2 with ⟨e, _⟩ | ⟨g', cap, cur, hv, _, hh, _⟩
  · rw [e] at hg; cases hg
  · rw [hv] at hg
    simp only [Value.ownBlock, Option.some.injEq] at hg
    subst hg
    exact ⟨cur, hh⟩
theorem owns_stays {w w' : World} {T base n k : Nat} {v : Value} {xs : List Value} (h : w.ownsRow base T k v n xs) (hs : ∀ g, v.ownBlock = some g → w'.heap[g]? = w.heap[g]?) : w'.ownsRow base T k v n xs := by
  refine ⟨h.1, ?_⟩
  rcases h.2 with hn | ⟨g, cap, cur, hv, hg, hh, r⟩
  · exact .inl hn
  · exact .inr ⟨g, cap, cur, hv, hg, by rw [hs g (by rw [hv]; rfl)]; exact hh, r⟩
theorem owns_mono {w : World} {T base base' n k : Nat} {v : Value} {xs : List Value} (h : w.ownsRow base T k v n xs) (hb : base' ≤ base) : w.ownsRow base' T k v n xs := by
  refine ⟨h.1, ?_⟩
  rcases h.2 with hn | ⟨g, cap, cur, hv, hg, r⟩
  · exact .inl hn
  · exact .inr ⟨g, cap, cur, hv, by omega, r⟩
theorem owns_shape {w : World} {T base n k : Nat} {v : Value} {xs : List Value} (h : w.ownsRow base T k v n xs) : ∃ a c, v = .slice a n c ∧ n ≤ c ∧ c ≤ maxLen ∧ (a = none → c = 0) ∧ (0 < n → ∃ g, a = some ⟨g, 0, none⟩) := by
  rcases h.2 with ⟨rfl, rfl⟩ | ⟨g, cap, cur, rfl, hg, hh, hnc, hcm, hs, ht⟩
  · exact ⟨none, 0, rfl, by omega, by simp, fun _ => rfl, by omega⟩
  · exact ⟨_, cap, rfl, hnc, hcm, by simp, fun _ => ⟨g, rfl⟩⟩
theorem owns_cells {w : World} {T base n k g c : Nat} {xs : List Value} (h : w.ownsRow base T k (.slice (some ⟨g, 0, none⟩) n c) n xs) : ∀ i v, xs[i]? = some v → w.cell? ⟨g, i, none⟩ = some v := by
  intro i v hv
  have hi := (List.getElem?_eq_some_iff.1 hv).1
  rw [h.cellAt i (by have := h.1; omega)]
  exact hv

/-- Cells of one's own (of type T), in a block from lo up to hi. -/
structure Pc (w : World) (T : TypeId) (k lo hi : Nat) (v : Value) (n : Nat) (xs : List Value) : Prop where
  own : w.ownsRow lo T k v n xs
  lt : ∀ g, v.ownBlock = some g → g < hi
theorem Pc.stays {w w' : World} {T k lo hi n : Nat} {v : Value} {xs : List Value} (h : Pc w T k lo hi v n xs) (hs : ∀ g, lo ≤ g → g < hi → (∃ cur, w.heap[g]? = some (.cells cur T (0, 0))) → w'.heap[g]? = w.heap[g]?) : Pc w' T k lo hi v n xs :=
  ⟨owns_stays h.own fun g hg => hs g (h.own.lt g hg).1 (h.lt g hg) (owns_type h.own hg), h.lt⟩
theorem Pc.wide {w : World} {T k lo hi lo' hi' n : Nat} {v : Value} {xs : List Value} (h : Pc w T k lo hi v n xs) (a : lo' ≤ lo) (b : hi ≤ hi') : Pc w T k lo' hi' v n xs :=
  ⟨owns_mono h.own a, fun g hg => Nat.lt_of_lt_of_le (h.lt g hg) b⟩

def bV (l : List Int) : List Value := l.map (Value.int .u8)
def isB (l : List Int) : Prop := ∀ x ∈ l, 0 ≤ x ∧ x ≤ 255
def Wo.vals (x : Wo) : List Value := [.bool x.t, .int .i64 x.n, .int .i64 x.l, .int .i64 x.h, .int .i64 x.a, .int .i64 x.p, .int .i64 x.s]
def flatW : List Wo → List Value
  | [] => []
  | x :: l => x.vals ++ flatW l
def Rg.vals (c : Value) (r : Rg) : List Value := [.int .i64 r.lo, .int .i64 r.hi, .int .i64 r.own, c]
def flatR : List (Value × Rg) → List Value
  | [] => []
  | x :: l => x.2.vals x.1 ++ flatR l
theorem flatW_append (l m : List Wo) : flatW (l ++ m) = flatW l ++ flatW m := by
  induction l with
  | nil => rfl
  | cons x l ih => simp [flatW, ih]
theorem flatR_append (l m : List (Value × Rg)) : flatR (l ++ m) = flatR l ++ flatR m := by
  induction l with
  | nil => rfl
  | cons x l ih => simp [flatR, ih]
theorem flatW_len (l : List Wo) : (flatW l).length = l.length * 7 := by
  induction l with
  | nil => rfl
  | cons x l ih => simp [flatW, Wo.vals, ih]; omega
theorem flatR_len (l : List (Value × Rg)) : (flatR l).length = l.length * 4 := by
  induction l with
  | nil => rfl
  | cons x l ih => simp [flatR, Rg.vals, ih]; omega
theorem flatW_at {l : List Wo} {j i : Nat} {x : Wo} (hi : i < 7) (h : l[j]? = some x) : (flatW l)[j * 7 + i]? = x.vals[i]? := by
  induction l generalizing j with
  | nil => simp at h
  | cons y l ih =>
    cases j with
    | zero =>
      simp only [List.getElem?_cons_zero, Option.some.injEq] at h
      subst h
      rw [flatW, Nat.zero_mul, Nat.zero_add, List.getElem?_append_left (by simpa [Wo.vals] using hi)]
    | succ j =>
      rw [List.getElem?_cons_succ] at h
      have e : (j + 1) * 7 + i = y.vals.length + (j * 7 + i) := by simp [Wo.vals]; omega
      rw [flatW, e, List.getElem?_append_right (by omega), Nat.add_sub_cancel_left]
      exact ih h
theorem flatR_at {l : List (Value × Rg)} {j i : Nat} {x : Value × Rg} (hi : i < 4) (h : l[j]? = some x) : (flatR l)[j * 4 + i]? = (x.2.vals x.1)[i]? := by
  induction l generalizing j with
  | nil => simp at h
  | cons y l ih =>
    cases j with
    | zero =>
      simp only [List.getElem?_cons_zero, Option.some.injEq] at h
      subst h
      rw [flatR, Nat.zero_mul, Nat.zero_add, List.getElem?_append_left (by simpa [Rg.vals] using hi)]
    | succ j =>
      rw [List.getElem?_cons_succ] at h
      have e : (j + 1) * 4 + i = (y.2.vals y.1).length + (j * 4 + i) := by simp [Rg.vals]; omega
      rw [flatR, e, List.getElem?_append_right (by omega), Nat.add_sub_cancel_left]
      exact ih h
theorem flatW_one (l : List Wo) : ∀ v ∈ flatW l, v.oneCell' = true := by
  induction l with
  | nil => simp [flatW]
  | cons x l ih =>
    intro v hv
    rw [flatW, List.mem_append] at hv
    rcases hv with hv | hv
    · simp only [Wo.vals, List.mem_cons, List.not_mem_nil, or_false] at hv
      rcases hv with h | h | h | h | h | h | h <;> (rw [h]; rfl)
    · exact ih v hv

/-- The codes' own pieces. -/
def Cds (w : World) : Nat → Nat → List (Value × Rg) → Prop
  | lo, hi, [] => True
  | lo, hi, x :: l => ∃ m, lo ≤ m ∧ m ≤ hi ∧ Pc w 5 1 lo m x.1 x.2.code.length (bV x.2.code) ∧ isB x.2.code ∧ Cds w m hi l
/-- Blocks of bytes from lo up to hi stay. -/
def StaysB (lo hi : Nat) (w w' : World) : Prop := ∀ g, lo ≤ g → g < hi → (∃ cur, w.heap[g]? = some (.cells cur 5 (0, 0))) → w'.heap[g]? = w.heap[g]?
theorem StaysB.mono {lo hi lo' hi' : Nat} {w w' : World} (h : StaysB lo hi w w') (a : lo ≤ lo') (b : hi' ≤ hi) : StaysB lo' hi' w w' := fun g h1 h2 h3 => h g (by omega) (by omega) h3
theorem StaysB.of {lo hi : Nat} {w w' : World} (h : Stays lo hi w w') : StaysB lo hi w w' := fun g h1 h2 _ => h g h1 h2
theorem Cds.stays {w w' : World} : ∀ {l : List (Value × Rg)} {lo hi : Nat}, Cds w lo hi l → StaysB lo hi w w' → Cds w' lo hi l := by
  intro l
  induction l with
  | nil => intro lo hi _ _; exact trivial
  | cons x l ih =>
    intro lo hi h hs
    obtain ⟨m, a, b, h1, hb, h2⟩ := h
    exact ⟨m, a, b, h1.stays (fun g p q r => hs g p (by omega) r), hb, ih h2 (hs.mono a (Nat.le_refl _))⟩
theorem Cds.wide {w : World} : ∀ {l : List (Value × Rg)} {lo hi lo' hi' : Nat}, Cds w lo hi l → lo' ≤ lo → hi ≤ hi' → Cds w lo' hi' l := by
  intro l
  induction l with
  | nil => intro lo hi lo' hi' _ _ _; exact trivial
  | cons x l ih =>
    intro lo hi lo' hi' h p q
    obtain ⟨m, a, b, h1, hb, h2⟩ := h
    exact ⟨m, by omega, by omega, h1.wide p (Nat.le_refl _), hb, ih h2 (Nat.le_refl _) q⟩
theorem Cds.snoc {w : World} : ∀ {l : List (Value × Rg)} {lo mid hi : Nat} {x : Value × Rg}, Cds w lo mid l → lo ≤ mid → mid ≤ hi → Pc w 5 1 mid hi x.1 x.2.code.length (bV x.2.code) → isB x.2.code → Cds w lo hi (l ++ [x]) := by
  intro l
  induction l with
  | nil =>
    intro lo mid hi x h p q h1 hb
    exact ⟨hi, by omega, Nat.le_refl _, h1.wide p (Nat.le_refl _), hb, trivial⟩
  | cons y l ih =>
    intro lo mid hi x h p q h1 hb
    obtain ⟨m, a, b, e1, eb, e2⟩ := h
    exact ⟨m, a, by omega, e1, eb, ih e2 b q h1 hb⟩
theorem Pc.brow {w : World} {lo hi : Nat} {v : Value} {l : List Int} (h : Pc w 5 1 lo hi v l.length (bV l)) (hb : isB l) : (Fl.b l).Rd w v := by
  obtain ⟨a, c, rfl, h1, h2, h3, _⟩ := owns_shape h.own
  exact ⟨a, c, rfl, Own.row (base := lo) ⟨h.own, hb⟩, h1, h2, h3⟩
theorem Cds.rows {w : World} {g : Nat} : ∀ {l : List (Value × Rg)} {lo hi off : Nat}, Cds w lo hi l → (∀ i v, (flatR l)[i]? = some v → w.cell? ⟨g, off + i, none⟩ = some v) → RdRows w g 4 off (l.map fun x => x.2.fl) := by
  intro l
  induction l with
  | nil => intro lo hi off h _; exact trivial
  | cons x l ih =>
    intro lo hi off h hc
    obtain ⟨m, a, b, h1, hb, h2⟩ := h
    refine ⟨⟨⟨_, hc 0 _ rfl, rfl⟩, ⟨_, hc 1 _ rfl, rfl⟩, ⟨_, hc 2 _ rfl, rfl⟩, ⟨_, hc 3 _ rfl, h1.brow hb⟩, trivial⟩, ih h2 fun i v hv => ?_⟩
    have := hc (i + 4) v (by simpa [flatR, Rg.vals] using hv)
    rw [show off + (i + 4) = off + 4 + i by omega] at this
    exact this
theorem wrows {w : World} {g : Nat} : ∀ {l : List Wo} {off : Nat}, (∀ i v, (flatW l)[i]? = some v → w.cell? ⟨g, off + i, none⟩ = some v) → RdRows w g 7 off (l.map Wo.fl) := by
  intro l
  induction l with
  | nil => intro off _; exact trivial
  | cons x l ih =>
    intro off hc
    refine ⟨⟨⟨_, hc 0 _ rfl, rfl⟩, ⟨_, hc 1 _ rfl, rfl⟩, ⟨_, hc 2 _ rfl, rfl⟩, ⟨_, hc 3 _ rfl, rfl⟩, ⟨_, hc 4 _ rfl, rfl⟩, ⟨_, hc 5 _ rfl, rfl⟩, ⟨_, hc 6 _ rfl, rfl⟩, trivial⟩, ih fun i v hv => ?_⟩
    have := hc (i + 7) v (by simpa [flatW, Wo.vals] using hv)
    rw [show off + (i + 7) = off + 7 + i by omega] at this
    exact this

/-- An image of one's own: regions and their codes below hi, words below h2. -/
structure Im (w : World) (lo hi h2 : Nat) (mv wv : Value) (l : List (Value × Rg)) (ws : List Wo) : Prop where
  codes : Cds w lo hi l
  mrow : Pc w 50 4 lo hi mv l.length (flatR l)
  wrow : Pc w 55 7 lo h2 wv ws.length (flatW ws)
theorem Im.keep {w w' : World} {lo hi h2 : Nat} {mv wv : Value} {l : List (Value × Rg)} {ws : List Wo} (h : Im w lo hi h2 mv wv l ws)
    (hs : ∀ g T, lo ≤ g → (∃ cur, w.heap[g]? = some (.cells cur T (0, 0))) → (T = 5 ∧ g < hi ∨ T = 50 ∧ g < hi ∨ T = 55 ∧ g < h2) → w'.heap[g]? = w.heap[g]?) : Im w' lo hi h2 mv wv l ws :=
  ⟨h.codes.stays (fun g a b r => hs g _ a r (.inl ⟨rfl, b⟩)), h.mrow.stays (fun g a b r => hs g _ a r (.inr (.inl ⟨rfl, b⟩))), h.wrow.stays (fun g a b r => hs g _ a r (.inr (.inr ⟨rfl, b⟩)))⟩
theorem Im.wide {w : World} {lo hi h2 lo' hi' h2' : Nat} {mv wv : Value} {l : List (Value × Rg)} {ws : List Wo} (h : Im w lo hi h2 mv wv l ws) (a : lo' ≤ lo) (b : hi ≤ hi') (c : h2 ≤ h2') : Im w lo' hi' h2' mv wv l ws :=
  ⟨h.codes.wide a b, h.mrow.wide a b, h.wrow.wide a c⟩
theorem Im.below {w w' : World} {lo hi h2 : Nat} {mv wv : Value} {l : List (Value × Rg)} {ws : List Wo} (h : Im w lo hi h2 mv wv l ws) (hb : Below w.heap.size w w') : Im w' lo hi h2 mv wv l ws := h.keep fun g T _ ⟨c, hc⟩ _ => hb.block g (Array.getElem?_eq_some_iff.1 hc).1
theorem Im.stays {w w' : World} {lo hi : Nat} {mv wv : Value} {l : List (Value × Rg)} {ws : List Wo} (h : Im w lo hi hi mv wv l ws) (hs : Stays lo hi w w') : Im w' lo hi hi mv wv l ws := h.keep fun g T a _ hb => hs g a (by rcases hb with hb | hb | hb <;> exact hb.2)

theorem typ_ne {w : World} {g T U : Nat} {c d : Array Value} (h : w.heap[g]? = some (.cells c T (0, 0))) (k : w.heap[g]? = some (.cells d U (0, 0))) : T = U := by
  rw [h] at k
  simp only [Option.some.injEq, Obj.cells.injEq] at k
  exact k.2.1
/-- A row of type T has grown: what is of another type stays. -/
theorem grown_other {w w' : World} {T base n k : Nat} {v : Value} {xs : List Value} (h : w.ownsRow base T k v n xs) (hg : w.grownBy w' v.ownBlock) {g U : Nat} (hne : U ≠ T) (hu : ∃ cur, w.heap[g]? = some (.cells cur U (0, 0))) : w'.heap[g]? = w.heap[g]? := by
  obtain ⟨c, hc⟩ := hu
  refine hg.block g (Array.getElem?_eq_some_iff.1 hc).1 fun e => ?_
  obtain ⟨d, hd⟩ := owns_type h e.symm
  exact hne (typ_ne hc hd)

theorem blk_typ {w : World} {g T U : Nat} {vs : List Value} (h : Blk w g T vs) (hu : ∃ cur, w.heap[g]? = some (.cells cur U (0, 0))) : U = T := by
  obtain ⟨c, hc⟩ := hu
  exact typ_ne hc h
/-- A store beside the image. -/
theorem Im.put {w : World} {lo hi h2 g i : Nat} {T : TypeId} {mv wv v : Value} {l : List (Value × Rg)} {ws : List Wo} {vs : List Value} (h : Im w lo hi h2 mv wv l ws) (hb : Blk w g T vs) (hu : T ≠ 5) (hw : T ≠ 55) (hr : T ≠ 50 ∨ hi ≤ g) : Im (w.setCell ⟨g, i, none⟩ v) lo hi h2 mv wv l ws := by
  refine h.keep fun g' U _ hc hU => heap_setCell_other w ⟨g, i, none⟩ g' v fun e => ?_
  have e' : g' = g := e
  subst e'
  have hT := blk_typ hb hc
  subst hT
  rcases hU with ⟨rfl, _⟩ | ⟨rfl, k⟩ | ⟨rfl, _⟩
  · exact hu rfl
  · rcases hr with hr | hr
    · exact hr rfl
    · omega
  · exact hw rfl

/-- Words more. -/
theorem Im.words {w w1 : World} {lo hi h2 n : Nat} {mv wv wv' : Value} {l : List (Value × Rg)} {ws us : List Wo} (h : Im w lo hi h2 mv wv l ws)
    (hn : us.length = n) (hr : w1.ownsRow lo 55 7 wv' (ws.length + n) (flatW ws ++ flatW us)) (hg : w.grownBy w1 wv.ownBlock) : Im w1 lo hi w1.heap.size mv wv' l (ws ++ us) := by
  refine ⟨?_, ?_, ?_⟩
  · exact h.codes.stays (fun g _ _ r => grown_other h.wrow.own hg (by decide) r)
  · exact h.mrow.stays (fun g _ _ r => grown_other h.wrow.own hg (by decide) r)
  · refine ⟨?_, fun g hg => (hr.lt g hg).2⟩
    rw [List.length_append, hn, flatW_append]; exact hr
theorem Im.wblk {w w1 : World} {lo hi h2 g : Nat} {T : TypeId} {mv wv : Value} {l : List (Value × Rg)} {ws : List Wo} {vs : List Value} (h : Im w lo hi h2 mv wv l ws) (hg : w.grownBy w1 wv.ownBlock) (hb : Blk w g T vs) (hT : T ≠ 55) : Blk w1 g T vs :=
  (grown_other h.wrow.own hg hT ⟨_, hb⟩).trans hb
theorem Im.mblk {w w1 : World} {lo hi h2 g : Nat} {T : TypeId} {mv wv : Value} {l : List (Value × Rg)} {ws : List Wo} {vs : List Value} (h : Im w lo hi h2 mv wv l ws) (hg : w.grownBy w1 mv.ownBlock) (hb : Blk w g T vs) (hT : T ≠ 50) : Blk w1 g T vs :=
  (grown_other h.mrow.own hg hT ⟨_, hb⟩).trans hb
/-- A region more, whose code lies in blocks from c0 on. -/
theorem Im.mods {w w1 : World} {lo hi h2 c0 : Nat} {mv wv mv' c : Value} {l : List (Value × Rg)} {ws : List Wo} {r : Rg} (h : Im w lo hi h2 mv wv l ws) (hlo : lo ≤ hi) (hc0 : hi ≤ c0) (hc : Pc w 5 1 c0 w.heap.size c r.code.length (bV r.code)) (hcb : isB r.code) (hcs : c0 ≤ w.heap.size)
    (hr : w1.ownsRow lo 50 4 mv' (l.length + 1) (flatR l ++ r.vals c)) (hg : w.grownBy w1 mv.ownBlock) : Im w1 lo w1.heap.size h2 mv' wv (l ++ [(c, r)]) ws := by
  have s1 := hg.size
  have k3 : ∀ A B, StaysB A B w w1 := fun A B g _ _ r => grown_other h.mrow.own hg (by decide) r
  refine ⟨?_, ?_, ?_⟩
  · exact ((h.codes.stays (k3 _ _)).wide (Nat.le_refl _) hc0 |>.snoc (x := (c, r)) (by omega) hcs (hc.stays (fun g p q r => k3 _ _ g p q r)) hcb).wide (Nat.le_refl _) s1
  · refine ⟨?_, fun g hg => (hr.lt g hg).2⟩
    rw [List.length_append, flatR_append]
    simpa [flatR] using hr
  · exact h.wrow.stays (fun g _ _ r => grown_other h.mrow.own hg (by decide) r)

def mkIg (l : List (Value × Rg)) (ws : List Wo) (s : Int) : Ig := ⟨l.map fun x => x.2, ws, s⟩
theorem Im.vals {w : World} {lo hi h2 : Nat} {mv wv : Value} {l : List (Value × Rg)} {ws : List Wo} (h : Im w lo hi h2 mv wv l ws) (s : Int) : RdVals w (mkIg l ws s).fl [mv, wv, .int .i64 s] := by
  refine ⟨mv, _, rfl, ?_, wv, _, rfl, ?_, _, _, rfl, rfl, rfl⟩
  · have hr := h.mrow.own
    obtain ⟨a, c, rfl, h1, h2, h3, h4⟩ := owns_shape hr
    refine ⟨a, c, by simp [mkIg], by simpa [mkIg] using h1, h2, h3, fun hp => ?_⟩
    obtain ⟨g, rfl⟩ := h4 (by simpa [mkIg] using hp)
    refine ⟨g, 0, rfl, ?_⟩
    have := h.codes.rows (g := g) (off := 0) fun i v hv => by rw [Nat.zero_add]; exact owns_cells hr i v hv
    show RdRows w g 4 0 ((l.map fun x => x.2).map Rg.fl)
    rw [List.map_map]
    exact this
  · have hr := h.wrow.own
    obtain ⟨a, c, rfl, h1, h2, h3, h4⟩ := owns_shape hr
    refine ⟨a, c, by simp [mkIg], by simpa [mkIg] using h1, h2, h3, fun hp => ?_⟩
    obtain ⟨g, rfl⟩ := h4 (by simpa [mkIg] using hp)
    exact ⟨g, 0, rfl, wrows fun i v hv => by rw [Nat.zero_add]; exact owns_cells hr i v hv⟩
theorem Im.zero (w : World) (lo : Nat) : Im w lo w.heap.size w.heap.size (.slice none 0 0) (.slice none 0 0) [] [] :=
  ⟨trivial, ⟨World.ownsRow_nil _ _ _ _, fun g hg => by cases hg⟩, ⟨World.ownsRow_nil _ _ _ _, fun g hg => by cases hg⟩⟩

/-! append of noughts -/
theorem run_append_zeros {P : Program} {w : World} (base : Nat) (t ti ty e : TypeId) (i : TypeInfo) (z : Value) (size bytes : Nat) (ht : P.underlying t = some (.slice e)) (hti : P.underlying ti = some (.int .i64)) (hi : P.info? e = some i) (hz : i.zero = some z)
    (hsize : i.size = size) (hby : i.bytes = bytes) (hzs : z.cells.size = size) (hsz : 0 < size) (g n cap : Nat) (xs : List Value) (hown : w.ownsRow base e size (.slice (some ⟨g, 0, none⟩) n cap) n xs) (m : Nat) (news : List Value) (hz2 : Builtin.zeroCells z.cells m = news.toArray) (h1 : ∀ u ∈ news, u.oneCell' = true)
    (h63 : n + m ≤ 1048576) (hb : bytes ≤ 64) (hbase : base ≤ w.heap.size) :
    ∃ v' w', (Builtin.append_ #[t, ti] ty #[.slice (some ⟨g, 0, none⟩) n cap, .int .i64 (m : Int)]).run P w = .ok v' w' ∧ w'.ownsRow base e size v' (n + m) (xs ++ news) ∧ w.grownBy w' (some g) := by
  subst hsize
  subst hby
  have hl : news.length = m * i.size := by
    have := congrArg Array.size hz2
    rw [size_zeroCells, hzs] at this
    simpa using this.symm
  have hlen : (xs ++ news).length = (n + m) * i.size := by rw [List.length_append, hown.1, hl, Nat.add_mul]
  have hw : IntKind.i64.wrap (m : Int) = (m : Int) := by rw [IntKind.wrap]; simp [IntKind.min, IntKind.max, IntKind.bits, IntKind.signed]; omega
  have h48 : ¬ ((281474976710656 : Int) < (m : Int) * (i.bytes : Int)) := by
    have : m * i.bytes ≤ 1048576 * 64 := Nat.mul_le_mul (by omega) hb
    have h2 : ((m * i.bytes : Nat) : Int) ≤ 67108864 := by omega
    rw [Int.natCast_mul] at h2
    omega
  rcases hown.2 with ⟨hh, _⟩ | ⟨g', cap', cur, hv, hbg, hg, hnc, hcm, hcs, htake⟩
  · cases hh
  · simp only [Value.slice.injEq, Option.some.injEq, Addr.mk.injEq, and_true, true_and] at hv
    obtain ⟨rfl, rfl⟩ := hv
    by_cases hroom : n + m ≤ cap
    · have hfit : n * i.size + news.length ≤ cur.size := by rw [hl, hcs, ← Nat.add_mul]; exact Nat.mul_le_mul_right _ hroom
      have hst := run_storeCells_at P g (n * i.size) e news 0 cur w hg (by simpa using hfit) h1
      simp only [Nat.add_zero] at hst
      refine ⟨.slice (some ⟨g, 0, none⟩) (n + m) cap, w.setRow g (cur.toList.take (n * i.size) ++ news ++ cur.toList.drop (n * i.size + news.length)).toArray, ?_, ⟨hlen, .inr ⟨g, cap, _, rfl, hbg, setRow_heap w g cur _ e _ hg, hroom, hcm, ?_, ?_⟩⟩, ⟨rfl, rfl, rfl, by simp, fun k _ hk => setRow_other w g k _ (fun e => hk (by simp [e]))⟩⟩
      · have hneg : ¬ ((m : Int) < 0) := by omega
        by_cases h0 : m * i.size = 0
        · have hn : news = [] := List.eq_nil_of_length_eq_zero (by omega)
          subst hn
          simp [Builtin.append_, run_underlying ht, run_underlying hti, sizeOf, typeInfo, zeroValue, hi, hz, asInt, asIntOf, hw, hneg, h48, hroom, h0, Addr.add_lit, hst]
        · simp [Builtin.append_, run_underlying ht, run_underlying hti, sizeOf, typeInfo, zeroValue, hi, hz, asInt, asIntOf, hw, hneg, h48, hroom, h0, hz2, Addr.add_lit, hst]
      · simp only [List.size_toArray, List.length_append, List.length_take, List.length_drop, Array.length_toList]
        omega
      · rw [htake, ← hlen]
        exact List.take_left
    · have holds : ∀ j u, xs[j]? = some u → w.cell? ((⟨g, 0, none⟩ : Addr).add j) = some u := hown.cells (g := g) rfl
      have hge := grownCap_ge w (n + m) cap e
      have hcm2 : grownCap w (n + m) cap e ≤ maxLen := grownCap_le_maxLen w (n + m) cap e (by unfold maxLen; omega)
      have hneg : ¬ ((m : Int) < 0) := by omega
      have h63' : ¬ (9223372036854775807 < ((n : Int) + (m : Int))) := by omega
      have hfit := growslice_fits (bytes := i.bytes) (show cap < n + m by omega) (by
        have : (n + m) * i.bytes ≤ 1048576 * 64 := Nat.mul_le_mul (by omega) hb
        omega)
      have h48' : ¬ (281474976710656 < Builtin.nextslicecap (n + m) cap * i.bytes) := by omega
      have hfo := run_firstCells_some (P := P) w.drew i.size n ⟨g, 0, none⟩ n cap xs hown.1 (by simpa using holds)
      have h0 : ¬ (m * i.size = 0) := by
        have : 0 < m * i.size := Nat.mul_pos (by omega) hsz
        omega
      refine ⟨.slice (some ⟨w.heap.size, 0, none⟩) (n + m) (grownCap w (n + m) cap e), w.drew.alloc (.cells (xs.toArray ++ news.toArray ++ Builtin.zeroCells z.cells (grownCap w (n + m) cap e - (n + m))) e), ?_, ⟨hlen, .inr ⟨w.heap.size, _, _, rfl, hbase, heap_alloc_new w.drew _, hge, hcm2, ?_, ?_⟩⟩, ⟨rfl, rfl, rfl, by simp, fun k hk _ => ((Below.refl w.drew.heap.size w.drew).alloc (Nat.le_refl _) _).block k hk⟩⟩
      · simp [Builtin.append_, run_underlying ht, run_underlying hti, sizeOf, typeInfo, zeroValue, hi, hz, asInt, asIntOf, hw, hneg, h48, hroom, h63', h48', h0, hz2, Question.forced, hfo, newRow, grownCap]
        congr 2
        apply Array.ext'
        simp [List.append_assoc]
      · simp only [Array.size_append, List.size_toArray, size_zeroCells, hzs, hown.1, hl, ← Nat.add_mul]
        congr 1
        omega
      · simp only [Array.toList_append, List.append_assoc]
        rw [← List.append_assoc, ← hlen]
        exact List.take_left

theorem zeros_flat (m : Nat) : Builtin.zeroCells (Value.cells (.agg #[.bool false, .int .i64 0, .int .i64 0, .int .i64 0, .int .i64 0, .int .i64 0, .int .i64 0])) m = (flatW (List.replicate m zeroWo)).toArray := by
  apply Array.ext
  · rw [size_zeroCells]
    show m * 7 = (flatW (List.replicate m zeroWo)).length
    rw [flatW_len, List.length_replicate]
  · intro k h1 h2
    rw [size_zeroCells] at h1
    have h1' : k < m * 7 := h1
    have hj : k / 7 < m := by omega
    have hk : k % 7 < 7 := Nat.mod_lt _ (by omega)
    have e := flatW_at (l := List.replicate m zeroWo) (j := k / 7) hk (x := zeroWo) (by rw [List.getElem?_replicate, if_pos hj])
    rw [show k / 7 * 7 + k % 7 = k by omega] at e
    have e2 : (flatW (List.replicate m zeroWo)).toArray[k]? = zeroWo.vals[k % 7]? := by rw [List.getElem?_toArray]; exact e
    rw [Array.getElem?_eq_getElem h2] at e2
    have e3 : (Builtin.zeroCells (Value.cells (.agg #[.bool false, .int .i64 0, .int .i64 0, .int .i64 0, .int .i64 0, .int .i64 0, .int .i64 0])) m)[k]'(by rw [size_zeroCells]; exact h1) = (#[.bool false, .int .i64 0, .int .i64 0, .int .i64 0, .int .i64 0, .int .i64 0, .int .i64 0] : Array Value)[k % 7]! := by simp [Builtin.zeroCells, Value.cells]
    rw [e3]
    obtain ⟨r, hr⟩ : ∃ r, r = k % 7 := ⟨_, rfl⟩
    rw [← hr] at hk e2 ⊢
    match r, hk with
    | 0, _ => simpa [zeroWo, Wo.vals] using e2.symm
    | 1, _ => simpa [zeroWo, Wo.vals] using e2.symm
    | 2, _ => simpa [zeroWo, Wo.vals] using e2.symm
    | 3, _ => simpa [zeroWo, Wo.vals] using e2.symm
    | 4, _ => simpa [zeroWo, Wo.vals] using e2.symm
    | 5, _ => simpa [zeroWo, Wo.vals] using e2.symm
    | 6, _ => simpa [zeroWo, Wo.vals] using e2.symm

theorem infoWo : (Try.prog.info? 55).map (fun i => (i.zero, i.size, i.bytes)) = some (some (.agg #[.bool false, .int .i64 0, .int .i64 0, .int .i64 0, .int .i64 0, .int .i64 0, .int .i64 0]), 7, 56) := by kernel_rfl
theorem infoRg : (Try.prog.info? 50).map (fun i => (i.zero, i.size, i.bytes)) = some (some (.agg #[.int .i64 0, .int .i64 0, .int .i64 0, .slice none 0 0]), 4, 48) := by kernel_rfl

theorem wpList_appendZ {w : World} {ops : Array Oper} {rest : List Oper} {o : Oper} {a : Act} {Q : Exit → Act → World → Prop} (hgd : o.guard = none) (s x : Operand)
    (ho : o.op = .call { callee := .builtin .append, args := #[s, x], argTypes := #[25, 3] })
    (base g n cap : Nat) (ws : List Wo) (hs : a.eval s = .slice (some ⟨g, 0, none⟩) n cap) (hown : w.ownsRow base 55 7 (.slice (some ⟨g, 0, none⟩) n cap) n (flatW ws)) (m : Nat) (hx : a.eval x = .int .i64 (m : Int)) (hsz : n + m ≤ 1048576) (hbase : base ≤ w.heap.size)
    (h : ∀ v' w', w'.ownsRow base 55 7 v' (n + m) (flatW ws ++ flatW (List.replicate m zeroWo)) → w.grownBy w' (some g) → wpList Try.prog ops Q rest (a.put o.dst v') w') : wpList Try.prog ops Q (o :: rest) a w := by
  refine wpList_plain hgd fun K hK => ?_
  obtain ⟨i0, hi, hz0, hz1, hz2⟩ := info_parts infoWo
  obtain ⟨v', w', hr, h2, h3⟩ := run_append_zeros (P := Try.prog) (w := w) base 25 3 o.type 55 i0 _ 7 56 Try.underlying25 (by kernel_rfl) hi hz0 hz1 hz2 rfl (by decide) g n cap (flatW ws) hown m _ (zeros_flat m) (flatW_one _) hsz (by decide) hbase
  unfold Oper.wp execOp
  simp only [ho, resolve, invoke, builtin, Sem.run_bind, Sem.run_pure, Result.andThen_ok, List.map_toArray, List.map_cons, List.map_nil, hs, hx, hr]
  exact hK _ _ (h v' w' h2 h3)

/-- Words that lie there. -/
def WAt (w : World) (a : Option Addr) (us : List Wo) : Prop := 0 < us.length → ∃ b off, a = some ⟨b, off, none⟩ ∧ ∀ i v, (flatW us)[i]? = some v → w.cell? ⟨b, off + i, none⟩ = some v
theorem WAt.below {w w' : World} {a : Option Addr} {us : List Wo} (h : WAt w a us) (hb : Below w.heap.size w w') : WAt w' a us := fun hp => by
  obtain ⟨b, off, e, hc⟩ := h hp
  exact ⟨b, off, e, fun i v hv => cell_on (hc i v hv) hb⟩

/-- append of words, as one operation. -/
theorem wp_appendWo {w : World} {o : Oper} {a : Act} {K : Act → World → Prop} {Q : Exit → Act → World → Prop} (s x : Operand)
    (ho : o.op = .call { callee := .builtin .append, args := #[s, x], argTypes := #[25, 25] })
    (base : Nat) (v : Value) (n : Nat) (ws : List Wo) (hs : a.eval s = v) (hown : w.ownsRow base 55 7 v n (flatW ws))
    (ao : Option Addr) (m c : Nat) (us : List Wo) (hx : a.eval x = .slice ao m c) (hm : us.length = m) (hr : WAt w ao us) (hnil : ao = none → c = 0) (hsz : n + m ≤ 1048576) (hbase : base ≤ w.heap.size)
    (h : ∀ v' w', w'.ownsRow base 55 7 v' (n + m) (flatW ws ++ flatW us) → w.grownBy w' v.ownBlock → K (a.put o.dst v') w') : Oper.wp Try.prog o a w K Q := by
  obtain ⟨i0, hi, hz0, hz1, hz2⟩ := info_parts infoWo
  cases ao with
  | none =>
    obtain rfl := hnil rfl
    have hm0 : m = 0 := by
      rcases Nat.eq_zero_or_pos m with h0 | hp
      · exact h0
      · obtain ⟨b, off, e, _⟩ := hr (by omega); cases e
    subst hm0
    obtain rfl : us = [] := List.eq_nil_of_length_eq_zero hm
    have hrun := run_append_owned_none (P := Try.prog) (w := w) base 25 o.type 55 i0 7 Try.underlying25 hi v n _ hown
    unfold Oper.wp execOp
    simp only [ho, resolve, invoke, builtin, Sem.run_bind, Sem.run_pure, Result.andThen_ok, List.map_toArray, List.map_cons, List.map_nil, hs, hx, hrun]
    exact h v w (by simpa [flatW] using hown) (World.grownBy.refl _ _)
  | some ad =>
    refine wp_append_own w s x 25 ho base 55 i0 _ 7 56 Try.underlying25 hi hz0 hz1 hz2 rfl (by decide) v n _ hs hown ad m c (flatW us) hx (by rw [flatW_len, hm]) ?_ (flatW_one _) (by unfold maxLen; omega) (by omega) hbase ?_
    · intro j u hu
      have hp : 0 < us.length := by
        have := (List.getElem?_eq_some_iff.1 hu).1
        rw [flatW_len] at this
        omega
      obtain ⟨b, off, e, hc⟩ := hr hp
      cases e
      rw [Addr.add_lit]
      exact hc j u hu
    · intro v' w' ho' hg' _
      exact h v' w' ho' hg'

theorem wpList_appendWo {w : World} {ops : Array Oper} {rest : List Oper} {o : Oper} {a : Act} {Q : Exit → Act → World → Prop} (hgd : o.guard = none) (s x : Operand)
    (ho : o.op = .call { callee := .builtin .append, args := #[s, x], argTypes := #[25, 25] })
    (base : Nat) (v : Value) (n : Nat) (ws : List Wo) (hs : a.eval s = v) (hown : w.ownsRow base 55 7 v n (flatW ws))
    (ao : Option Addr) (m c : Nat) (us : List Wo) (hx : a.eval x = .slice ao m c) (hm : us.length = m) (hr : WAt w ao us) (hnil : ao = none → c = 0) (hsz : n + m ≤ 1048576) (hbase : base ≤ w.heap.size)
    (h : ∀ v' w', w'.ownsRow base 55 7 v' (n + m) (flatW ws ++ flatW us) → w.grownBy w' v.ownBlock → wpList Try.prog ops Q rest (a.put o.dst v') w') : wpList Try.prog ops Q (o :: rest) a w :=
  wpList_plain hgd fun _ hK => wp_appendWo s x ho base v n ws hs hown ao m c us hx hm hr hnil hsz hbase fun v' w' h2 h3 => hK _ _ (h v' w' h2 h3)

/-- append of a region, as one operation. -/
theorem wp_appendRg {w : World} {o : Oper} {a : Act} {K : Act → World → Prop} {Q : Exit → Act → World → Prop} (s x : Operand)
    (ho : o.op = .call { callee := .builtin .append, args := #[s, x], argTypes := #[24, 24] })
    (base : Nat) (v : Value) (n : Nat) (l : List (Value × Rg)) (hs : a.eval s = v) (hown : w.ownsRow base 50 4 v n (flatR l))
    (g : Nat) (c : Value) (r : Rg) (hx : a.eval x = .slice (some ⟨g, 0, none⟩) 1 1) (hr : Blk w g 50 (r.vals c)) (h1 : c.oneCell' = true) (hsz : n ≤ 1000) (hbase : base ≤ w.heap.size)
    (h : ∀ v' w', w'.ownsRow base 50 4 v' (n + 1) (flatR l ++ r.vals c) → w.grownBy w' v.ownBlock → K (a.put o.dst v') w') : Oper.wp Try.prog o a w K Q := by
  obtain ⟨i0, hi, hz0, hz1, hz2⟩ := info_parts infoRg
  refine wp_append_own w s x 24 ho base 50 i0 _ 4 48 Try.underlying24 hi hz0 hz1 hz2 rfl (by decide) v n _ hs hown ⟨g, 0, none⟩ 1 1 (r.vals c) hx rfl ?_ ?_ (by unfold maxLen; omega) (by omega) hbase ?_
  · intro j u hu
    rw [Addr.add_lit, Nat.zero_add]
    exact hr.cell hu
  · intro u hu
    simp only [Rg.vals, List.mem_cons, List.not_mem_nil, or_false] at hu
    rcases hu with e | e | e | e
    · rw [e]; rfl
    · rw [e]; rfl
    · rw [e]; rfl
    · rw [e]; exact h1
  · intro v' w' ho' hg' _
    exact h v' w' ho' hg'
end Go.Proofs.Ytefciaeajlgheaa

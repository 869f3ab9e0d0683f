/- Contracts of the laws' own helpers that copy slices of a module's records. By mktreeto2.py. -/
import Derived.Test.YtajnfknldofjlaaGreatDoorTreeTo
import Derived.Test.YtajnfknldofjlaaGreatDoorTreeSz
namespace Go.Proofs.YtajnfknldofjlaaGreatDoor
open Go.RowKit
set_option linter.unusedVariables false
set_option linter.unusedSimpArgs false
set_option maxRecDepth 100000

def ToF (F : Nat) (f : Fl) : Prop := ∀ (w : World) (v : Value), f.Rd w v → ToV w F f v
def ToR (F K : Nat) (r : List Fl) : Prop := ∀ (w : World) (vs : List Value), RdVals w r vs → ∀ w1 : World, Below w.heap.size w w1 → Calls Tryz.prog F #[.agg vs.toArray] w1 fun e w' => ∃ us, e = .returned (.agg (List.toArray us)) ∧ us.length = K ∧ RecHas w' w1.heap.size w'.heap.size r us ∧ Below w1.heap.size w1 w'

theorem len2 {us : List Value} (h : us.length = 2) : ∃ u0 u1, us = [u0, u1] := by
  match us, h with
  | [a, b], _ => exact ⟨a, b, rfl⟩
theorem len5 {us : List Value} (h : us.length = 5) : ∃ u0 u1 u2 u3 u4, us = [u0, u1, u2, u3, u4] := by
  match us, h with
  | [a, b, c, d, e], _ => exact ⟨a, b, c, d, e, rfl⟩
theorem len6 {us : List Value} (h : us.length = 6) : ∃ u0 u1 u2 u3 u4 u5, us = [u0, u1, u2, u3, u4, u5] := by
  match us, h with
  | [a, b, c, d, e, f], _ => exact ⟨a, b, c, d, e, f, rfl⟩

theorem rec_one {w : World} {lo hi : Nat} {f : Fl} {u : Value} (h : f.Has w lo hi u) (hl : lo ≤ hi := by omega) : RecHas w lo hi [f] [u] := by
  unfold RecHas
  refine ⟨u, [], hi, rfl, hl, Nat.le_refl _, h, ?_⟩
  unfold RecHas; rfl

theorem Blk.setAll {g : Nat} {T : TypeId} : ∀ (us : List Value) {W : World} {pre old post : List Value}, Blk W g T (pre ++ old ++ post) → old.length = us.length → Blk (setAll W g pre.length us) g T (pre ++ us ++ post) := by
  intro us
  induction us with
  | nil => intro W pre old post h hl; have : old = [] := List.eq_nil_of_length_eq_zero hl; subst this; exact h
  | cons u us ih =>
    intro W pre old post h hl
    cases old with
    | nil => simp at hl
    | cons x old =>
      have h1 := h.set (i := pre.length) u
      have e : (pre ++ x :: old ++ post).set pre.length u = (pre ++ [u]) ++ old ++ post := by simp
      rw [e] at h1
      have h2 := ih h1 (by simpa using hl)
      have e2 : (pre ++ [u]).length = pre.length + 1 := by simp
      rw [e2] at h2
      simpa [Go.Proofs.YtajnfknldofjlaaGreatDoor.setAll] using h2

/-- How far the copy of a slice has come: j of n records, K cells each. -/
structure TL (w wr : World) (T K n j : Nat) (rs : List (List Fl)) (vs rest : List Value) : Prop where
  len : rest.length = (n - j) * K
  blk : Blk wr w.heap.size T (vs ++ rest)
  has : RowsHas wr K (w.heap.size + 1) wr.heap.size (rs.take j) vs
  lenr : rs.length = n
  leqj : j ≤ n
  below : Below w.heap.size w wr

theorem TL.start {w wr : World} {T K n : Nat} {rs : List (List Fl)} {xs : List Value} (hn : rs.length = n) (h : wr.ownsRow w.heap.size T K (.slice (some ⟨w.heap.size, 0, none⟩) n n) n xs) (hg : w.grownBy wr none) : ∃ vs rest, TL w wr T K n 0 rs vs rest := by
  have hl := h.1
  rcases h.2 with ⟨h', _⟩ | ⟨g', cap, cur, h', _, hgb, _, _, hs, ht⟩
  · simp at h'
  · simp only [Value.slice.injEq, Option.some.injEq, Addr.mk.injEq, and_true, true_and] at h'
    obtain ⟨rfl, rfl⟩ := h'
    rw [List.take_of_length_le (by simp; omega)] at ht
    refine ⟨[], xs, by simpa using hl, ?_, ?_, hn, Nat.zero_le _, (Below.refl _ _).grown hg (Nat.le_refl _) (by intro k hk; cases hk)⟩
    · show wr.heap[w.heap.size]? = _
      rw [hgb, ← ht]; simp
    · rw [List.take_zero]; unfold RowsHas; rfl

theorem TL.vlen {w wr : World} {T K n j : Nat} {rs : List (List Fl)} {vs rest : List Value} (h : TL w wr T K n j rs vs rest) : vs.length = j * K := by
  rw [h.has.len, List.length_take, h.lenr, Nat.min_eq_left h.leqj]

theorem TL.call {w w1 w2 : World} {T K n j : Nat} {rs : List (List Fl)} {vs rest : List Value} (h : TL w w1 T K n j rs vs rest) (hb : Below w1.heap.size w1 w2) : TL w w2 T K n j rs vs rest :=
  ⟨h.len, h.blk.below hb h.blk.lt, (h.has.stays (Stays.of hb (Nat.le_refl _))).wide (Nat.le_refl _) hb.size, h.lenr, h.leqj, h.below.trans (hb.mono h.below.size)⟩

theorem TL.cells {w wr : World} {T K n j : Nat} {rs : List (List Fl)} {vs rest : List Value} (h : TL w wr T K n j rs vs rest) (hj : j < n) : ∀ i, i < K → ∃ v, wr.cell? ⟨w.heap.size, j * K + i, none⟩ = some v := by
  intro i hi
  have hv := h.vlen
  have hr := h.len
  have hp : K ≤ (n - j) * K := Nat.le_mul_of_pos_left K (by omega)
  have hlt : i < rest.length := by omega
  refine ⟨rest[i], h.blk.cell ?_⟩
  rw [List.getElem?_append_right (by omega), hv, Nat.add_sub_cancel_left]
  exact List.getElem?_eq_getElem hlt

theorem TL.step {w w1 w2 : World} {T K n j : Nat} {rs : List (List Fl)} {vs rest us : List Value} {r : List Fl} (h : TL w w1 T K n j rs vs rest) (hj : j < n) (hb : Below w1.heap.size w1 w2) (hr : rs[j]? = some r) (hl : us.length = K) (hh : RecHas w2 w1.heap.size w2.heap.size r us) :
    TL w (setAll w2 w.heap.size (j * K) us) T K n (j + 1) rs (vs ++ us) (rest.drop K) := by
  have h2 := h.call hb
  have hv := h.vlen
  have hp : K ≤ (n - j) * K := Nat.le_mul_of_pos_left K (by omega)
  have hrl := h.len
  have hb1 : Blk (setAll w2 w.heap.size (j * K) us) w.heap.size T ((vs ++ us) ++ rest.drop K) := by
    have e : vs ++ rest = vs ++ rest.take K ++ rest.drop K := by rw [List.append_assoc, List.take_append_drop]
    have := h2.blk
    rw [e] at this
    have h3 := this.setAll us (by rw [List.length_take, hl]; omega)
    rw [hv] at h3
    exact h3
  have hlt1 := h.blk.lt
  have hrow : RowsHas w2 K (w.heap.size + 1) w2.heap.size (rs.take (j + 1)) (vs ++ us) := by
    obtain ⟨hk, e⟩ := List.getElem?_eq_some_iff.1 hr
    rw [List.take_succ_eq_append_getElem hk, e]
    exact (h.has.stays (Stays.of hb (Nat.le_refl _))).snoc hh hl (by omega) hb.size
  have key : ∀ (l : List Value) (W : World) (i : Nat), Below w.heap.size w W → RowsHas W K (w.heap.size + 1) w2.heap.size (rs.take (j + 1)) (vs ++ us) → Below w.heap.size w (setAll W w.heap.size i l) ∧ RowsHas (setAll W w.heap.size i l) K (w.heap.size + 1) w2.heap.size (rs.take (j + 1)) (vs ++ us) := by
    intro l
    induction l with
    | nil => intro W i a b; exact ⟨a, b⟩
    | cons v l ih => intro W i a b; exact ih _ _ (a.setCell (by simp) v) (b.stays (Stays.put (.inl (by omega))))
  obtain ⟨k1, k2⟩ := key us w2 (j * K) h2.below hrow
  refine ⟨?_, hb1, ?_, h.lenr, by omega, k1⟩
  · rw [List.length_drop, hrl]
    have : n - j = (n - (j + 1)) + 1 := by omega
    rw [this, Nat.add_mul]; omega
  · rw [setAll_size]; exact k2

theorem TL.done {w wr : World} {T K n : Nat} {rs : List (List Fl)} {vs rest : List Value} (h : TL w wr T K n n rs vs rest) (hn : rs.length = n) (hm : n ≤ maxLen) : (Fl.l K rs).Has wr w.heap.size wr.heap.size (.slice (some ⟨w.heap.size, 0, none⟩) n n) := by
  have hr : rest = [] := List.eq_nil_of_length_eq_zero (by rw [h.len]; simp)
  have hb := h.blk
  have hh := h.has
  rw [hr, List.append_nil] at hb
  rw [List.take_of_length_le (by omega)] at hh
  unfold Fl.Has
  exact ⟨w.heap.size, vs, T, by rw [hn], Nat.le_refl _, h.blk.lt, hb, by omega, hh⟩

theorem shapeVar {w : World} {lo hi : Nat} {us : List Value} {x0 : List Int} {x1 : Int} (h : RecHas w lo hi (Va.fl ⟨x0, x1⟩) us) :
    ∃ g0 m0, us = [.slice (some ⟨g0, 0, none⟩) m0 m0, .int .i64 x1] := by
  unfold Va.fl at h
  simp only [RecHas, Fl.Has] at h
  obtain ⟨u0, _, _, rfl, _, _, ⟨g0, rfl, _⟩, u1, _, _, rfl, _, _, rfl, rfl⟩ := h
  exact ⟨g0, _, rfl⟩

theorem infoVarT : (Tryz.prog.info? 59).map (fun i => (i.zero, i.size, i.bytes)) = some (some (.agg #[.slice none 0 0, .int .i64 0]), 2, 32) := by kernel_rfl

theorem shapeParam {w : World} {lo hi : Nat} {us : List Value} {x0 : List Int} {x1 : Bool} (h : RecHas w lo hi (Pa.fl ⟨x0, x1⟩) us) :
    ∃ g0 m0, us = [.slice (some ⟨g0, 0, none⟩) m0 m0, .bool x1] := by
  unfold Pa.fl at h
  simp only [RecHas, Fl.Has] at h
  obtain ⟨u0, _, _, rfl, _, _, ⟨g0, rfl, _⟩, u1, _, _, rfl, _, _, rfl, rfl⟩ := h
  exact ⟨g0, _, rfl⟩

theorem infoParamT : (Tryz.prog.info? 98).map (fun i => (i.zero, i.size, i.bytes)) = some (some (.agg #[.slice none 0 0, .bool false]), 2, 32) := by kernel_rfl

theorem shapeExpr {w : World} {lo hi : Nat} {us : List Value} {x0 : Int} {x1 : Int} {x2 : List Int} {x3 : List Int} {x4 : List Ex} (h : RecHas w lo hi (Ex.fl ⟨x0, x1, x2, x3, x4⟩) us) :
    ∃ g2 m2 g3 m3 g4 m4, us = [.int .i64 x0, .int .i64 x1, .slice (some ⟨g2, 0, none⟩) m2 m2, .slice (some ⟨g3, 0, none⟩) m3 m3, .slice (some ⟨g4, 0, none⟩) m4 m4] := by
  unfold Ex.fl at h
  simp only [RecHas, Fl.Has] at h
  obtain ⟨u0, _, _, rfl, _, _, rfl, u1, _, _, rfl, _, _, rfl, u2, _, _, rfl, _, _, ⟨g2, rfl, _⟩, u3, _, _, rfl, _, _, ⟨g3, rfl, _⟩, u4, _, _, rfl, _, _, ⟨g4, _, _, rfl, _⟩, rfl⟩ := h
  exact ⟨g2, _, g3, _, g4, _, rfl⟩

theorem infoExprT : (Tryz.prog.info? 122).map (fun i => (i.zero, i.size, i.bytes)) = some (some (.agg #[.int .i64 0, .int .i64 0, .slice none 0 0, .slice none 0 0, .slice none 0 0]), 5, 88) := by kernel_rfl

theorem shapeStmt {w : World} {lo hi : Nat} {us : List Value} {x0 : Int} {x1 : Int} {x2 : List Int} {x3 : List Ex} {x4 : List St} {x5 : List St} (h : RecHas w lo hi (St.fl ⟨x0, x1, x2, x3, x4, x5⟩) us) :
    ∃ g2 m2 g3 m3 g4 m4 g5 m5, us = [.int .i64 x0, .int .i64 x1, .slice (some ⟨g2, 0, none⟩) m2 m2, .slice (some ⟨g3, 0, none⟩) m3 m3, .slice (some ⟨g4, 0, none⟩) m4 m4, .slice (some ⟨g5, 0, none⟩) m5 m5] := by
  unfold St.fl at h
  simp only [RecHas, Fl.Has] at h
  obtain ⟨u0, _, _, rfl, _, _, rfl, u1, _, _, rfl, _, _, rfl, u2, _, _, rfl, _, _, ⟨g2, rfl, _⟩, u3, _, _, rfl, _, _, ⟨g3, _, _, rfl, _⟩, u4, _, _, rfl, _, _, ⟨g4, _, _, rfl, _⟩, u5, _, _, rfl, _, _, ⟨g5, _, _, rfl, _⟩, rfl⟩ := h
  exact ⟨g2, _, g3, _, g4, _, g5, _, rfl⟩

theorem infoStmtT : (Tryz.prog.info? 133).map (fun i => (i.zero, i.size, i.bytes)) = some (some (.agg #[.int .i64 0, .int .i64 0, .slice none 0 0, .slice none 0 0, .slice none 0 0, .slice none 0 0]), 6, 112) := by kernel_rfl

theorem shapeProc {w : World} {lo hi : Nat} {us : List Value} {x0 : List Int} {x1 : Bool} {x2 : List Pa} {x3 : List (List Int)} {x4 : List St} (h : RecHas w lo hi (Pr.fl ⟨x0, x1, x2, x3, x4⟩) us) :
    ∃ g0 m0 g2 m2 g3 m3 g4 m4, us = [.slice (some ⟨g0, 0, none⟩) m0 m0, .bool x1, .slice (some ⟨g2, 0, none⟩) m2 m2, .slice (some ⟨g3, 0, none⟩) m3 m3, .slice (some ⟨g4, 0, none⟩) m4 m4] := by
  unfold Pr.fl at h
  simp only [RecHas, Fl.Has] at h
  obtain ⟨u0, _, _, rfl, _, _, ⟨g0, rfl, _⟩, u1, _, _, rfl, _, _, rfl, u2, _, _, rfl, _, _, ⟨g2, _, _, rfl, _⟩, u3, _, _, rfl, _, _, ⟨g3, _, _, rfl, _⟩, u4, _, _, rfl, _, _, ⟨g4, _, _, rfl, _⟩, rfl⟩ := h
  exact ⟨g0, _, g2, _, g3, _, g4, _, rfl⟩

theorem infoProcT : (Tryz.prog.info? 64).map (fun i => (i.zero, i.size, i.bytes)) = some (some (.agg #[.slice none 0 0, .bool false, .slice none 0 0, .slice none 0 0, .slice none 0 0]), 5, 104) := by kernel_rfl

theorem shapeFaceProc {w : World} {lo hi : Nat} {us : List Value} {x0 : List Int} {x1 : List Int} (h : RecHas w lo hi (Fp.fl ⟨x0, x1⟩) us) :
    ∃ g0 m0 g1 m1, us = [.slice (some ⟨g0, 0, none⟩) m0 m0, .slice (some ⟨g1, 0, none⟩) m1 m1] := by
  unfold Fp.fl at h
  simp only [RecHas, Fl.Has] at h
  obtain ⟨u0, _, _, rfl, _, _, ⟨g0, rfl, _⟩, u1, _, _, rfl, _, _, ⟨g1, rfl, _⟩, rfl⟩ := h
  exact ⟨g0, _, g1, _, rfl⟩

theorem infoFaceProcT : (Tryz.prog.info? 90).map (fun i => (i.zero, i.size, i.bytes)) = some (some (.agg #[.slice none 0 0, .slice none 0 0]), 2, 48) := by kernel_rfl

theorem shapeFace {w : World} {lo hi : Nat} {us : List Value} {x0 : List Int} {x1 : List Fp} (h : RecHas w lo hi (Fa.fl ⟨x0, x1⟩) us) :
    ∃ g0 m0 g1 m1, us = [.slice (some ⟨g0, 0, none⟩) m0 m0, .slice (some ⟨g1, 0, none⟩) m1 m1] := by
  unfold Fa.fl at h
  simp only [RecHas, Fl.Has] at h
  obtain ⟨u0, _, _, rfl, _, _, ⟨g0, rfl, _⟩, u1, _, _, rfl, _, _, ⟨g1, _, _, rfl, _⟩, rfl⟩ := h
  exact ⟨g0, _, g1, _, rfl⟩

theorem infoFaceT : (Tryz.prog.info? 72).map (fun i => (i.zero, i.size, i.bytes)) = some (some (.agg #[.slice none 0 0, .slice none 0 0]), 2, 48) := by kernel_rfl

theorem shapeExport {w : World} {lo hi : Nat} {us : List Value} {x0 : List Int} {x1 : Int} {x2 : Int} (h : RecHas w lo hi (Xp.fl ⟨x0, x1, x2⟩) us) :
    ∃ g0 m0, us = [.slice (some ⟨g0, 0, none⟩) m0 m0, .int .i64 x1, .int .i64 x2] := by
  unfold Xp.fl at h
  simp only [RecHas, Fl.Has] at h
  obtain ⟨u0, _, _, rfl, _, _, ⟨g0, rfl, _⟩, u1, _, _, rfl, _, _, rfl, u2, _, _, rfl, _, _, rfl, rfl⟩ := h
  exact ⟨g0, _, rfl⟩

theorem shapeImport {w : World} {lo hi : Nat} {us : List Value} {x0 : List Int} {x1 : List Int} {x2 : Int} (h : RecHas w lo hi (Ip.fl ⟨x0, x1, x2⟩) us) :
    ∃ g0 m0 g1 m1, us = [.slice (some ⟨g0, 0, none⟩) m0 m0, .slice (some ⟨g1, 0, none⟩) m1 m1, .int .i64 x2] := by
  unfold Ip.fl at h
  simp only [RecHas, Fl.Has] at h
  obtain ⟨u0, _, _, rfl, _, _, ⟨g0, rfl, _⟩, u1, _, _, rfl, _, _, ⟨g1, rfl, _⟩, u2, _, _, rfl, _, _, rfl, rfl⟩ := h
  exact ⟨g0, _, g1, _, rfl⟩

theorem shapeObject {w : World} {lo hi : Nat} {us : List Value} {x0 : List Int} {x1 : List Xp} {x2 : List Ip} {x3 : Int} {x4 : List Int} (h : RecHas w lo hi (Oj.fl ⟨x0, x1, x2, x3, x4⟩) us) :
    ∃ g0 m0 g1 m1 g2 m2 g4 m4, us = [.slice (some ⟨g0, 0, none⟩) m0 m0, .slice (some ⟨g1, 0, none⟩) m1 m1, .slice (some ⟨g2, 0, none⟩) m2 m2, .int .i64 x3, .slice (some ⟨g4, 0, none⟩) m4 m4] := by
  unfold Oj.fl at h
  simp only [RecHas, Fl.Has] at h
  obtain ⟨u0, _, _, rfl, _, _, ⟨g0, rfl, _⟩, u1, _, _, rfl, _, _, ⟨g1, _, _, rfl, _⟩, u2, _, _, rfl, _, _, ⟨g2, _, _, rfl, _⟩, u3, _, _, rfl, _, _, rfl, u4, _, _, rfl, _, _, ⟨g4, rfl, _⟩, rfl⟩ := h
  exact ⟨g0, _, g1, _, g2, _, g4, _, rfl⟩

theorem shapeArg {w : World} {lo hi : Nat} {us : List Value} {x0 : Bool} {x1 : Int} (h : RecHas w lo hi (Ag.fl ⟨x0, x1⟩) us) :
    us = [.bool x0, .int .i64 x1] := by
  unfold Ag.fl at h
  simp only [RecHas, Fl.Has] at h
  obtain ⟨u0, _, _, rfl, _, _, rfl, u1, _, _, rfl, _, _, rfl, rfl⟩ := h
  exact rfl

theorem shapeWord {w : World} {lo hi : Nat} {us : List Value} {x0 : Bool} {x1 : Int} {x2 : Int} {x3 : Int} {x4 : Int} {x5 : Int} {x6 : Int} (h : RecHas w lo hi (Wo.fl ⟨x0, x1, x2, x3, x4, x5, x6⟩) us) :
    us = [.bool x0, .int .i64 x1, .int .i64 x2, .int .i64 x3, .int .i64 x4, .int .i64 x5, .int .i64 x6] := by
  unfold Wo.fl at h
  simp only [RecHas, Fl.Has] at h
  obtain ⟨u0, _, _, rfl, _, _, rfl, u1, _, _, rfl, _, _, rfl, u2, _, _, rfl, _, _, rfl, u3, _, _, rfl, _, _, rfl, u4, _, _, rfl, _, _, rfl, u5, _, _, rfl, _, _, rfl, u6, _, _, rfl, _, _, rfl, rfl⟩ := h
  exact rfl

theorem shapeEvent {w : World} {lo hi : Nat} {us : List Value} {x0 : Int} {x1 : Int} {x2 : Int} {x3 : Int} {x4 : List Ag} {x5 : Int} (h : RecHas w lo hi (Ev.fl ⟨x0, x1, x2, x3, x4, x5⟩) us) :
    ∃ g4 m4, us = [.int .i64 x0, .int .i64 x1, .int .i64 x2, .int .i64 x3, .slice (some ⟨g4, 0, none⟩) m4 m4, .int .i64 x5] := by
  unfold Ev.fl at h
  simp only [RecHas, Fl.Has] at h
  obtain ⟨u0, _, _, rfl, _, _, rfl, u1, _, _, rfl, _, _, rfl, u2, _, _, rfl, _, _, rfl, u3, _, _, rfl, _, _, rfl, u4, _, _, rfl, _, _, ⟨g4, _, _, rfl, _⟩, u5, _, _, rfl, _, _, rfl, rfl⟩ := h
  exact ⟨g4, _, rfl⟩

theorem shapeAction {w : World} {lo hi : Nat} {us : List Value} {x0 : Int} {x1 : Int} {x2 : Int} {x3 : List Ag} {x4 : Int} (h : RecHas w lo hi (Ac.fl ⟨x0, x1, x2, x3, x4⟩) us) :
    ∃ g3 m3, us = [.int .i64 x0, .int .i64 x1, .int .i64 x2, .slice (some ⟨g3, 0, none⟩) m3 m3, .int .i64 x4] := by
  unfold Ac.fl at h
  simp only [RecHas, Fl.Has] at h
  obtain ⟨u0, _, _, rfl, _, _, rfl, u1, _, _, rfl, _, _, rfl, u2, _, _, rfl, _, _, rfl, u3, _, _, rfl, _, _, ⟨g3, _, _, rfl, _⟩, u4, _, _, rfl, _, _, rfl, rfl⟩ := h
  exact ⟨g3, _, rfl⟩

theorem shapeModule {w : World} {lo hi : Nat} {us : List Value} {x0 : List Int} {x1 : List (List Int)} {x2 : List Va} {x3 : List Pr} (h : RecHas w lo hi (Mo.fl ⟨x0, x1, x2, x3⟩) us) :
    ∃ g0 m0 g1 m1 g2 m2 g3 m3, us = [.slice (some ⟨g0, 0, none⟩) m0 m0, .slice (some ⟨g1, 0, none⟩) m1 m1, .slice (some ⟨g2, 0, none⟩) m2 m2, .slice (some ⟨g3, 0, none⟩) m3 m3] := by
  unfold Mo.fl at h
  simp only [RecHas, Fl.Has] at h
  obtain ⟨u0, _, _, rfl, _, _, ⟨g0, rfl, _⟩, u1, _, _, rfl, _, _, ⟨g1, _, _, rfl, _⟩, u2, _, _, rfl, _, _, ⟨g2, _, _, rfl, _⟩, u3, _, _, rfl, _, _, ⟨g3, _, _, rfl, _⟩, rfl⟩ := h
  exact ⟨g0, _, g1, _, g2, _, g3, _, rfl⟩

theorem infoModuleT : (Tryz.prog.info? 29).map (fun i => (i.zero, i.size, i.bytes)) = some (some (.agg #[.slice none 0 0, .slice none 0 0, .slice none 0 0, .slice none 0 0]), 4, 96) := by kernel_rfl

theorem infoByteST : (Tryz.prog.info? 22).map (fun i => (i.zero, i.size, i.bytes)) = some (some (.slice none 0 0), 1, 24) := by kernel_rfl

theorem lst7 {l : List Value} (h : l.length = 7) : ∃ y0 y1 y2 y3 y4 y5 y6, l = [y0, y1, y2, y3, y4, y5, y6] := by match l, h with | [y0, y1, y2, y3, y4, y5, y6], _ => exact ⟨_, _, _, _, _, _, _, rfl⟩
theorem TL.pack {w wr : World} {T K n : Nat} {rs : List (List Fl)} {xs : List Value} (hn : rs.length = n) (h : wr.ownsRow w.heap.size T K (.slice (some ⟨w.heap.size, 0, none⟩) n n) n xs) (hg : w.grownBy wr none) :
    ∃ I : World → Nat → Prop, I wr 0 ∧ (∀ x j, I x j → ∃ vs rest, TL w x T K n j rs vs rest) ∧ ∀ x j vs rest, TL w x T K n j rs vs rest → I x j :=
  ⟨fun x j => ∃ vs rest, TL w x T K n j rs vs rest, TL.start hn h hg, fun _ _ h => h, fun _ _ _ _ h => ⟨_, _, h⟩⟩
theorem TL.cellz {w wr : World} {T K n j : Nat} {rs : List (List Fl)} {vs rest : List Value} (h : TL w wr T K n j rs vs rest) (hj : j < n) (i : Nat) (hi : i < K) : ∃ v, wr.cell? ⟨w.heap.size, j * K + i, none⟩ = some v ∧ wr.frozen? ⟨w.heap.size, j * K + i, none⟩ = false :=
  let ⟨v, hv⟩ := h.cells hj i hi
  ⟨v, hv, h.blk.free _⟩
theorem RecHas.st {w : World} : ∀ {r : List Fl} {lo hi : Nat} {us : List Value}, RecHas w lo hi r us → ∀ (i : Nat) (u : Value), us[i]? = some u → ∀ (W : World) (a : Addr) (m : Mode), (store a u m).run Tryz.prog W = stored Tryz.prog W a u m := by
  intro r
  induction r with
  | nil => intro lo hi us h i u hu; unfold RecHas at h; subst h; simp at hu
  | cons f r ih =>
    intro lo hi us h i u hu
    unfold RecHas at h
    obtain ⟨x, us', mid, rfl, _, _, hf, hr⟩ := h
    cases i with
    | succ i => exact ih hr i u (by simpa using hu)
    | zero =>
      simp only [List.getElem?_cons_zero, Option.some.injEq] at hu
      subst hu
      intro W a m
      cases f <;> unfold Fl.Has at hf
      · obtain ⟨g, rfl, _⟩ := hf; exact run_store_slice ..
      · obtain ⟨g, rfl, _⟩ := hf; exact run_store_slice ..
      · subst hf; exact run_store_int ..
      · subst hf; exact run_store_bool ..
      · obtain ⟨g, vs, T, rfl, _⟩ := hf; exact run_store_slice ..

theorem iblock_of_owns {w : World} {base g n : Nat} {xs : List Value} (h : w.ownsRow base 3 1 (.slice (some ⟨g, 0, none⟩) n n) n xs) : w.heap[g]? = some (.cells xs.toArray 3 (0, 0)) := by
  rcases h.2 with ⟨h', _⟩ | ⟨g', cap, cur, h', _, hg, _, _, hs, ht⟩
  · simp at h'
  · simp only [Value.slice.injEq, Option.some.injEq, Addr.mk.injEq, and_true, true_and] at h'
    obtain ⟨rfl, rfl⟩ := h'
    rw [List.take_of_length_le (by simp; omega)] at ht
    rw [hg, ← ht]

theorem ToV.on {w w1 : World} {F : Nat} {f : Fl} {v : Value} (h : ToV w F f v) (hb : Below w.heap.size w w1) : ToV w1 F f v :=
  fun w2 hb2 => h w2 (hb.trans (hb2.mono hb.size))

theorem rec_le {α : Type} {f : α → List Fl} {l : List α} {x : α} (h : x ∈ l) : recLen (f x) ≤ rowsLen (l.map f) := recLen_le (List.mem_map_of_mem h)

end Go.Proofs.YtajnfknldofjlaaGreatDoor

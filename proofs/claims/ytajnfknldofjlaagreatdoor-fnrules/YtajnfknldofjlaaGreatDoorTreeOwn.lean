/- Trees that a call made itself: every slice a block of its own, one behind the other (from lo up to hi). No function is walked here. -/
import Derived.Test.YtajnfknldofjlaaGreatDoorTree
namespace Go.Proofs.YtajnfknldofjlaaGreatDoor
open Go.RowKit
set_option linter.unusedVariables false

theorem iown_of_block {w : World} {base g : Nat} {l : List Int} (hg : w.heap[g]? = some (.cells (l.map (Value.int .i64)).toArray 3 (0, 0))) (hb : base ≤ g) (hm : l.length ≤ maxLen) (hby : ∀ x ∈ l, -9223372036854775808 ≤ x ∧ x ≤ 9223372036854775807) :
    NRow w (some ⟨g, 0, none⟩) l.length l := by
  refine ⟨rfl, hby, fun hn => ⟨g, 0, rfl, fun i hi => ?_⟩⟩
  rw [Nat.zero_add, cell_of_row w g i _ _ (0, 0) hg]
  simp [hi]

mutual
/-- The value holds the field, in blocks of its own from lo up to hi. -/
def Fl.Has (w : World) : Nat → Nat → Fl → Value → Prop
  | lo, hi, .b l, v => ∃ g, v = .slice (some ⟨g, 0, none⟩) l.length l.length ∧ lo ≤ g ∧ g < hi ∧ w.heap[g]? = some (.cells (l.map (Value.int .u8)).toArray 5 (0, 0)) ∧ (∀ x ∈ l, 0 ≤ x ∧ x ≤ 255) ∧ l.length ≤ maxLen
  | lo, hi, .i l, v => ∃ g, v = .slice (some ⟨g, 0, none⟩) l.length l.length ∧ lo ≤ g ∧ g < hi ∧ w.heap[g]? = some (.cells (l.map (Value.int .i64)).toArray 3 (0, 0)) ∧ (∀ x ∈ l, -9223372036854775808 ≤ x ∧ x ≤ 9223372036854775807) ∧ l.length ≤ maxLen
  | lo, hi, .n x, v => v = .int .i64 x
  | lo, hi, .t x, v => v = .bool x
  | lo, hi, .l k rs, v => ∃ g vs T, v = .slice (some ⟨g, 0, none⟩) rs.length rs.length ∧ lo ≤ g ∧ g < hi ∧ w.heap[g]? = some (.cells (List.toArray vs) T (0, 0)) ∧ rs.length ≤ maxLen ∧ RowsHas w k (g + 1) hi rs vs
/-- These values hold a record's fields. -/
def RecHas (w : World) : Nat → Nat → List Fl → List Value → Prop
  | lo, hi, [], us => us = []
  | lo, hi, f :: r, us => ∃ u us' mid, us = u :: us' ∧ lo ≤ mid ∧ mid ≤ hi ∧ Fl.Has w lo mid f u ∧ RecHas w mid hi r us'
/-- These values hold records, k cells each. -/
def RowsHas (w : World) (k : Nat) : Nat → Nat → List (List Fl) → List Value → Prop
  | lo, hi, [], vs => vs = []
  | lo, hi, r :: rs, vs => ∃ us vs' mid, vs = us ++ vs' ∧ us.length = k ∧ lo ≤ mid ∧ mid ≤ hi ∧ RecHas w lo mid r us ∧ RowsHas w k mid hi rs vs'
end

/-- Blocks from lo up to hi are as they were. -/
def Stays (lo hi : Nat) (w w' : World) : Prop := ∀ g, lo ≤ g → g < hi → w'.heap[g]? = w.heap[g]?

theorem Stays.mono {lo hi lo' hi' : Nat} {w w' : World} (h : Stays lo hi w w') (h1 : lo ≤ lo') (h2 : hi' ≤ hi) : Stays lo' hi' w w' := fun g a b => h g (by omega) (by omega)
theorem Stays.of {lo hi : Nat} {w w' : World} (h : Below w.heap.size w w') (hh : hi ≤ w.heap.size) : Stays lo hi w w' := fun g _ b => h.block g (by omega)
theorem Stays.put {lo hi k i : Nat} {w : World} {v : Value} (h : k < lo ∨ hi ≤ k) : Stays lo hi w (w.setCell ⟨k, i, none⟩ v) :=
  fun g a b => heap_setCell_other w ⟨k, i, none⟩ g v (by simp; omega)
theorem Stays.trans {lo hi : Nat} {a b c : World} (h : Stays lo hi a b) (k : Stays lo hi b c) : Stays lo hi a c := fun g x y => (k g x y).trans (h g x y)

mutual
theorem Fl.Has.stays' {w w' : World} : ∀ (f : Fl) (lo hi : Nat) (v : Value), Stays lo hi w w' → f.Has w lo hi v → f.Has w' lo hi v
  | .b l, lo, hi, v, hs, h => by
    unfold Fl.Has at h ⊢
    obtain ⟨g, e, h1, h2, h3, r⟩ := h
    exact ⟨g, e, h1, h2, (hs g h1 h2).trans h3, r⟩
  | .i l, lo, hi, v, hs, h => by
    unfold Fl.Has at h ⊢
    obtain ⟨g, e, h1, h2, h3, r⟩ := h
    exact ⟨g, e, h1, h2, (hs g h1 h2).trans h3, r⟩
  | .n x, lo, hi, v, hs, h => by unfold Fl.Has at h ⊢; exact h
  | .t x, lo, hi, v, hs, h => by unfold Fl.Has at h ⊢; exact h
  | .l k rs, lo, hi, v, hs, h => by
    unfold Fl.Has at h ⊢
    obtain ⟨g, vs, T, e, h1, h2, h3, h4, h5⟩ := h
    exact ⟨g, vs, T, e, h1, h2, (hs g h1 h2).trans h3, h4, RowsHas.stays' k rs (g + 1) hi vs (hs.mono (by omega) (Nat.le_refl _)) h5⟩
theorem RecHas.stays' {w w' : World} : ∀ (r : List Fl) (lo hi : Nat) (us : List Value), Stays lo hi w w' → RecHas w lo hi r us → RecHas w' lo hi r us
  | [], lo, hi, us, hs, h => by unfold RecHas at h ⊢; exact h
  | f :: r, lo, hi, us, hs, h => by
    unfold RecHas at h ⊢
    obtain ⟨u, us', mid, e, h1, h2, h3, h4⟩ := h
    exact ⟨u, us', mid, e, h1, h2, Fl.Has.stays' f lo mid u (hs.mono (Nat.le_refl _) h2) h3, RecHas.stays' r mid hi us' (hs.mono h1 (Nat.le_refl _)) h4⟩
theorem RowsHas.stays' {w w' : World} (k : Nat) : ∀ (rs : List (List Fl)) (lo hi : Nat) (vs : List Value), Stays lo hi w w' → RowsHas w k lo hi rs vs → RowsHas w' k lo hi rs vs
  | [], lo, hi, vs, hs, h => by unfold RowsHas at h ⊢; exact h
  | r :: rs, lo, hi, vs, hs, h => by
    unfold RowsHas at h ⊢
    obtain ⟨us, vs', mid, e, hl, h1, h2, h3, h4⟩ := h
    exact ⟨us, vs', mid, e, hl, h1, h2, RecHas.stays' r lo mid us (hs.mono (Nat.le_refl _) h2) h3, RowsHas.stays' k rs mid hi vs' (hs.mono h1 (Nat.le_refl _)) h4⟩
end

theorem Fl.Has.stays {w w' : World} {f : Fl} {lo hi : Nat} {v : Value} (h : f.Has w lo hi v) (hs : Stays lo hi w w') : f.Has w' lo hi v := Fl.Has.stays' f lo hi v hs h
theorem RecHas.stays {w w' : World} {r : List Fl} {lo hi : Nat} {us : List Value} (h : RecHas w lo hi r us) (hs : Stays lo hi w w') : RecHas w' lo hi r us := RecHas.stays' r lo hi us hs h
theorem RowsHas.stays {w w' : World} {k : Nat} {rs : List (List Fl)} {lo hi : Nat} {vs : List Value} (h : RowsHas w k lo hi rs vs) (hs : Stays lo hi w w') : RowsHas w' k lo hi rs vs := RowsHas.stays' k rs lo hi vs hs h

mutual
theorem Fl.Has.wide' {w : World} : ∀ (f : Fl) (lo hi lo' hi' : Nat) (v : Value), lo' ≤ lo → hi ≤ hi' → f.Has w lo hi v → f.Has w lo' hi' v
  | .b l, lo, hi, lo', hi', v, a, b, h => by
    unfold Fl.Has at h ⊢
    obtain ⟨g, e, h1, h2, h3, r⟩ := h
    exact ⟨g, e, by omega, by omega, h3, r⟩
  | .i l, lo, hi, lo', hi', v, a, b, h => by
    unfold Fl.Has at h ⊢
    obtain ⟨g, e, h1, h2, h3, r⟩ := h
    exact ⟨g, e, by omega, by omega, h3, r⟩
  | .n x, lo, hi, lo', hi', v, a, b, h => by unfold Fl.Has at h ⊢; exact h
  | .t x, lo, hi, lo', hi', v, a, b, h => by unfold Fl.Has at h ⊢; exact h
  | .l k rs, lo, hi, lo', hi', v, a, b, h => by
    unfold Fl.Has at h ⊢
    obtain ⟨g, vs, T, e, h1, h2, h3, h4, h5⟩ := h
    exact ⟨g, vs, T, e, by omega, by omega, h3, h4, RowsHas.wide' k rs (g + 1) hi (g + 1) hi' vs (Nat.le_refl _) b h5⟩
theorem RecHas.wide' {w : World} : ∀ (r : List Fl) (lo hi lo' hi' : Nat) (us : List Value), lo' ≤ lo → hi ≤ hi' → RecHas w lo hi r us → RecHas w lo' hi' r us
  | [], lo, hi, lo', hi', us, a, b, h => by unfold RecHas at h ⊢; exact h
  | f :: r, lo, hi, lo', hi', us, a, b, h => by
    unfold RecHas at h ⊢
    obtain ⟨u, us', mid, e, h1, h2, h3, h4⟩ := h
    exact ⟨u, us', mid, e, by omega, by omega, Fl.Has.wide' f lo mid lo' mid u a (Nat.le_refl _) h3, RecHas.wide' r mid hi mid hi' us' (Nat.le_refl _) b h4⟩
theorem RowsHas.wide' {w : World} (k : Nat) : ∀ (rs : List (List Fl)) (lo hi lo' hi' : Nat) (vs : List Value), lo' ≤ lo → hi ≤ hi' → RowsHas w k lo hi rs vs → RowsHas w k lo' hi' rs vs
  | [], lo, hi, lo', hi', vs, a, b, h => by unfold RowsHas at h ⊢; exact h
  | r :: rs, lo, hi, lo', hi', vs, a, b, h => by
    unfold RowsHas at h ⊢
    obtain ⟨us, vs', mid, e, hl, h1, h2, h3, h4⟩ := h
    exact ⟨us, vs', mid, e, hl, by omega, by omega, RecHas.wide' r lo mid lo' mid us a (Nat.le_refl _) h3, RowsHas.wide' k rs mid hi mid hi' vs' (Nat.le_refl _) b h4⟩
end

theorem Fl.Has.wide {w : World} {f : Fl} {lo hi lo' hi' : Nat} {v : Value} (h : f.Has w lo hi v) (a : lo' ≤ lo) (b : hi ≤ hi') : f.Has w lo' hi' v := Fl.Has.wide' f lo hi lo' hi' v a b h
theorem RecHas.wide {w : World} {r : List Fl} {lo hi lo' hi' : Nat} {us : List Value} (h : RecHas w lo hi r us) (a : lo' ≤ lo) (b : hi ≤ hi') : RecHas w lo' hi' r us := RecHas.wide' r lo hi lo' hi' us a b h
theorem RowsHas.wide {w : World} {k : Nat} {rs : List (List Fl)} {lo hi lo' hi' : Nat} {vs : List Value} (h : RowsHas w k lo hi rs vs) (a : lo' ≤ lo) (b : hi ≤ hi') : RowsHas w k lo' hi' rs vs := RowsHas.wide' k rs lo hi lo' hi' vs a b h

theorem RowsHas.len {w : World} {k : Nat} : ∀ {rs : List (List Fl)} {lo hi : Nat} {vs : List Value}, RowsHas w k lo hi rs vs → vs.length = rs.length * k := by
  intro rs
  induction rs with
  | nil => intro lo hi vs h; unfold RowsHas at h; subst h; simp
  | cons r rs ih =>
    intro lo hi vs h
    unfold RowsHas at h
    obtain ⟨us, vs', mid, rfl, hl, _, _, _, h4⟩ := h
    rw [List.length_append, hl, ih h4, List.length_cons, Nat.add_mul]; omega

/-- One more record behind the others. -/
theorem RowsHas.snoc {w : World} {k : Nat} : ∀ {rs : List (List Fl)} {lo mid hi : Nat} {vs us : List Value} {r : List Fl}, RowsHas w k lo mid rs vs → RecHas w mid hi r us → us.length = k → lo ≤ mid → mid ≤ hi → RowsHas w k lo hi (rs ++ [r]) (vs ++ us) := by
  intro rs
  induction rs with
  | nil =>
    intro lo mid hi vs us r h h2 hl a b
    unfold RowsHas at h
    subst h
    rw [List.nil_append, List.nil_append]
    unfold RowsHas
    refine ⟨us, [], hi, by simp, hl, by omega, Nat.le_refl _, h2.wide a (Nat.le_refl _), ?_⟩
    unfold RowsHas; rfl
  | cons x rs ih =>
    intro lo mid hi vs us r h h2 hl a b
    unfold RowsHas at h
    obtain ⟨us0, vs', m, rfl, hl0, h1, h3, h4, h5⟩ := h
    have := ih h5 h2 hl (by omega) b
    rw [List.cons_append, List.append_assoc]
    unfold RowsHas
    exact ⟨us0, vs' ++ us, m, rfl, hl0, h1, by omega, h4, this⟩

theorem cell_mid {w : World} {g : Nat} {T : TypeId} {pre us : List Value} {u : Value} (h : w.heap[g]? = some (.cells (pre ++ u :: us).toArray T (0, 0))) : w.cell? ⟨g, pre.length, none⟩ = some u := by
  rw [cell_of_row w g pre.length _ T (0, 0) h]
  simp

mutual
theorem Fl.Has.rd' {w : World} : ∀ (f : Fl) (lo hi : Nat) (v : Value), f.Has w lo hi v → f.Rd w v
  | .b l, lo, hi, v, h => by
    unfold Fl.Has at h
    obtain ⟨g, rfl, h1, h2, h3, h4, h5⟩ := h
    exact ⟨_, _, rfl, (own_of_block h3 (Nat.zero_le _) h5 h4).row, Nat.le_refl _, h5, by simp⟩
  | .i l, lo, hi, v, h => by
    unfold Fl.Has at h
    obtain ⟨g, rfl, h1, h2, h3, h4, h5⟩ := h
    exact ⟨_, _, rfl, (iown_of_block h3 (Nat.zero_le _) h5 h4), Nat.le_refl _, h5, by simp⟩
  | .n x, lo, hi, v, h => by unfold Fl.Has at h; exact h
  | .t x, lo, hi, v, h => by unfold Fl.Has at h; exact h
  | .l k rs, lo, hi, v, h => by
    unfold Fl.Has at h
    obtain ⟨g, vs, T, rfl, h1, h2, h3, h4, h5⟩ := h
    exact ⟨_, _, rfl, Nat.le_refl _, h4, by simp, fun _ => ⟨g, 0, rfl, RowsHas.rd' k g T rs (g + 1) hi [] vs [] (by simpa using h3) h5⟩⟩
theorem RecHas.rd' {w : World} (g : Nat) (T : TypeId) : ∀ (r : List Fl) (lo hi : Nat) (pre us post : List Value), w.heap[g]? = some (.cells (pre ++ us ++ post).toArray T (0, 0)) → RecHas w lo hi r us → RdRec w g pre.length r
  | [], lo, hi, pre, us, post, hg, h => trivial
  | f :: r, lo, hi, pre, us, post, hg, h => by
    unfold RecHas at h
    obtain ⟨u, us', mid, rfl, h1, h2, h3, h4⟩ := h
    have e : pre ++ u :: us' ++ post = pre ++ u :: (us' ++ post) := by simp
    refine ⟨⟨u, cell_mid (e ▸ hg), Fl.Has.rd' f lo mid u h3⟩, ?_⟩
    have := RecHas.rd' g T r mid hi (pre ++ [u]) us' post (by simpa using hg) h4
    simpa using this
theorem RowsHas.rd' {w : World} (k g : Nat) (T : TypeId) : ∀ (rs : List (List Fl)) (lo hi : Nat) (pre vs post : List Value), w.heap[g]? = some (.cells (pre ++ vs ++ post).toArray T (0, 0)) → RowsHas w k lo hi rs vs → RdRows w g k pre.length rs
  | [], lo, hi, pre, vs, post, hg, h => trivial
  | r :: rs, lo, hi, pre, vs, post, hg, h => by
    unfold RowsHas at h
    obtain ⟨us, vs', mid, rfl, hl, h1, h2, h3, h4⟩ := h
    refine ⟨RecHas.rd' g T r lo mid pre us (vs' ++ post) (by simpa using hg) h3, ?_⟩
    have := RowsHas.rd' k g T rs mid hi (pre ++ us) vs' post (by simpa using hg) h4
    rw [List.length_append, hl] at this
    exact this
end

theorem Fl.Has.rd {w : World} {f : Fl} {lo hi : Nat} {v : Value} (h : f.Has w lo hi v) : f.Rd w v := Fl.Has.rd' f lo hi v h

theorem RecHas.vals {w : World} : ∀ {r : List Fl} {lo hi : Nat} {us : List Value}, RecHas w lo hi r us → RdVals w r us := by
  intro r
  induction r with
  | nil => intro lo hi us h; unfold RecHas at h; exact h
  | cons f r ih =>
    intro lo hi us h
    unfold RecHas at h
    obtain ⟨u, us', mid, e, h1, h2, h3, h4⟩ := h
    exact ⟨u, us', e, h3.rd, ih h4⟩
end Go.Proofs.YtajnfknldofjlaaGreatDoor

/- A list of records while it grows, record by record. No function is walked here. -/
import Derived.Test.YthfknedokkccaaaMarkO
namespace Go.Proofs.Ythfknedokkccaaa
open Go.RowKit
set_option linter.unusedVariables false

/-- Records of one's own, none of whose blocks is another's. -/
structure AL (w : World) (T : TypeId) (base : Nat) (v : Value) (l : List R3) (ds : List D3) : Prop where
  own : DOwn w T base v ds.length l ds
  bk : Bk base w.heap.size (v.ownBlock :: owners l)

theorem AL.nil (w : World) (T : TypeId) (base : Nat) : AL w T base (.slice none 0 0) [] [] :=
  ⟨⟨World.ownsRow_nil _ _ _ _, rfl, rfl, by simp⟩, by
    refine ⟨by simp [Value.ownBlock, owners], ?_⟩
    simp [Value.ownBlock, owners]⟩

theorem AL.same {w w' : World} {T base : Nat} {v : Value} {l : List R3} {ds : List D3} (h : AL w T base v l ds) (hs : Same base w w') : AL w' T base v l ds :=
  ⟨h.own.same hs, h.bk.mono hs.size⟩
theorem AL.below {w w' : World} {T base : Nat} {v : Value} {l : List R3} {ds : List D3} (h : AL w T base v l ds) (hb : Below w.heap.size w w') : AL w' T base v l ds := h.same (Same.of hb)

/-- A store into a block that is none of its own. -/
theorem AL.other {w : World} {T base k i : Nat} {v u : Value} {l : List R3} {ds : List D3} (h : AL w T base v l ds) (hk : some k ∉ v.ownBlock :: owners l) : AL (w.setCell ⟨k, i, none⟩ u) T base v l ds := by
  refine ⟨h.own.keep (os := [some k]) (KeepO.of (grown_set w k i u) (by simp)) (fun o ho => .inr fun e => hk (by simp at e; rw [e] at ho; exact ho)), ?_⟩
  have := h.bk
  simpa using this

theorem AL.shape {w : World} {T base : Nat} {v : Value} {l : List R3} {ds : List D3} (h : AL w T base v l ds) : ∃ a c, v = .slice a ds.length c ∧ ds.length ≤ c ∧ c ≤ maxLen ∧ (a = none → c = 0) ∧ DRow w a ds.length ds := h.own.shape

/-- The block that a row owns has the row's type. -/
theorem ownsRow_type {w : World} {T base n k g : Nat} {v : Value} {xs : List Value} (h : w.ownsRow base T k v n xs) (hg : v.ownBlock = some g) : ∃ cur, w.heap[g]? = some (.cells cur T (0, 0)) := by
  rcases h.2 with ⟨e, _⟩ | ⟨g', cap, cur, hv, _, hh, _⟩
  · rw [e] at hg; cases hg
  · rw [hv] at hg
    simp only [Value.ownBlock, Option.some.injEq] at hg
    subst hg
    exact ⟨cur, hh⟩

theorem Fd.Has.type {w : World} {base g : Nat} {v : Value} {f : Fd} (h : f.Has w base v) (hg : v.ownBlock = some g) : ∃ cur, w.heap[g]? = some (.cells cur 5 (0, 0)) := by
  cases f with
  | b l => obtain ⟨a, c, e, ho⟩ := h; exact ownsRow_type ho.1 hg
  | n x => rw [show v = .int .i64 x from h] at hg; cases hg

theorem owners_type {w : World} {base g : Nat} {l : List R3} {ds : List D3} (hl : ds.length = l.length) (h : ∀ (i : Nat) (r : R3) (d : D3), l[i]? = some r → ds[i]? = some d → Hs w base r d) (hg : some g ∈ owners l) : ∃ cur, w.heap[g]? = some (.cells cur 5 (0, 0)) := by
  induction l generalizing ds with
  | nil => simp [owners] at hg
  | cons r l ih =>
    cases ds with
    | nil => simp at hl
    | cons d ds =>
      rcases List.mem_append.1 (show some g ∈ r.owns ++ owners l from hg) with hm | hm
      · have h0 := h 0 r d rfl rfl
        simp only [R3.owns, List.mem_cons, List.not_mem_nil, or_false] at hm
        rcases hm with e | e | e
        · exact h0.1.type e.symm
        · exact h0.2.1.type e.symm
        · exact h0.2.2.type e.symm
      · exact ih (ds := ds) (by simpa using hl) (fun i r' d' h1 h2 => h (i + 1) r' d' (by simpa using h1) (by simpa using h2)) hm

/-- One record more. -/
theorem AL.push {w w' : World} {T base : Nat} {v v' : Value} {l : List R3} {ds : List D3} {r : R3} {d : D3} (h : AL w T base v l ds) (hT : T ≠ 5)
    (hr : Hs w base r d) (hB : Bk base w.heap.size (owners l ++ r.owns)) (hne : v.ownBlock = none ∨ v.ownBlock ∉ r.owns)
    (ho : w'.ownsRow base T 3 v' (ds.length + 1) (flat3 l ++ r.vals)) (hg : w.grownBy w' v.ownBlock) : AL w' T base v' (l ++ [r]) (ds ++ [d]) := by
  have hlen := h.own.len
  have hflat : flat3 (l ++ [r]) = flat3 l ++ r.vals := by rw [flat3_append]; simp [flat3]
  have hkeep : ∀ (r' : R3) (d' : D3), Hs w base r' d' → (∀ o ∈ r'.owns, o = none ∨ o ≠ v.ownBlock) → Hs w' base r' d' := by
    intro r' d' hh hn
    refine hh.keep (os := [v.ownBlock]) (KeepO.of hg (by simp)) (fun o ho => ?_)
    rcases hn o ho with e | e
    · exact .inl e
    · exact .inr (by simpa using e)
  have hhas : ∀ (i : Nat) (r' : R3) (d' : D3), (l ++ [r])[i]? = some r' → (ds ++ [d])[i]? = some d' → Hs w' base r' d' := by
    intro i r' d' h1 h2
    by_cases hi : i < l.length
    · rw [List.getElem?_append_left hi] at h1
      rw [List.getElem?_append_left (by omega)] at h2
      refine hkeep r' d' (h.own.has i r' d' h1 h2) (fun o ho => ?_)
      have hm := owners_mem h1 ho
      rcases (List.pairwise_cons.1 h.bk.2).1 o hm with e | e
      · cases ho' : o with
        | none => exact .inl rfl
        | some g => right; rw [e]; simp
      · exact .inr (Ne.symm e)
    · have hlt : i < (l ++ [r]).length := (List.getElem?_eq_some_iff.1 h1).1
      have hi2 : i = l.length := by simp at hlt; omega
      subst hi2
      rw [List.getElem?_append_right (Nat.le_refl _), Nat.sub_self] at h1
      rw [List.getElem?_append_right (by omega), hlen, Nat.sub_self] at h2
      simp only [List.getElem?_cons_zero, Option.some.injEq] at h1 h2
      subst h1 h2
      refine hkeep r d hr (fun o ho => ?_)
      rcases hne with e | e
      · cases ho' : o with
        | none => exact .inl rfl
        | some g => right; rw [e]; simp
      · exact .inr (fun e' => e (by rw [← e']; exact ho))
  have hl2 : (ds ++ [d]).length = (l ++ [r]).length := by simp [hlen]
  have e1 : (ds ++ [d]).length = ds.length + 1 := by simp
  refine ⟨⟨by rw [e1, hflat]; exact ho, by rw [hl2], rfl, hhas⟩, ?_⟩
  have hown : owners (l ++ [r]) = owners l ++ r.owns := by rw [owners_append]; simp [owners]
  rw [hown]
  refine ⟨fun g hg' => ?_, List.pairwise_cons.2 ⟨fun o ho' => ?_, hB.2⟩⟩
  · rcases List.mem_cons.1 hg' with e | e
    · exact ho.lt g e.symm
    · have := hB.1 g e; have := hg.size; omega
  · cases hv : v'.ownBlock with
    | none => exact .inl rfl
    | some g =>
      right
      intro e
      rw [← e] at ho'
      obtain ⟨c1, q1⟩ := ownsRow_type ho hv
      obtain ⟨c2, q2⟩ := owners_type hl2 hhas (by rw [hown]; exact ho')
      rw [q1] at q2
      simp only [Option.some.injEq, Obj.cells.injEq] at q2
      exact hT q2.2.1

theorem Hs.oneE {w : World} {base : Nat} {r : R3} {d : D3} (h : Hs w base r d) : ∀ u ∈ r.vals, u.oneCell' = true := by
  have hf : ∀ (v : Value) (f : Fd), f.Has w base v → v.oneCell' = true := by
    intro v f hv
    cases f with
    | b l => obtain ⟨a, c, e, _⟩ := hv; rw [e]; rfl
    | n x => rw [show v = .int .i64 x from hv]; rfl
  intro u hu
  simp only [R3.vals, List.mem_cons, List.not_mem_nil, or_false] at hu
  rcases hu with e | e | e <;> subst e
  · exact hf _ _ h.1
  · exact hf _ _ h.2.1
  · exact hf _ _ h.2.2
end Go.Proofs.Ythfknedokkccaaa

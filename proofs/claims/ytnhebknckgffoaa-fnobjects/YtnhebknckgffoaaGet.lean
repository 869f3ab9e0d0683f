/- What GetNum gives, as plain functions on lists. No program is named here. -/
import Derived.Test.YtnhebknckgffoaaNum
namespace Go.Proofs.Ytnhebknckgffoaa

/-- The bytes of one number at the head of a list: up to the first without the mark, five at most. -/
def getR : Nat → List Int → Option (List Int)
  | 0, _ => none
  | _ + 1, [] => none
  | f + 1, x :: r => if x < 128 then some [x] else (getR f r).map (x :: ·)

def valI : List Int → Int
  | [] => 0
  | x :: r => x % 128 + 128 * valI r

def badEnd (d : List Int) : Bool := decide (1 < d.length) && d.getLast? == some 0

/-- What GetNum answers at place t of l. -/
def getL (l : List Int) (t : Int) : Int × Int :=
  if t < 0 ∨ (l.length : Int) < t then (0, -1) else
  match getR 5 (l.drop t.toNat) with
  | none => (0, -1)
  | some d => if badEnd d = true ∨ 2147483647 < valI d then (0, -1) else (valI d, t + d.length)

theorem valI_val (d : List Int) (h : ∀ x ∈ d, 0 ≤ x ∧ x ≤ 255) : valI d = (val d : Int) := by
  induction d with
  | nil => rfl
  | cons x r ih =>
    have hx := h x (by simp)
    simp only [valI, val, ih (fun y hy => h y (by simp [hy]))]
    omega

theorem getR_bytes {f : Nat} {p d : List Int} (h : getR f p = some d) (hby : ∀ x ∈ p, 0 ≤ x ∧ x ≤ 255) : ∀ x ∈ d, 0 ≤ x ∧ x ≤ 255 := by
  induction f generalizing p d with
  | zero => simp [getR] at h
  | succ f ih =>
    cases p with
    | nil => simp [getR] at h
    | cons x r =>
      simp only [getR] at h
      split at h
      · obtain rfl := Option.some.inj h; intro y hy; exact hby y (by simp at hy; simp [hy])
      · obtain ⟨d', hd', rfl⟩ := Option.map_eq_some_iff.1 h
        intro y hy
        rcases List.mem_cons.1 hy with rfl | hy
        · exact hby _ (by simp)
        · exact ih hd' (fun z hz => hby z (by simp [hz])) y hy

theorem getR_whole {f : Nat} {p d : List Int} (h : getR f p = some d) (hby : ∀ x ∈ p, 0 ≤ x ∧ x ≤ 255) : whole d ∧ d.length ≤ f := by
  induction f generalizing p d with
  | zero => simp [getR] at h
  | succ f ih =>
    cases p with
    | nil => simp [getR] at h
    | cons x r =>
      have hx := hby x (by simp)
      simp only [getR] at h
      split at h
      · obtain rfl := Option.some.inj h; simp [whole]; omega
      · obtain ⟨d', hd', rfl⟩ := Option.map_eq_some_iff.1 h
        have := ih hd' (fun z hz => hby z (by simp [hz]))
        cases d' with
        | nil => exact this.1.elim
        | cons y s => exact ⟨⟨by omega, hx.2, this.1⟩, by have := this.2; simp at this ⊢; omega⟩

/-- A row that is whole is read as itself, whatever stands behind it. -/
theorem getR_of_whole {d : List Int} (h : whole d) {f : Nat} (hf : d.length ≤ f) (r : List Int) : getR f (d ++ r) = some d := by
  induction d generalizing f with
  | nil => exact h.elim
  | cons x s ih =>
    obtain ⟨g, rfl⟩ : ∃ g, f = g + 1 := ⟨f - 1, by simp at hf; omega⟩
    cases s with
    | nil => simp only [List.cons_append, getR]; rw [if_pos h.2]
    | cons y s' =>
      have := ih h.2.2 (f := g) (by simpa using hf)
      have hx := h.1
      show (if x < 128 then some [x] else (getR g ((y :: s') ++ r)).map (x :: ·)) = _
      rw [if_neg (by omega), this]
      rfl

theorem badEnd_num (d : List Int) (h : whole d) : badEnd d = false ↔ num (val d) = d := by
  have hl : 0 < d.length := by cases d with | nil => exact h.elim | cons => simp
  constructor
  · intro hb
    refine num_val d h ?_
    simp only [badEnd, Bool.and_eq_false_iff, decide_eq_false_iff_not, beq_eq_false_iff_ne] at hb
    rcases hb with hb | hb
    · left; omega
    · right; exact hb
  · intro hn
    have := num_last (val d)
    rw [hn] at this
    simp only [badEnd, Bool.and_eq_false_iff, decide_eq_false_iff_not, beq_eq_false_iff_ne]
    rcases this with h1 | h1
    · left; omega
    · right; exact h1

/-- The ways in which a list of bytes begins. -/
theorem get_cases (p : List Int) (hby : ∀ x ∈ p, 0 ≤ x ∧ x ≤ 255) :
    (∃ x0 r, p = x0 :: r ∧ 0 ≤ x0 ∧ x0 < 128) ∨
    (∃ x0 x1 r, p = x0 :: x1 :: r ∧ 128 ≤ x0 ∧ x0 ≤ 255 ∧ 0 ≤ x1 ∧ x1 < 128) ∨
    (∃ x0 x1 x2 r, p = x0 :: x1 :: x2 :: r ∧ 128 ≤ x0 ∧ x0 ≤ 255 ∧ 128 ≤ x1 ∧ x1 ≤ 255 ∧ 0 ≤ x2 ∧ x2 < 128) ∨
    (∃ x0 x1 x2 x3 r, p = x0 :: x1 :: x2 :: x3 :: r ∧ 128 ≤ x0 ∧ x0 ≤ 255 ∧ 128 ≤ x1 ∧ x1 ≤ 255 ∧ 128 ≤ x2 ∧ x2 ≤ 255 ∧ 0 ≤ x3 ∧ x3 < 128) ∨
    (∃ x0 x1 x2 x3 x4 r, p = x0 :: x1 :: x2 :: x3 :: x4 :: r ∧ 128 ≤ x0 ∧ x0 ≤ 255 ∧ 128 ≤ x1 ∧ x1 ≤ 255 ∧ 128 ≤ x2 ∧ x2 ≤ 255 ∧ 128 ≤ x3 ∧ x3 ≤ 255 ∧ 0 ≤ x4 ∧ x4 < 128) ∨
    p = [] ∨
    (∃ x0, p = [x0] ∧ 128 ≤ x0 ∧ x0 ≤ 255) ∨
    (∃ x0 x1, p = [x0, x1] ∧ 128 ≤ x0 ∧ x0 ≤ 255 ∧ 128 ≤ x1 ∧ x1 ≤ 255) ∨
    (∃ x0 x1 x2, p = [x0, x1, x2] ∧ 128 ≤ x0 ∧ x0 ≤ 255 ∧ 128 ≤ x1 ∧ x1 ≤ 255 ∧ 128 ≤ x2 ∧ x2 ≤ 255) ∨
    (∃ x0 x1 x2 x3, p = [x0, x1, x2, x3] ∧ 128 ≤ x0 ∧ x0 ≤ 255 ∧ 128 ≤ x1 ∧ x1 ≤ 255 ∧ 128 ≤ x2 ∧ x2 ≤ 255 ∧ 128 ≤ x3 ∧ x3 ≤ 255) ∨
    (∃ x0 x1 x2 x3 x4 r, p = x0 :: x1 :: x2 :: x3 :: x4 :: r ∧ 128 ≤ x0 ∧ x0 ≤ 255 ∧ 128 ≤ x1 ∧ x1 ≤ 255 ∧ 128 ≤ x2 ∧ x2 ≤ 255 ∧ 128 ≤ x3 ∧ x3 ≤ 255 ∧ 128 ≤ x4 ∧ x4 ≤ 255) := by
  rcases p with _ | ⟨x0, p⟩
  · exact .inr (.inr (.inr (.inr (.inr (.inl rfl)))))
  have b0 := hby x0 (by simp)
  by_cases h0 : x0 < 128
  · exact .inl ⟨x0, p, rfl, by omega, h0⟩
  rcases p with _ | ⟨x1, p⟩
  · exact .inr (.inr (.inr (.inr (.inr (.inr (.inl ⟨x0, rfl, by omega, by omega⟩))))))
  have b1 := hby x1 (by simp)
  by_cases h1 : x1 < 128
  · exact .inr (.inl ⟨x0, x1, p, rfl, by omega, by omega, by omega, h1⟩)
  rcases p with _ | ⟨x2, p⟩
  · exact .inr (.inr (.inr (.inr (.inr (.inr (.inr (.inl ⟨x0, x1, rfl, by omega, by omega, by omega, by omega⟩)))))))
  have b2 := hby x2 (by simp)
  by_cases h2 : x2 < 128
  · exact .inr (.inr (.inl ⟨x0, x1, x2, p, rfl, by omega, by omega, by omega, by omega, by omega, h2⟩))
  rcases p with _ | ⟨x3, p⟩
  · exact .inr (.inr (.inr (.inr (.inr (.inr (.inr (.inr (.inl ⟨x0, x1, x2, rfl, by omega, by omega, by omega, by omega, by omega, by omega⟩))))))))
  have b3 := hby x3 (by simp)
  by_cases h3 : x3 < 128
  · exact .inr (.inr (.inr (.inl ⟨x0, x1, x2, x3, p, rfl, by omega, by omega, by omega, by omega, by omega, by omega, by omega, h3⟩)))
  rcases p with _ | ⟨x4, p⟩
  · exact .inr (.inr (.inr (.inr (.inr (.inr (.inr (.inr (.inr (.inl ⟨x0, x1, x2, x3, rfl, by omega, by omega, by omega, by omega, by omega, by omega, by omega, by omega⟩)))))))))
  have b4 := hby x4 (by simp)
  by_cases h4 : x4 < 128
  · exact .inr (.inr (.inr (.inr (.inl ⟨x0, x1, x2, x3, x4, p, rfl, by omega, by omega, by omega, by omega, by omega, by omega, by omega, by omega, by omega, h4⟩))))
  · exact .inr (.inr (.inr (.inr (.inr (.inr (.inr (.inr (.inr (.inr ⟨x0, x1, x2, x3, x4, p, rfl, by omega, by omega, by omega, by omega, by omega, by omega, by omega, by omega, by omega, by omega⟩)))))))))
end Go.Proofs.Ytnhebknckgffoaa

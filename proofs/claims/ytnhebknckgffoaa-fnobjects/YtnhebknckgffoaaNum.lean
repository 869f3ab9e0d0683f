/- Plain facts on the bytes of numbers: no program is named here. -/
namespace Go.Proofs.Ytnhebknckgffoaa

/-- The bytes of a number, seven bits a byte, the lowest first. -/
def num (n : Nat) : List Int := if h : n < 128 then [(n : Int)] else ((n % 128 + 128 : Nat) : Int) :: num (n / 128)
  termination_by n
  decreasing_by omega

theorem num_lt {n : Nat} (h : n < 128) : num n = [(n : Int)] := by rw [num, dif_pos h]
theorem num_ge {n : Nat} (h : ¬ n < 128) : num n = ((n % 128 + 128 : Nat) : Int) :: num (n / 128) := by rw [num, dif_neg h]

theorem num_pos (n : Nat) : 0 < (num n).length := by
  by_cases h : n < 128
  · rw [num_lt h]; simp
  · rw [num_ge h]; simp

theorem num_len (k : Nat) : ∀ n : Nat, n < 128 ^ k → 0 < k → (num n).length ≤ k := by
  induction k with
  | zero => intro n _ h; omega
  | succ k ih =>
    intro n hn _
    by_cases h : n < 128
    · rw [num_lt h]; simp
    · rw [num_ge h]
      have : 0 < k := by
        rcases Nat.eq_zero_or_pos k with rfl | h0
        · simp at hn; omega
        · exact h0
      have := ih (n / 128) (by rw [Nat.pow_succ] at hn; omega) this
      simp; omega

theorem num_len5 (n : Nat) (h : n ≤ 2147483647) : (num n).length ≤ 5 := num_len 5 n (by omega) (by omega)

theorem num_byte (n : Nat) : ∀ x ∈ num n, 0 ≤ x ∧ x ≤ 255 := by
  induction n using Nat.strongRecOn with
  | _ n ih =>
    by_cases h : n < 128
    · rw [num_lt h]; intro x hx; simp at hx; omega
    · rw [num_ge h]; intro x hx
      rcases List.mem_cons.1 hx with rfl | hx
      · omega
      · exact ih (n / 128) (by omega) x hx

/-- What a row of bytes is worth. -/
def val : List Int → Nat
  | [] => 0
  | x :: r => (x % 128).toNat + 128 * val r

theorem val_num (n : Nat) : val (num n) = n := by
  induction n using Nat.strongRecOn with
  | _ n ih =>
    by_cases h : n < 128
    · rw [num_lt h]; simp [val]; omega
    · rw [num_ge h, val, ih (n / 128) (by omega)]; omega

/-- The bytes of one number, whole: all but the last bear the mark. -/
def whole : List Int → Prop
  | [] => False
  | [x] => 0 ≤ x ∧ x < 128
  | x :: y :: r => 128 ≤ x ∧ x ≤ 255 ∧ whole (y :: r)

theorem num_whole (n : Nat) : whole (num n) := by
  induction n using Nat.strongRecOn with
  | _ n ih =>
    by_cases h : n < 128
    · rw [num_lt h]; simp [whole]; omega
    · rw [num_ge h]
      have := ih (n / 128) (by omega)
      cases hc : num (n / 128) with
      | nil => rw [hc] at this; exact this.elim
      | cons y r => rw [hc] at this; exact ⟨by omega, by omega, this⟩

/-- A whole row is the row of what it is worth, just if it does not end with a needless nought. -/
theorem num_val : ∀ l : List Int, whole l → (l.length = 1 ∨ l.getLast? ≠ some 0) → num (val l) = l
  | [], h, _ => h.elim
  | [x], h, _ => by
    have hx : val [x] = x.toNat := by simp [val]; have := h; simp only [whole] at this; omega
    have h' := h; simp only [whole] at h'
    rw [hx, num_lt (by omega)]
    congr 1; omega
  | x :: y :: r, h, hl => by
    have hl' : (y :: r).length = 1 ∨ (y :: r).getLast? ≠ some 0 := by
      right; simpa [List.getLast?_cons_cons] using hl
    have ih := num_val (y :: r) h.2.2 hl'
    have hx := h.1; have hx2 := h.2.1
    have hpos : 0 < val (y :: r) := by
      rcases Nat.eq_zero_or_pos (val (y :: r)) with h0 | h0
      · rw [h0, num_lt (by omega)] at ih
        rw [← ih] at hl
        simp at hl
      · exact h0
    have e : val (x :: y :: r) = (x % 128).toNat + 128 * val (y :: r) := rfl
    rw [e, num_ge (by omega)]
    congr 1
    · omega
    · rw [show ((x % 128).toNat + 128 * val (y :: r)) / 128 = val (y :: r) from by omega]; exact ih

theorem num_last (n : Nat) : (num n).length = 1 ∨ (num n).getLast? ≠ some 0 := by
  induction n using Nat.strongRecOn with
  | _ n ih =>
    by_cases h : n < 128
    · left; rw [num_lt h]; rfl
    · right; rw [num_ge h]
      have h2 := ih (n / 128) (by omega)
      cases hc : num (n / 128) with
      | nil => have := num_pos (n / 128); rw [hc] at this; simp at this
      | cons y r =>
        rw [List.getLast?_cons_cons]
        rcases h2 with h2 | h2
        · rw [hc] at h2
          have hr : r = [] := by simpa using h2
          subst hr
          by_cases h3 : n / 128 < 128
          · rw [num_lt h3] at hc; simp at hc; subst hc; simp; omega
          · rw [num_ge h3] at hc; have := num_pos (n / 128 / 128); simp at hc; rw [hc.2] at this; simp at this
        · rw [hc] at h2; exact h2

end Go.Proofs.Ytnhebknckgffoaa

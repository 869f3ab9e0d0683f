/- Numbers and texts come back from their bytes: on lists. -/
import Derived.Test.YtbmnplfdlkbpgaaPutText
import Derived.Test.YtbmnplfdlkbpgaaGetText
namespace Go.Proofs.Ytbmnplfdlkbpgaa

theorem badEnd_of_num (k : Nat) : badEnd (num k) = false := (badEnd_num (num k) (num_whole k)).2 (by rw [val_num])

theorem get_put (l r : List Int) (k : Nat) (hk : k ≤ 2147483647) : getL (l ++ num k ++ r) (l.length : Int) = ((k : Int), (l.length : Int) + ((num k).length : Int)) := by
  have hR : getR 5 ((l ++ num k ++ r).drop l.length) = some (num k) := by
    rw [List.append_assoc, List.drop_left]
    exact getR_of_whole (num_whole k) (num_len5 k hk) r
  have hv : valI (num k) = (k : Int) := by rw [valI_val _ (num_byte k), val_num]
  unfold getL
  rw [if_neg (by simp; omega), Int.toNat_natCast, hR]
  simp only []
  rw [if_neg (by rw [badEnd_of_num, hv]; simp; omega), hv]

theorem getT_put (l t : List Int) (ht : t.length ≤ 40) : getT (l ++ textL t) (l.length : Int) = (t, (l.length : Int) + ((textL t).length : Int)) := by
  have e : textL t = num t.length ++ t := by unfold textL; rw [if_pos ht]
  have hg : getL (l ++ textL t) (l.length : Int) = ((t.length : Int), (l.length : Int) + ((num t.length).length : Int)) := by
    rw [e, ← List.append_assoc]; exact get_put l t t.length (by omega)
  unfold getT
  rw [hg]
  simp only []
  rw [if_neg (by rw [e]; simp; omega)]
  have h1 : ((l.length : Int) + ((num t.length).length : Int)).toNat = l.length + (num t.length).length := by omega
  rw [h1, Int.toNat_natCast, e]
  congr 1
  · rw [← List.append_assoc, show l.length + (num t.length).length = (l ++ num t.length).length by simp, List.drop_left, List.take_of_length_le (Nat.le_refl _)]
  · simp; omega

theorem getR_pre {f : Nat} {p d : List Int} (h : getR f p = some d) : p.take d.length = d := by
  induction f generalizing p d with
  | zero => simp [getR] at h
  | succ f ih =>
    cases p with
    | nil => simp [getR] at h
    | cons x r =>
      simp only [getR] at h
      split at h
      · obtain rfl := Option.some.inj h; simp
      · obtain ⟨d', hd', rfl⟩ := Option.map_eq_some_iff.1 h
        simp [ih hd']

/-- What is read is just the bytes of it. -/
theorem put_get (l : List Int) (t : Int) (hby : ∀ x ∈ l, 0 ≤ x ∧ x ≤ 255) (h : ¬ (getL l t).2 < 0) :
    0 ≤ t ∧ t ≤ l.length ∧ l.take t.toNat ++ putL (getL l t).1 = l.take (getL l t).2.toNat ∧ t ≤ (getL l t).2 ∧ (getL l t).2 ≤ l.length ∧ 0 < (getL l t).2 := by
  have hok := getL_ok l t hby
  rcases hok with e | ⟨h1, h2, h3, h4⟩
  · rw [e] at h; exact absurd (show (-1 : Int) < 0 by omega) h
  · revert h h1 h2 h3 h4
    unfold getL
    split
    · intro h; exact absurd (show (-1 : Int) < 0 by omega) h
    · cases hg : getR 5 (l.drop t.toNat) with
      | none => intro h; exact absurd (show (-1 : Int) < 0 by omega) h
      | some d =>
        simp only []
        split
        · intro h; exact absurd (show (-1 : Int) < 0 by omega) h
        · intro h h1 h2 h3 h4
          rename_i hout hnb
          have hbd : ∀ x ∈ l.drop t.toNat, 0 ≤ x ∧ x ≤ 255 := fun x hx => hby x (List.mem_of_mem_drop hx)
          have hw := getR_whole hg hbd
          have hv := valI_val d (getR_bytes hg hbd)
          have hbe : badEnd d = false := by
            cases hb : badEnd d with
            | false => rfl
            | true => exact absurd (.inl hb) hnb
          have hnum := (badEnd_num d hw.1).1 hbe
          have hp : putL (valI d) = d := by
            unfold putL
            rw [if_pos ⟨h1, h2⟩, hv, Int.toNat_natCast, hnum]
          refine ⟨by omega, by omega, ?_, ?_, h4, h3⟩
          · show l.take t.toNat ++ putL (valI d) = l.take (t + d.length).toNat
            rw [hp, show (t + (d.length : Int)).toNat = t.toNat + d.length by omega, List.take_add, getR_pre hg]
          · show t ≤ t + d.length
            omega
end Go.Proofs.Ytbmnplfdlkbpgaa

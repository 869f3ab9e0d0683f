/- What is read of an object's bytes, as data. No function is walked here. -/
import Derived.Test.YthfknedokkccaaaGetText
import Derived.Test.YthfknedokkccaaaObjPure
namespace Go.Proofs.Ythfknedokkccaaa
open Go.RowKit
set_option linter.unusedVariables false

def cnt (l : List Int) (most t : Int) : Int × Int := if most < (getL l t).1 then (0, -1) else getL l t

theorem getL_neg {l : List Int} {t : Int} (h : t < 0) : getL l t = (0, -1) := by unfold getL; rw [if_pos (.inl h)]
theorem getT_neg {l : List Int} {t : Int} (h : t < 0) : getT l t = ([], -1) := by unfold getT; rw [getL_neg h]; rw [if_pos (.inl (by decide))]
theorem cnt_neg {l : List Int} {m t : Int} (h : t < 0) (hm : 0 ≤ m) : cnt l m t = (0, -1) := by
  unfold cnt; rw [getL_neg h]; rw [if_neg (by show ¬ m < 0; omega)]

/-- A place that may be. -/
def At (l : List Int) (t : Int) : Prop := t = -1 ∨ (0 < t ∧ t ≤ l.length)

theorem getL_at {l : List Int} (hby : ∀ x ∈ l, 0 ≤ x ∧ x ≤ 255) (t : Int) : At l (getL l t).2 := by
  rcases getL_ok l t hby with e | ⟨_, _, h1, h2⟩
  · left; rw [e]
  · exact .inr ⟨h1, h2⟩
theorem getL_num {l : List Int} (hby : ∀ x ∈ l, 0 ≤ x ∧ x ≤ 255) (t : Int) : 0 ≤ (getL l t).1 ∧ (getL l t).1 ≤ 2147483647 := by
  rcases getL_ok l t hby with e | ⟨h1, h2, _, _⟩
  · rw [e]; exact ⟨by decide, by decide⟩
  · exact ⟨h1, h2⟩
theorem cnt_at {l : List Int} (hby : ∀ x ∈ l, 0 ≤ x ∧ x ≤ 255) (m t : Int) : At l (cnt l m t).2 := by
  unfold cnt; split
  · exact .inl rfl
  · exact getL_at hby t
theorem cnt_num {l : List Int} (hby : ∀ x ∈ l, 0 ≤ x ∧ x ≤ 255) {m : Int} (hm : 0 ≤ m) (t : Int) : 0 ≤ (cnt l m t).1 ∧ (cnt l m t).1 ≤ m := by
  unfold cnt; split
  · exact ⟨by decide, hm⟩
  · exact ⟨(getL_num hby t).1, by omega⟩
theorem getT_at {l : List Int} (hby : ∀ x ∈ l, 0 ≤ x ∧ x ≤ 255) (t : Int) : At l (getT l t).2 := by
  have h1 := getL_num hby t
  have h2 := getL_at hby t
  unfold getT; split
  · exact .inl rfl
  · rename_i h
    right
    have h3 : ¬ (getL l t).2 < 0 := fun e => h (.inl e)
    have h4 : ¬ (l.length : Int) - (getL l t).2 < (getL l t).1 := fun e => h (.inr (.inr e))
    rcases h2 with e | ⟨h5, h6⟩
    · omega
    · show 0 < (getL l t).2 + (getL l t).1 ∧ (getL l t).2 + (getL l t).1 ≤ l.length
      omega
theorem cnt_pos {l : List Int} {m t : Int} (h : 0 ≤ (cnt l m t).2) : cnt l m t = getL l t ∧ 0 ≤ t := by
  have h1 : ¬ m < (getL l t).1 := by
    intro hm; unfold cnt at h; rw [if_pos hm] at h; revert h; show 0 ≤ (-1 : Int) → False; decide
  have e : cnt l m t = getL l t := by unfold cnt; rw [if_neg h1]
  refine ⟨e, ?_⟩
  rcases Int.lt_or_le t 0 with ht | ht
  · rw [e, getL_neg ht] at h; revert h; show 0 ≤ (-1 : Int) → 0 ≤ t; intro h; exact absurd h (by decide)
  · exact ht

def exN (l : List Int) (t : Int) : D3 × Int :=
  (⟨.b (getT l t).1, .n (getL l (getT l t).2).1, .n (getL l (getL l (getT l t).2).2).1⟩, (getL l (getL l (getT l t).2).2).2)
def imN (l : List Int) (t : Int) : D3 × Int :=
  (⟨.b (getT l t).1, .b (getT l (getT l t).2).1, .n (getL l (getT l (getT l t).2).2).1⟩, (getL l (getT l (getT l t).2).2).2)

theorem exN_neg {l : List Int} {t : Int} (h : t < 0) : (exN l t).2 < 0 := by
  show (getL l (getL l (getT l t).2).2).2 < 0
  rw [getT_neg h]
  rw [getL_neg (t := (([] : List Int), (-1 : Int)).2) (by decide)]
  rw [getL_neg (by decide)]
  decide
theorem imN_neg {l : List Int} {t : Int} (h : t < 0) : (imN l t).2 < 0 := by
  show (getL l (getT l (getT l t).2).2).2 < 0
  rw [getT_neg h]
  rw [getT_neg (t := (([] : List Int), (-1 : Int)).2) (by decide)]
  rw [getL_neg (by decide)]
  decide

/-- So many records, one behind the other. -/
def rep (f : Int → D3 × Int) : Nat → Int → List D3 × Int
  | 0, t => ([], t)
  | k + 1, t => ((rep f k t).1 ++ [(f (rep f k t).2).1], (f (rep f k t).2).2)

theorem rep_len (f : Int → D3 × Int) (k : Nat) (t : Int) : (rep f k t).1.length = k := by
  induction k with
  | zero => rfl
  | succ k ih => simp [rep, ih]
theorem rep_neg {f : Int → D3 × Int} (hf : ∀ t, t < 0 → (f t).2 < 0) {t : Int} {j k : Nat} (hjk : j ≤ k) (h : (rep f j t).2 < 0) : (rep f k t).2 < 0 := by
  induction k with
  | zero => obtain rfl : j = 0 := by omega
            exact h
  | succ k ih =>
    rcases Nat.lt_or_ge k j with hk | hk
    · obtain rfl : j = k + 1 := by omega
      exact h
    · exact hf _ (ih hk)
theorem rep_at {l : List Int} {f : Int → D3 × Int} (hf : ∀ t, At l (f t).2) {t : Int} (ht : At l t) (k : Nat) : At l (rep f k t).2 := by
  cases k with
  | zero => exact ht
  | succ k => exact hf _
theorem rep_mem {P : D3 → Prop} {f : Int → D3 × Int} (hf : ∀ t, P (f t).1) (k : Nat) (t : Int) : ∀ d ∈ (rep f k t).1, P d := by
  induction k with
  | zero => intro d hd; simp [rep] at hd
  | succ k ih =>
    intro d hd
    rcases List.mem_append.1 (show d ∈ (rep f k t).1 ++ [(f (rep f k t).2).1] from hd) with h | h
    · exact ih d h
    · simp at h; rw [h]; exact hf _
theorem exN_is (l : List Int) (t : Int) : isE (exN l t).1 := ⟨_, _, _, rfl⟩
theorem imN_is (l : List Int) (t : Int) : isM (imN l t).1 := ⟨_, _, _, rfl⟩
theorem exN_at {l : List Int} (hby : ∀ x ∈ l, 0 ≤ x ∧ x ≤ 255) (t : Int) : At l (exN l t).2 := getL_at hby _
theorem imN_at {l : List Int} (hby : ∀ x ∈ l, 0 ≤ x ∧ x ≤ 255) (t : Int) : At l (imN l t).2 := getL_at hby _

def r1 (l : List Int) : List Int × Int := getT l 2
def r2 (l : List Int) : Int × Int := cnt l 8 (r1 l).2
def r3 (l : List Int) : List D3 × Int := rep (exN l) (r2 l).1.toNat (r2 l).2
def r4 (l : List Int) : Int × Int := cnt l 8 (r3 l).2
def r5 (l : List Int) : List D3 × Int := rep (imN l) (r4 l).1.toNat (r4 l).2
def r6 (l : List Int) : Int × Int := getL l (r5 l).2
def r7 (l : List Int) : Int × Int := cnt l 9000 (r6 l).2
/-- So many bytes at place t. -/
def byL (l : List Int) (n t : Int) : List Int × Int :=
  if t < 0 ∨ (l.length : Int) - t < n then ([], -1) else ((l.drop t.toNat).take n.toNat, t + n)
def r8 (l : List Int) : List Int × Int := byL l (r7 l).1 (r7 l).2
def obL (l : List Int) : Ob := ⟨(r1 l).1, (r3 l).1, (r5 l).1, (r6 l).1, (r8 l).1⟩
def startsL (l : List Int) : Bool := decide (l.take 2 = [66, 72])
def rdOk (l : List Int) : Bool := startsL l && (decide ((r8 l).2 = l.length) && objOk (obL l))
def ob0 : Ob := ⟨[], [], [], 0, []⟩
def rdR (l : List Int) : Ob := if rdOk l = true then obL l else ob0

theorem rd_noStart {l : List Int} (h : startsL l = false) : rdOk l = false := by unfold rdOk; rw [h]; rfl
theorem rd_noEnd {l : List Int} (h : (r8 l).2 ≠ l.length) : rdOk l = false := by unfold rdOk; rw [decide_eq_false h]; simp
theorem rd_end {l : List Int} (hs : startsL l = true) (h : (r8 l).2 = l.length) : rdOk l = objOk (obL l) := by unfold rdOk; rw [hs, decide_eq_true h]; simp
theorem rdR_no {l : List Int} (h : rdOk l = false) : rdR l = ob0 := by unfold rdR; rw [h]; rfl
theorem rdR_yes {l : List Int} (h : rdOk l = true) : rdR l = obL l := by unfold rdR; rw [h]; rfl

theorem byL_pos {l : List Int} {n t : Int} (h : 0 ≤ (byL l n t).2) : 0 ≤ t ∧ n ≤ l.length - t ∧ (byL l n t).2 = t + n := by
  by_cases hc : t < 0 ∨ (l.length : Int) - t < n
  · unfold byL at h; rw [if_pos hc] at h
    exact absurd (show (0 : Int) ≤ -1 from h) (by decide)
  · have h1 : ¬ t < 0 := fun e => hc (.inl e)
    have h2 : ¬ (l.length : Int) - t < n := fun e => hc (.inr e)
    refine ⟨by omega, by omega, ?_⟩
    unfold byL; rw [if_neg hc]

theorem objOk_data {b : Ob} (h : objOk b = true) : b.data ≤ 200 := by
  unfold objOk inB at h
  simp only [Bool.and_eq_true, decide_eq_true_eq] at h
  omega

/-- What another reader, one that leaves a list at what is wrong, finds at the end: the same. -/
theorem rd_other {l : List Int} (hby : ∀ x ∈ l, 0 ≤ x ∧ x ≤ 255) {e i : List D3} {t3 t5 : Int}
    (h3 : (t3 < 0 ∧ (r3 l).2 < 0) ∨ (e, t3) = r3 l)
    (h5 : (t5 < 0 ∧ (rep (imN l) (cnt l 8 t3).1.toNat (cnt l 8 t3).2).2 < 0) ∨ (i, t5) = rep (imN l) (cnt l 8 t3).1.toNat (cnt l 8 t3).2) :
    (((cnt l 9000 (cnt l 200 t5).2).2 < 0 ∨ (cnt l 9000 (cnt l 200 t5).2).1 ≠ l.length - (cnt l 9000 (cnt l 200 t5).2).2) → rdOk l = false) ∧
    (0 ≤ (cnt l 9000 (cnt l 200 t5).2).2 → (cnt l 9000 (cnt l 200 t5).2).1 = l.length - (cnt l 9000 (cnt l 200 t5).2).2 →
      obL l = ⟨(r1 l).1, e, i, (cnt l 200 t5).1, l.drop (cnt l 9000 (cnt l 200 t5).2).2.toNat⟩ ∧ (r8 l).2 = l.length) := by
  constructor
  · intro hno
    cases hr : rdOk l with
    | false => rfl
    | true =>
      exfalso
      have hr' := hr
      unfold rdOk at hr'
      simp only [Bool.and_eq_true, decide_eq_true_eq] at hr'
      obtain ⟨_, h8, hob⟩ := hr'
      have hd := objOk_data hob
      have h8' := byL_pos (l := l) (n := (r7 l).1) (t := (r7 l).2) (by show 0 ≤ (r8 l).2; omega)
      have h7 := cnt_pos (l := l) (m := 9000) (t := (r6 l).2) h8'.1
      have h6 : 0 ≤ (r5 l).2 := by
        rcases Int.lt_or_le (r5 l).2 0 with ht | ht
        · have := h7.2; unfold r6 at this; rw [getL_neg ht] at this; exact absurd (show (0 : Int) ≤ -1 from this) (by decide)
        · exact ht
      have h4 : 0 ≤ (r4 l).2 := by
        rcases Int.lt_or_le (r4 l).2 0 with ht | ht
        · have := rep_neg (f := imN l) (fun t h => imN_neg h) (t := (r4 l).2) (Nat.zero_le (r4 l).1.toNat) ht
          unfold r5 at h6; omega
        · exact ht
      have h3' : 0 ≤ (r3 l).2 := (cnt_pos (l := l) (m := 8) h4).2
      have e3 : (e, t3) = r3 l := h3.resolve_left (by omega)
      have e3' : t3 = (r3 l).2 := by rw [← e3]
      subst e3'
      have e5 : (i, t5) = r5 l := h5.resolve_left (by have h6' := h6; unfold r5 r4 at h6'; omega)
      have e5' : t5 = (r5 l).2 := by rw [← e5]
      subst e5'
      have e6 : cnt l 200 (r5 l).2 = r6 l := by unfold cnt r6; rw [if_neg (by have : (getL l (r5 l).2).1 ≤ 200 := hd; omega)]
      rw [e6] at hno
      have e7 : cnt l 9000 (r6 l).2 = r7 l := rfl
      rw [e7] at hno
      have e8 : (r8 l).2 = (r7 l).2 + (r7 l).1 := h8'.2.2
      omega
  · intro hp he
    have h7 := cnt_pos hp
    have h6 := cnt_pos h7.2
    have h5' : (i, t5) = rep (imN l) (cnt l 8 t3).1.toNat (cnt l 8 t3).2 := h5.resolve_left (by have := h6.2; omega)
    have h4 : 0 ≤ (cnt l 8 t3).2 := by
      rcases Int.lt_or_le (cnt l 8 t3).2 0 with ht | ht
      · have := rep_neg (f := imN l) (fun t h => imN_neg h) (Nat.zero_le (cnt l 8 t3).1.toNat) ht
        rw [← h5'] at this
        have := h6.2
        omega
      · exact ht
    have e3 : (e, t3) = r3 l := h3.resolve_left (by have := (cnt_pos h4).2; omega)
    have e3' : t3 = (r3 l).2 := by rw [← e3]
    have e3'' : e = (r3 l).1 := by rw [← e3]
    subst e3' e3''
    have e5 : (i, t5) = r5 l := h5'
    have e5' : t5 = (r5 l).2 := by rw [← e5]
    have e5'' : i = (r5 l).1 := by rw [← e5]
    subst e5' e5''
    have e6 : cnt l 200 (r5 l).2 = r6 l := h6.1
    rw [e6] at hp he ⊢
    have e7 : cnt l 9000 (r6 l).2 = r7 l := rfl
    rw [e7] at hp he ⊢
    have e8 : r8 l = ((l.drop (r7 l).2.toNat).take (r7 l).1.toNat, (r7 l).2 + (r7 l).1) := by
      unfold r8 byL; rw [if_neg (by omega)]
    have e9 : (l.drop (r7 l).2.toNat).take (r7 l).1.toNat = l.drop (r7 l).2.toNat := by
      rw [List.take_of_length_le]; rw [List.length_drop]; omega
    constructor
    · unfold obL; rw [e8, e9]
    · rw [e8]; show (r7 l).2 + (r7 l).1 = _; omega

theorem ob_size {l : List Int} (hby : ∀ x ∈ l, 0 ≤ x ∧ x ≤ 255) {e i : List D3} (he : e.length ≤ 8) (hi : i.length ≤ 8) (hse : ∀ d ∈ e, d.len ≤ 80) (hsi : ∀ d ∈ i, d.len ≤ 80)
    {nm cd : List Int} (hn : nm.length ≤ 40) (hc : cd.length ≤ 9000) (dt : Int) : osz ⟨nm, e, i, dt, cd⟩ ≤ 1048576 := by
  have hsum : ∀ (ds : List D3), (∀ d ∈ ds, d.len ≤ 80) → dsum ds ≤ ds.length * 80 := by
    intro ds
    induction ds with
    | nil => intro _; simp [dsum]
    | cons d ds ih =>
      intro h
      have h1 := h d (by simp)
      have h2 := ih (fun x hx => h x (by simp [hx]))
      simp only [dsum, List.length_cons]
      omega
  have h1 := hsum e hse
  have h2 := hsum i hsi
  unfold osz
  simp only
  omega

theorem exN_len {l : List Int} (hby : ∀ x ∈ l, 0 ≤ x ∧ x ≤ 255) (t : Int) : (exN l t).1.len ≤ 80 := by
  have := getT_len l t hby
  simp only [exN, D3.len, Fd.len]; omega
theorem imN_len {l : List Int} (hby : ∀ x ∈ l, 0 ≤ x ∧ x ≤ 255) (t : Int) : (imN l t).1.len ≤ 80 := by
  have := getT_len l t hby
  have := getT_len l (getT l t).2 hby
  simp only [imN, D3.len, Fd.len]; omega
theorem r3_len {l : List Int} (hby : ∀ x ∈ l, 0 ≤ x ∧ x ≤ 255) : (r3 l).1.length ≤ 8 := by
  unfold r3; rw [rep_len]; have := cnt_num hby (m := 8) (by decide) (r1 l).2; unfold r2; omega
theorem r5_len {l : List Int} (hby : ∀ x ∈ l, 0 ≤ x ∧ x ≤ 255) : (r5 l).1.length ≤ 8 := by
  unfold r5; rw [rep_len]; have := cnt_num hby (m := 8) (by decide) (r3 l).2; unfold r4; omega
theorem r8_len {l : List Int} (hby : ∀ x ∈ l, 0 ≤ x ∧ x ≤ 255) : (r8 l).1.length ≤ 9000 := by
  have := cnt_num hby (m := 9000) (by decide) (r6 l).2
  unfold r8 byL
  split
  · simp
  · simp only [List.length_take]; unfold r7; omega
theorem obL_size {l : List Int} (hby : ∀ x ∈ l, 0 ≤ x ∧ x ≤ 255) : osz (obL l) ≤ 1048576 :=
  ob_size hby (r3_len hby) (r5_len hby) (rep_mem (exN_len hby) _ _) (rep_mem (imN_len hby) _ _) (getT_len l 2 hby) (r8_len hby) _
theorem obL_exs (l : List Int) : ∀ d ∈ (obL l).ex, isE d := rep_mem (exN_is l) _ _
theorem obL_ims (l : List Int) : ∀ d ∈ (obL l).im, isM d := rep_mem (imN_is l) _ _
theorem rdR_size {l : List Int} (hby : ∀ x ∈ l, 0 ≤ x ∧ x ≤ 255) : osz (rdR l) ≤ 1048576 := by
  unfold rdR; split
  · exact obL_size hby
  · decide
theorem rdR_exs (l : List Int) : ∀ d ∈ (rdR l).ex, isE d := by
  unfold rdR; split
  · exact obL_exs l
  · intro d hd; simp [ob0] at hd
theorem rdR_ims (l : List Int) : ∀ d ∈ (rdR l).im, isM d := by
  unfold rdR; split
  · exact obL_ims l
  · intro d hd; simp [ob0] at hd
end Go.Proofs.Ythfknedokkccaaa

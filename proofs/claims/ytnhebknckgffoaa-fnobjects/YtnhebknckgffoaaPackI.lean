import Derived.Test.YtnhebknckgffoaaPackF
import Derived.Test.YtnhebknckgffoaaObjPure
import Derived.Test.YtnhebknckgffoaaPackA
import Derived.Deep.Cut
/- What is read of an object's bytes, as data. No function is walked here. -/
namespace Go.Proofs.Ytnhebknckgffoaa
open Go.RowKit
set_option linter.unusedVariables false

def cnt (l : List Int) (most t : Int) : Int × Int := if most < (getL l t).1 then (0, -1) else getL l t

theorem getL_neg {l : List Int} {t : Int} (h : t < 0) : getL l t = (0, -1) := by unfold getL; rw [if_pos (.inl h)]
theorem getT_neg {l : List Int} {t : Int} (h : t < 0) : getT l t = ([], -1) := by unfold getT; rw [getL_neg h]; rw [if_pos (.inl (by decide))]
theorem cnt_neg {l : List Int} {m t : Int} (h : t < 0) (hm : 0 ≤ m) : cnt l m t = (0, -1) := by
  unfold cnt; rw [getL_neg h]; rw [if_neg (by show ¬ m < 0; omega)]

/-- A place that may be. -/
def At (l : List Int) (t : Int) : Prop := t = -1 ∨ (0 < t ∧ t ≤ l.length)

theorem getL_at {l : List Int} (hby : ∀ x ∈ l, 0 ≤ x ∧ x ≤ 255) (t : Int) : At l (getL l t).2 := by
  rcases getL_ok l t hby with e | ⟨_, _, h1, h2⟩
  · left; rw [e]
  · exact .inr ⟨h1, h2⟩
theorem getL_num {l : List Int} (hby : ∀ x ∈ l, 0 ≤ x ∧ x ≤ 255) (t : Int) : 0 ≤ (getL l t).1 ∧ (getL l t).1 ≤ 2147483647 := by
  rcases getL_ok l t hby with e | ⟨h1, h2, _, _⟩
  · rw [e]; exact ⟨by decide, by decide⟩
  · exact ⟨h1, h2⟩
theorem cnt_at {l : List Int} (hby : ∀ x ∈ l, 0 ≤ x ∧ x ≤ 255) (m t : Int) : At l (cnt l m t).2 := by
  unfold cnt; split
  · exact .inl rfl
  · exact getL_at hby t
theorem cnt_num {l : List Int} (hby : ∀ x ∈ l, 0 ≤ x ∧ x ≤ 255) {m : Int} (hm : 0 ≤ m) (t : Int) : 0 ≤ (cnt l m t).1 ∧ (cnt l m t).1 ≤ m := by
  unfold cnt; split
  · exact ⟨by decide, hm⟩
  · exact ⟨(getL_num hby t).1, by omega⟩
theorem getT_at {l : List Int} (hby : ∀ x ∈ l, 0 ≤ x ∧ x ≤ 255) (t : Int) : At l (getT l t).2 := by
  have h1 := getL_num hby t
  have h2 := getL_at hby t
  unfold getT; split
  · exact .inl rfl
  · rename_i h
    right
    have h3 : ¬ (getL l t).2 < 0 := fun e => h (.inl e)
    have h4 : ¬ (l.length : Int) - (getL l t).2 < (getL l t).1 := fun e => h (.inr (.inr e))
    rcases h2 with e | ⟨h5, h6⟩
    · omega
    · show 0 < (getL l t).2 + (getL l t).1 ∧ (getL l t).2 + (getL l t).1 ≤ l.length
      omega
theorem cnt_pos {l : List Int} {m t : Int} (h : 0 ≤ (cnt l m t).2) : cnt l m t = getL l t ∧ 0 ≤ t := by
  have h1 : ¬ m < (getL l t).1 := by
    intro hm; unfold cnt at h; rw [if_pos hm] at h; revert h; show 0 ≤ (-1 : Int) → False; decide
  have e : cnt l m t = getL l t := by unfold cnt; rw [if_neg h1]
  refine ⟨e, ?_⟩
  rcases Int.lt_or_le t 0 with ht | ht
  · rw [e, getL_neg ht] at h; revert h; show 0 ≤ (-1 : Int) → 0 ≤ t; intro h; exact absurd h (by decide)
  · exact ht

def exN (l : List Int) (t : Int) : D3 × Int :=
  (⟨.b (getT l t).1, .n (getL l (getT l t).2).1, .n (getL l (getL l (getT l t).2).2).1⟩, (getL l (getL l (getT l t).2).2).2)
def imN (l : List Int) (t : Int) : D3 × Int :=
  (⟨.b (getT l t).1, .b (getT l (getT l t).2).1, .n (getL l (getT l (getT l t).2).2).1⟩, (getL l (getT l (getT l t).2).2).2)

theorem exN_neg {l : List Int} {t : Int} (h : t < 0) : (exN l t).2 < 0 := by
  show (getL l (getL l (getT l t).2).2).2 < 0
  rw [getT_neg h]
  rw [getL_neg (t := (([] : List Int), (-1 : Int)).2) (by decide)]
  rw [getL_neg (by decide)]
  decide
theorem imN_neg {l : List Int} {t : Int} (h : t < 0) : (imN l t).2 < 0 := by
  show (getL l (getT l (getT l t).2).2).2 < 0
  rw [getT_neg h]
  rw [getT_neg (t := (([] : List Int), (-1 : Int)).2) (by decide)]
  rw [getL_neg (by decide)]
  decide

/-- So many records, one behind the other. -/
def rep (f : Int → D3 × Int) : Nat → Int → List D3 × Int
  | 0, t => ([], t)
  | k + 1, t => ((rep f k t).1 ++ [(f (rep f k t).2).1], (f (rep f k t).2).2)

theorem rep_len (f : Int → D3 × Int) (k : Nat) (t : Int) : (rep f k t).1.length = k := by
  induction k with
  | zero => rfl
  | succ k ih => simp [rep, ih]
theorem rep_neg {f : Int → D3 × Int} (hf : ∀ t, t < 0 → (f t).2 < 0) {t : Int} {j k : Nat} (hjk : j ≤ k) (h : (rep f j t).2 < 0) : (rep f k t).2 < 0 := by
  induction k with
  | zero => obtain rfl : j = 0 := by omega
            exact h
  | succ k ih =>
    rcases Nat.lt_or_ge k j with hk | hk
    · obtain rfl : j = k + 1 := by omega
      exact h
    · exact hf _ (ih hk)
theorem rep_at {l : List Int} {f : Int → D3 × Int} (hf : ∀ t, At l (f t).2) {t : Int} (ht : At l t) (k : Nat) : At l (rep f k t).2 := by
  cases k with
  | zero => exact ht
  | succ k => exact hf _
theorem rep_mem {P : D3 → Prop} {f : Int → D3 × Int} (hf : ∀ t, P (f t).1) (k : Nat) (t : Int) : ∀ d ∈ (rep f k t).1, P d := by
  induction k with
  | zero => intro d hd; simp [rep] at hd
  | succ k ih =>
    intro d hd
    rcases List.mem_append.1 (show d ∈ (rep f k t).1 ++ [(f (rep f k t).2).1] from hd) with h | h
    · exact ih d h
    · simp at h; rw [h]; exact hf _
theorem exN_is (l : List Int) (t : Int) : isE (exN l t).1 := ⟨_, _, _, rfl⟩
theorem imN_is (l : List Int) (t : Int) : isM (imN l t).1 := ⟨_, _, _, rfl⟩
theorem exN_at {l : List Int} (hby : ∀ x ∈ l, 0 ≤ x ∧ x ≤ 255) (t : Int) : At l (exN l t).2 := getL_at hby _
theorem imN_at {l : List Int} (hby : ∀ x ∈ l, 0 ≤ x ∧ x ≤ 255) (t : Int) : At l (imN l t).2 := getL_at hby _

def r1 (l : List Int) : List Int × Int := getT l 2
def r2 (l : List Int) : Int × Int := cnt l 8 (r1 l).2
def r3 (l : List Int) : List D3 × Int := rep (exN l) (r2 l).1.toNat (r2 l).2
def r4 (l : List Int) : Int × Int := cnt l 8 (r3 l).2
def r5 (l : List Int) : List D3 × Int := rep (imN l) (r4 l).1.toNat (r4 l).2
def r6 (l : List Int) : Int × Int := getL l (r5 l).2
def r7 (l : List Int) : Int × Int := cnt l 9000 (r6 l).2
/-- So many bytes at place t. -/
def byL (l : List Int) (n t : Int) : List Int × Int :=
  if t < 0 ∨ (l.length : Int) - t < n then ([], -1) else ((l.drop t.toNat).take n.toNat, t + n)
def r8 (l : List Int) : List Int × Int := byL l (r7 l).1 (r7 l).2
def obL (l : List Int) : Ob := ⟨(r1 l).1, (r3 l).1, (r5 l).1, (r6 l).1, (r8 l).1⟩
def startsL (l : List Int) : Bool := decide (l.take 2 = [66, 72])
def rdOk (l : List Int) : Bool := startsL l && (decide ((r8 l).2 = l.length) && objOk (obL l))
def ob0 : Ob := ⟨[], [], [], 0, []⟩
def rdR (l : List Int) : Ob := if rdOk l = true then obL l else ob0

theorem rd_noStart {l : List Int} (h : startsL l = false) : rdOk l = false := by unfold rdOk; rw [h]; rfl
theorem rd_noEnd {l : List Int} (h : (r8 l).2 ≠ l.length) : rdOk l = false := by unfold rdOk; rw [decide_eq_false h]; simp
theorem rd_end {l : List Int} (hs : startsL l = true) (h : (r8 l).2 = l.length) : rdOk l = objOk (obL l) := by unfold rdOk; rw [hs, decide_eq_true h]; simp
theorem rdR_no {l : List Int} (h : rdOk l = false) : rdR l = ob0 := by unfold rdR; rw [h]; rfl
theorem rdR_yes {l : List Int} (h : rdOk l = true) : rdR l = obL l := by unfold rdR; rw [h]; rfl

theorem byL_pos {l : List Int} {n t : Int} (h : 0 ≤ (byL l n t).2) : 0 ≤ t ∧ n ≤ l.length - t ∧ (byL l n t).2 = t + n := by
  by_cases hc : t < 0 ∨ (l.length : Int) - t < n
  · unfold byL at h; rw [if_pos hc] at h
    exact absurd (show (0 : Int) ≤ -1 from h) (by decide)
  · have h1 : ¬ t < 0 := fun e => hc (.inl e)
    have h2 : ¬ (l.length : Int) - t < n := fun e => hc (.inr e)
    refine ⟨by omega, by omega, ?_⟩
    unfold byL; rw [if_neg hc]

theorem objOk_data {b : Ob} (h : objOk b = true) : b.data ≤ 200 := by
  unfold objOk inB at h
  simp only [Bool.and_eq_true, decide_eq_true_eq] at h
  omega

/-- What another reader, one that leaves a list at what is wrong, finds at the end: the same. -/
theorem rd_other {l : List Int} (hby : ∀ x ∈ l, 0 ≤ x ∧ x ≤ 255) {e i : List D3} {t3 t5 : Int}
    (h3 : (t3 < 0 ∧ (r3 l).2 < 0) ∨ (e, t3) = r3 l)
    (h5 : (t5 < 0 ∧ (rep (imN l) (cnt l 8 t3).1.toNat (cnt l 8 t3).2).2 < 0) ∨ (i, t5) = rep (imN l) (cnt l 8 t3).1.toNat (cnt l 8 t3).2) :
    (((cnt l 9000 (cnt l 200 t5).2).2 < 0 ∨ (cnt l 9000 (cnt l 200 t5).2).1 ≠ l.length - (cnt l 9000 (cnt l 200 t5).2).2) → rdOk l = false) ∧
    (0 ≤ (cnt l 9000 (cnt l 200 t5).2).2 → (cnt l 9000 (cnt l 200 t5).2).1 = l.length - (cnt l 9000 (cnt l 200 t5).2).2 →
      obL l = ⟨(r1 l).1, e, i, (cnt l 200 t5).1, l.drop (cnt l 9000 (cnt l 200 t5).2).2.toNat⟩ ∧ (r8 l).2 = l.length) := by
  constructor
  · intro hno
    cases hr : rdOk l with
    | false => rfl
    | true =>
      exfalso
      have hr' := hr
      unfold rdOk at hr'
      simp only [Bool.and_eq_true, decide_eq_true_eq] at hr'
      obtain ⟨_, h8, hob⟩ := hr'
      have hd := objOk_data hob
      have h8' := byL_pos (l := l) (n := (r7 l).1) (t := (r7 l).2) (by show 0 ≤ (r8 l).2; omega)
      have h7 := cnt_pos (l := l) (m := 9000) (t := (r6 l).2) h8'.1
      have h6 : 0 ≤ (r5 l).2 := by
        rcases Int.lt_or_le (r5 l).2 0 with ht | ht
        · have := h7.2; unfold r6 at this; rw [getL_neg ht] at this; exact absurd (show (0 : Int) ≤ -1 from this) (by decide)
        · exact ht
      have h4 : 0 ≤ (r4 l).2 := by
        rcases Int.lt_or_le (r4 l).2 0 with ht | ht
        · have := rep_neg (f := imN l) (fun t h => imN_neg h) (t := (r4 l).2) (Nat.zero_le (r4 l).1.toNat) ht
          unfold r5 at h6; omega
        · exact ht
      have h3' : 0 ≤ (r3 l).2 := (cnt_pos (l := l) (m := 8) h4).2
      have e3 : (e, t3) = r3 l := h3.resolve_left (by omega)
      have e3' : t3 = (r3 l).2 := by rw [← e3]
      subst e3'
      have e5 : (i, t5) = r5 l := h5.resolve_left (by have h6' := h6; unfold r5 r4 at h6'; omega)
      have e5' : t5 = (r5 l).2 := by rw [← e5]
      subst e5'
      have e6 : cnt l 200 (r5 l).2 = r6 l := by unfold cnt r6; rw [if_neg (by have : (getL l (r5 l).2).1 ≤ 200 := hd; omega)]
      rw [e6] at hno
      have e7 : cnt l 9000 (r6 l).2 = r7 l := rfl
      rw [e7] at hno
      have e8 : (r8 l).2 = (r7 l).2 + (r7 l).1 := h8'.2.2
      omega
  · intro hp he
    have h7 := cnt_pos hp
    have h6 := cnt_pos h7.2
    have h5' : (i, t5) = rep (imN l) (cnt l 8 t3).1.toNat (cnt l 8 t3).2 := h5.resolve_left (by have := h6.2; omega)
    have h4 : 0 ≤ (cnt l 8 t3).2 := by
      rcases Int.lt_or_le (cnt l 8 t3).2 0 with ht | ht
      · have := rep_neg (f := imN l) (fun t h => imN_neg h) (Nat.zero_le (cnt l 8 t3).1.toNat) ht
        rw [← h5'] at this
        have := h6.2
        omega
      · exact ht
    have e3 : (e, t3) = r3 l := h3.resolve_left (by have := (cnt_pos h4).2; omega)
    have e3' : t3 = (r3 l).2 := by rw [← e3]
    have e3'' : e = (r3 l).1 := by rw [← e3]
    subst e3' e3''
    have e5 : (i, t5) = r5 l := h5'
    have e5' : t5 = (r5 l).2 := by rw [← e5]
    have e5'' : i = (r5 l).1 := by rw [← e5]
    subst e5' e5''
    have e6 : cnt l 200 (r5 l).2 = r6 l := h6.1
    rw [e6] at hp he ⊢
    have e7 : cnt l 9000 (r6 l).2 = r7 l := rfl
    rw [e7] at hp he ⊢
    have e8 : r8 l = ((l.drop (r7 l).2.toNat).take (r7 l).1.toNat, (r7 l).2 + (r7 l).1) := by
      unfold r8 byL; rw [if_neg (by omega)]
    have e9 : (l.drop (r7 l).2.toNat).take (r7 l).1.toNat = l.drop (r7 l).2.toNat := by
      rw [List.take_of_length_le]; rw [List.length_drop]; omega
    constructor
    · unfold obL; rw [e8, e9]
    · rw [e8]; show (r7 l).2 + (r7 l).1 = _; omega

theorem ob_size {l : List Int} (hby : ∀ x ∈ l, 0 ≤ x ∧ x ≤ 255) {e i : List D3} (he : e.length ≤ 8) (hi : i.length ≤ 8) (hse : ∀ d ∈ e, d.len ≤ 80) (hsi : ∀ d ∈ i, d.len ≤ 80)
    {nm cd : List Int} (hn : nm.length ≤ 40) (hc : cd.length ≤ 9000) (dt : Int) : osz ⟨nm, e, i, dt, cd⟩ ≤ 1048576 := by
  have hsum : ∀ (ds : List D3), (∀ d ∈ ds, d.len ≤ 80) → dsum ds ≤ ds.length * 80 := by
    intro ds
    induction ds with
    | nil => intro _; simp [dsum]
    | cons d ds ih =>
      intro h
      have h1 := h d (by simp)
      have h2 := ih (fun x hx => h x (by simp [hx]))
      simp only [dsum, List.length_cons]
      omega
  have h1 := hsum e hse
  have h2 := hsum i hsi
  unfold osz
  simp only
  omega

theorem exN_len {l : List Int} (hby : ∀ x ∈ l, 0 ≤ x ∧ x ≤ 255) (t : Int) : (exN l t).1.len ≤ 80 := by
  have := getT_len l t hby
  simp only [exN, D3.len, Fd.len]; omega
theorem imN_len {l : List Int} (hby : ∀ x ∈ l, 0 ≤ x ∧ x ≤ 255) (t : Int) : (imN l t).1.len ≤ 80 := by
  have := getT_len l t hby
  have := getT_len l (getT l t).2 hby
  simp only [imN, D3.len, Fd.len]; omega
theorem r3_len {l : List Int} (hby : ∀ x ∈ l, 0 ≤ x ∧ x ≤ 255) : (r3 l).1.length ≤ 8 := by
  unfold r3; rw [rep_len]; have := cnt_num hby (m := 8) (by decide) (r1 l).2; unfold r2; omega
theorem r5_len {l : List Int} (hby : ∀ x ∈ l, 0 ≤ x ∧ x ≤ 255) : (r5 l).1.length ≤ 8 := by
  unfold r5; rw [rep_len]; have := cnt_num hby (m := 8) (by decide) (r3 l).2; unfold r4; omega
theorem r8_len {l : List Int} (hby : ∀ x ∈ l, 0 ≤ x ∧ x ≤ 255) : (r8 l).1.length ≤ 9000 := by
  have := cnt_num hby (m := 9000) (by decide) (r6 l).2
  unfold r8 byL
  split
  · simp
  · simp only [List.length_take]; unfold r7; omega
theorem obL_size {l : List Int} (hby : ∀ x ∈ l, 0 ≤ x ∧ x ≤ 255) : osz (obL l) ≤ 1048576 :=
  ob_size hby (r3_len hby) (r5_len hby) (rep_mem (exN_len hby) _ _) (rep_mem (imN_len hby) _ _) (getT_len l 2 hby) (r8_len hby) _
theorem obL_exs (l : List Int) : ∀ d ∈ (obL l).ex, isE d := rep_mem (exN_is l) _ _
theorem obL_ims (l : List Int) : ∀ d ∈ (obL l).im, isM d := rep_mem (imN_is l) _ _
theorem rdR_size {l : List Int} (hby : ∀ x ∈ l, 0 ≤ x ∧ x ≤ 255) : osz (rdR l) ≤ 1048576 := by
  unfold rdR; split
  · exact obL_size hby
  · decide
theorem rdR_exs (l : List Int) : ∀ d ∈ (rdR l).ex, isE d := by
  unfold rdR; split
  · exact obL_exs l
  · intro d hd; simp [ob0] at hd
theorem rdR_ims (l : List Int) : ∀ d ∈ (rdR l).im, isM d := by
  unfold rdR; split
  · exact obL_ims l
  · intro d hd; simp [ob0] at hd
end Go.Proofs.Ytnhebknckgffoaa

/- The five functions that close over one place: each tells what stands there and moves it. -/
namespace Go.Proofs.Ytnhebknckgffoaa
open Go.RowKit
set_option linter.unusedVariables false
set_option linter.unusedSimpArgs false
set_option maxRecDepth 100000

def pt (b : Nat) : Value := .pointer (some ⟨b, 0, none⟩)
def fNum (pb pa : Nat) : Value := .func (Fn.func 43) #[] #[.pointer (some ⟨pb, 0, none⟩), .pointer (some ⟨pa, 0, none⟩)]
def fText (pb pa : Nat) : Value := .func (Fn.func 45) #[] #[.pointer (some ⟨pb, 0, none⟩), .pointer (some ⟨pa, 0, none⟩)]
def fCount (ps pa : Nat) : Value := .func (Fn.func 47) #[] #[.pointer (some ⟨ps, 0, none⟩), .pointer (some ⟨pa, 0, none⟩)]
def fBytes (pa pb : Nat) : Value := .func (Fn.func 48) #[] #[.pointer (some ⟨pa, 0, none⟩), .pointer (some ⟨pb, 0, none⟩)]
def fEnded (pa pb : Nat) : Value := .func (Fn.func 49) #[] #[.pointer (some ⟨pa, 0, none⟩), .pointer (some ⟨pb, 0, none⟩)]

/-- A source: bytes, a place in them, and the functions over both. -/
structure Src (W w : World) (pb pa ps : Nat) (a : Option Addr) (n c : Nat) (l : List Int) (t : Int) : Prop where
  b : w.heap[pb]? = some (.cells #[.slice a n c] 22 (0, 0))
  p : w.heap[pa]? = some (.cells #[.int .i64 t] 3 (0, 0))
  s : ∃ y z u v, w.heap[ps]? = some (.cells #[fNum pb pa, y, z, u, v] 61 (0, 0))
  row : BRow W a n l
  bel : Below W.heap.size W w
  low : W.heap.size ≤ pa
  len : n ≤ 1048576
  cap : n ≤ c
  most : c ≤ maxLen
  nil : a = none → c = 0
  ok : At l t ∨ t = 2

theorem Src.rowW {W w : World} {pb pa ps : Nat} {a : Option Addr} {n c : Nat} {l : List Int} {t : Int} (h : Src W w pb pa ps a n c l t) : BRow w a n l := h.row.below h.bel
theorem Src.below {W w w' : World} {pb pa ps : Nat} {a : Option Addr} {n c : Nat} {l : List Int} {t : Int} (h : Src W w pb pa ps a n c l t) (hb : Below w.heap.size w w') : Src W w' pb pa ps a n c l t :=
  ⟨(hb.block pb (lt_of_block h.b)).trans h.b, (hb.block pa (lt_of_block h.p)).trans h.p, by obtain ⟨y, z, u, v, e⟩ := h.s; exact ⟨y, z, u, v, (hb.block ps (lt_of_block e)).trans e⟩, h.row, h.bel.trans (hb.mono h.bel.size), h.low, h.len, h.cap, h.most, h.nil, h.ok⟩
theorem Src.apart {W w : World} {pb pa ps : Nat} {a : Option Addr} {n c : Nat} {l : List Int} {t : Int} (h : Src W w pb pa ps a n c l t) : pb ≠ pa ∧ ps ≠ pa := by
  constructor
  · intro e; have h1 := h.b; rw [e, h.p] at h1; simp at h1
  · intro e; obtain ⟨y, z, u, v, h1⟩ := h.s; rw [e, h.p] at h1; simp at h1
theorem Src.put {W w : World} {pb pa ps : Nat} {a : Option Addr} {n c : Nat} {l : List Int} {t : Int} (h : Src W w pb pa ps a n c l t) (t' : Int) (ht : At l t') : Src W (w.setCell ⟨pa, 0, none⟩ (.int .i64 t')) pb pa ps a n c l t' :=
  ⟨(heap_setCell_other w ⟨pa, 0, none⟩ pb _ h.apart.1).trans h.b, one_setCell h.p, by obtain ⟨y, z, u, v, e⟩ := h.s; exact ⟨y, z, u, v, (heap_setCell_other w ⟨pa, 0, none⟩ ps _ h.apart.2).trans e⟩, h.row, h.bel.setCell h.low _, h.low, h.len, h.cap, h.most, h.nil, .inl ht⟩
theorem Src.upper {W w : World} {pb pa ps : Nat} {a : Option Addr} {n c : Nat} {l : List Int} {t : Int} (h : Src W w pb pa ps a n c l t) : -1 ≤ t ∧ t ≤ 1048578 := by
  have := h.len
  have := h.row.1
  rcases h.ok with (e | ⟨h1, h2⟩) | e <;> omega
theorem Below.keepO {w w' : World} (hb : Below w.heap.size w w') (os : List (Option Nat)) : KeepO os w w' := ⟨hb.os, hb.tape, hb.output, hb.size, fun g h1 _ => hb.block g h1⟩
theorem keep_set (w : World) (k i : Nat) (v : Value) : KeepO [some k] w (w.setCell ⟨k, i, none⟩ v) := KeepO.of (grown_set w k i v) (by simp)

set_option maxHeartbeats 2000000 in
theorem src_numM {W w : World} {pb pa ps : Nat} {a : Option Addr} {n c : Nat} {l : List Int} {t : Int} (h : Src W w pb pa ps a n c l t) :
    Calls Try.prog 43 #[.pointer (some ⟨pb, 0, none⟩), .pointer (some ⟨pa, 0, none⟩)] w fun e w' => e = .returned (.int .i64 (getL l t).1) ∧ Src W w' pb pa ps a n c l (getL l t).2 ∧ KeepO [some pa] w w' := by
  have k1 := cell_of_one h.b
  have k2 := cell_of_one h.p
  have hat := getL_at h.row.2.1 t
  have H1 := implGetM a n c l t w h.rowW (by have := h.len; omega) h.cap h.most
  have H : Hid (Src W w pb pa ps a n c l t) := h
  clear h
  generalize getL l t = g at *
  obtain ⟨x, y⟩ := g
  go_enter Try.func43, Try.ntmps43
  go_wp2_with fail
  refine H1.mono ?_
  rintro e w1 ⟨rfl, hb⟩
  have S1 : Hid (Src W w1 pb pa ps a n c l t) := H.out.below hb
  have k3 := free_of_one S1.out.p
  have k4 := cell_of_one S1.out.p
  clear k1 k2 H1
  go_wp2_with fail
  go_ret
  exact ⟨rfl, S1.out.put _ hat, (Below.keepO hb _).trans (keep_set _ _ _ _)⟩

set_option maxHeartbeats 2000000 in
theorem src_textM {W w : World} {pb pa ps : Nat} {a : Option Addr} {n c : Nat} {l : List Int} {t : Int} (h : Src W w pb pa ps a n c l t) :
    Calls Try.prog 45 #[.pointer (some ⟨pb, 0, none⟩), .pointer (some ⟨pa, 0, none⟩)] w fun e w' => ∃ a' n' c', e = .returned (.slice a' n' c') ∧ n' = (getT l t).1.length ∧ (Fd.b (getT l t).1).Has w' w.heap.size (.slice a' n' c') ∧ Src W w' pb pa ps a n c l (getT l t).2 ∧ KeepO [some pa] w w' := by
  have k1 := cell_of_one h.b
  have k2 := cell_of_one h.p
  have hat := getT_at h.row.2.1 t
  have hlt := lt_of_block h.p
  have H1 := implTextGetM a n c l t w h.rowW (by have := h.len; omega) h.cap h.most
  have H : Hid (Src W w pb pa ps a n c l t) := h
  clear h
  generalize getT l t = g at *
  obtain ⟨x, y⟩ := g
  go_enter Try.func45, Try.ntmps45
  go_wp2_with fail
  refine H1.mono ?_
  rintro e w1 ⟨a', n', c', rfl, hm⟩
  have S1 : Hid (Src W w1 pb pa ps a n c l t) := H.out.below hm.below
  have k3 := free_of_one S1.out.p
  have k4 := cell_of_one S1.out.p
  have HM : Hid (Made w w1 a' n' c' x) := hm
  clear k1 k2 H1 hm
  go_wp2_with fail
  go_ret
  have hm : Made w w1 a' n' c' x := HM.out
  have hn : n' = x.length := hm.row.1.symm
  subst hn
  refine ⟨_, _, _, rfl, rfl, ⟨_, _, rfl, hm.own.other ?_⟩, S1.out.put _ hat, (Below.keepO hm.below _).trans (keep_set _ _ _ _)⟩
  intro e
  have := (hm.block pa e).1
  omega

set_option maxHeartbeats 2000000 in
theorem src_countM {W w : World} {pb pa ps : Nat} {a : Option Addr} {n c : Nat} {l : List Int} {t : Int} (h : Src W w pb pa ps a n c l t) (m : Int) :
    Calls Try.prog 47 #[.int .i64 m, .pointer (some ⟨ps, 0, none⟩), .pointer (some ⟨pa, 0, none⟩)] w fun e w' => e = .returned (.int .i64 (cnt l m t).1) ∧ Src W w' pb pa ps a n c l (cnt l m t).2 ∧ KeepO [some pa] w w' := by
  obtain ⟨y, z, u, v, hs⟩ := h.s
  have k1 : w.cell? ⟨ps, 0, none⟩ = some (.func (Fn.func 43) #[] #[.pointer (some ⟨pb, 0, none⟩), .pointer (some ⟨pa, 0, none⟩)]) := by rw [cell_of_row w ps 0 _ _ (0, 0) hs]; rfl
  have hat := cnt_at h.row.2.1 m t
  have H1 := src_numM h
  have H : Hid (Src W w pb pa ps a n c l t) := h
  have HC : Hid (cnt l m t = if m < (getL l t).1 then (0, -1) else getL l t) := by show _ = _; rfl
  clear h hs
  generalize getL l t = g at *
  obtain ⟨xx, yy⟩ := g
  go_enter Try.func47, Try.ntmps47
  go_wp2_with fail
  refine H1.mono ?_
  rintro e w1 ⟨rfl, s1, K1⟩
  have k3 := free_of_one s1.p
  have k4 := cell_of_one s1.p
  have S1 : Hid (Src W w1 pb pa ps a n c l yy) := s1
  have KK : Hid (KeepO [some pa] w w1) := K1
  clear k1 H1 s1 K1
  by_cases hm : m < xx
  · have hc : Hid (cnt l m t = (0, -1)) := by show _ = _; have := HC.out; rwa [if_pos hm] at this
    go_wp2_with fail
    go_ret
    rw [hc.out] at hat ⊢
    exact ⟨rfl, S1.out.put _ hat, KK.out.trans (keep_set _ _ _ _)⟩
  · have hc : Hid (cnt l m t = (xx, yy)) := by show _ = _; have := HC.out; rwa [if_neg hm] at this
    go_wp2_with fail
    go_ret
    rw [hc.out] at hat ⊢
    exact ⟨rfl, S1.out, KK.out⟩

theorem ret_eqb (x y : Int) : Ending.returned (.bool (x == y)) = Ending.returned (.bool (decide (x = y))) := by
  by_cases h : x = y <;> simp [h]

set_option maxHeartbeats 2000000 in
theorem src_endedM {W w : World} {pb pa ps : Nat} {a : Option Addr} {n c : Nat} {l : List Int} {t : Int} (h : Src W w pb pa ps a n c l t) :
    Calls Try.prog 49 #[.pointer (some ⟨pa, 0, none⟩), .pointer (some ⟨pb, 0, none⟩)] w fun e w' => e = .returned (.bool (decide (t = (n : Int)))) ∧ w' = w := by
  have k1 := cell_of_one h.b
  have k2 := cell_of_one h.p
  clear h
  go_enter Try.func49, Try.ntmps49
  go_wp2_with fail
  go_ret
  exact ⟨ret_eqb _ _, rfl⟩

theorem byL_at {l : List Int} {sz t : Int} (ht : At l t) (h0 : 0 ≤ sz) : At l (byL l sz t).2 := by
  unfold byL; split
  · exact .inl rfl
  · rename_i h
    right
    have h1 : ¬ t < 0 := fun e => h (.inl e)
    have h2 : ¬ (l.length : Int) - t < sz := fun e => h (.inr e)
    rcases ht with e | ⟨h3, h4⟩
    · omega
    · show 0 < t + sz ∧ t + sz ≤ l.length
      omega

set_option maxHeartbeats 4000000 in
theorem src_bytesM {W w : World} {pb pa ps : Nat} {a : Option Addr} {n c : Nat} {l : List Int} {t : Int} (h : Src W w pb pa ps a n c l t) (ht : At l t) (sz : Nat) (hsz : sz ≤ 9000) :
    Calls Try.prog 48 #[.int .i64 sz, .pointer (some ⟨pa, 0, none⟩), .pointer (some ⟨pb, 0, none⟩)] w fun e w' => ∃ a' n' c', e = .returned (.slice a' n' c') ∧ n' = (byL l sz t).1.length ∧ (Fd.b (byL l sz t).1).Has w' w.heap.size (.slice a' n' c') ∧ Src W w' pb pa ps a n c l (byL l sz t).2 ∧ KeepO [some pa] w w' := by
  have k1 := cell_of_one h.b
  have k2 := cell_of_one h.p
  have k3 := free_of_one h.p
  have hat := byL_at (sz := (sz : Int)) ht (by omega)
  have hlt := lt_of_block h.p
  have hL := h.row.1
  have HB : Hid (byL l sz t = if t < 0 ∨ (l.length : Int) - t < (sz : Int) then ([], -1) else ((l.drop t.toNat).take sz, t + (sz : Int))) := by
    show _ = _; unfold byL; rw [Int.toNat_natCast]
  have hup := h.upper
  have hlen := h.len
  have hcap := h.cap
  have hmost := h.most
  unfold maxLen at hmost
  have H : Hid (Src W w pb pa ps a n c l t) := h
  clear h
  by_cases hneg : t < 0
  · have hc : byL l sz t = ([], -1) := by have := HB.out; rwa [if_pos (.inl hneg)] at this
    rw [hc] at hat ⊢
    clear hc HB ht
    go_enter Try.func48, Try.ntmps48
    go_wp2_with fail
    go_ret
    exact ⟨_, _, _, rfl, rfl, ⟨_, _, rfl, ⟨World.ownsRow_nil _ _ _ _, by simp⟩⟩, H.out.put _ hat, keep_set _ _ _ _⟩
  · by_cases hfar : (n : Int) - t < (sz : Int)
    · have hc : byL l sz t = ([], -1) := by have := HB.out; rwa [if_pos (.inr (by rw [hL]; exact hfar))] at this
      rw [hc] at hat ⊢
      clear hc HB ht
      go_enter Try.func48, Try.ntmps48
      go_wp2_with fail
      go_ret
      exact ⟨_, _, _, rfl, rfl, ⟨_, _, rfl, ⟨World.ownsRow_nil _ _ _ _, by simp⟩⟩, H.out.put _ hat, keep_set _ _ _ _⟩
    · obtain ⟨tn, rfl⟩ := Int.eq_ofNat_of_zero_le (show 0 ≤ t by omega)
      have hc : byL l sz tn = ((l.drop tn).take sz, (tn : Int) + sz) := by
        have := HB.out
        rwa [if_neg (by rw [hL]; intro e; rcases e with e | e <;> omega), Int.toNat_natCast] at this
      rw [hc] at hat ⊢
      have S1 : Hid (Src W (w.setCell ⟨pa, 0, none⟩ (.int .i64 ((tn : Int) + (sz : Int)))) pb pa ps a n c l ((tn : Int) + sz)) := H.out.put _ hat
      have hn0 : 0 < n := by
        rcases ht with e | ⟨h3, h4⟩
        · omega
        · omega
      obtain ⟨b, off, rfl, _⟩ := H.out.row.2.2 hn0
      have hlen2 : Hid (((l.drop tn).take sz).length = sz) := by show _ = _; simp [hL]; omega
      clear hc HB ht
      by_cases hcy : c = tn
      · have hx00 : sz = 0 := by omega
        subst hx00
        subst hcy
        have S2 : Hid (Src W (w.setCell ⟨pa, 0, none⟩ (.int .i64 (c : Int))) pb pa ps (some ⟨b, off, none⟩) n c l (c : Int)) := by
          have := S1.out
          simp only [Int.natCast_zero, Int.add_zero] at this
          exact this
        have k5 := cell_of_one S2.out.b
        have k6 := cell_of_one S2.out.p
        have H1 := fun a2 c2 => joinedV none 0 0 [] a2 0 c2 [] (w.setCell ⟨pa, 0, none⟩ (.int .i64 (c : Int))) (nil_row _) (BRow.empty _) (by omega) (by omega)
        go_enter Try.func48, Try.ntmps48
        go_wp2_with fail
        refine (H1 _ _).mono ?_
        rintro e w2 ⟨v2, rfl, ho2, hb2⟩
        have ho3 : Own w2 w.heap.size v2 0 [] := by simpa using ho2
        obtain ⟨a', c', hv, _⟩ := ho2.made hb2
        subst hv
        have hsz2 := hb2.size
        clear H1 ho2 k1 k2 k3 k5 k6
        go_wp2_with fail
        go_ret
        have e0 : (l.drop c).take 0 = [] := rfl
        rw [e0]
        refine ⟨_, _, _, rfl, rfl, ⟨a', c', rfl, ho3⟩, ?_, (keep_set _ _ _ _).trans (Below.keepO hb2 _)⟩
        · have := S2.out.below hb2
          simpa using this
      · have k5 := cell_of_one S1.out.b
        have k6 := cell_of_one S1.out.p
        have hrE := S1.out.rowW.part (lo := tn) (m := sz) (by omega)
        have H1 := fun c2 => joinedV none 0 0 [] (some ⟨b, off + tn, none⟩) sz c2 ((l.drop tn).take sz) (w.setCell ⟨pa, 0, none⟩ (.int .i64 ((tn : Int) + (sz : Int)))) (nil_row _) hrE (by omega) (by omega)
        clear hrE
        go_enter Try.func48, Try.ntmps48
        go_wp2_with fail
        refine (H1 _).mono ?_
        rintro e w2 ⟨v2, rfl, ho2, hb2⟩
        have ho3 : Own w2 w.heap.size v2 sz ((l.drop tn).take sz) := by simpa using ho2
        obtain ⟨a', c', hv, _⟩ := ho2.made hb2
        subst hv
        have hsz2 := hb2.size
        clear H1 ho2 k1 k2 k3 k5 k6
        go_wp2_with fail
        go_ret
        rw [Nat.zero_add] at ho3
        refine ⟨_, _, _, rfl, hlen2.out.symm, ⟨a', c', ?_, ?_⟩, S1.out.below hb2, (keep_set _ _ _ _).trans (Below.keepO hb2 _)⟩
        · rw [hlen2.out]
        · rw [hlen2.out]; exact ho3
end Go.Proofs.Ytnhebknckgffoaa

/- One export, one import, as they stand at the place: by the functions that close over it. -/
namespace Go.Proofs.Ytnhebknckgffoaa
open Go.RowKit
set_option linter.unusedVariables false
set_option linter.unusedSimpArgs false
set_option maxRecDepth 100000

theorem KeepO.put {os : List (Option Nat)} {w w' : World} {k : Nat} (h : KeepO os w w') (hk : w.heap.size ≤ k) (i : Nat) (v : Value) : KeepO os w (w'.setCell ⟨k, i, none⟩ v) :=
  ⟨h.os, h.tape, h.output, by simpa using h.size, fun g h1 h2 => (heap_setCell_other w' ⟨k, i, none⟩ g v (by simp; omega)).trans (h.block g h1 h2)⟩
theorem Src.other {W w : World} {pb pa ps k : Nat} {a : Option Addr} {n c : Nat} {l : List Int} {t : Int} (h : Src W w pb pa ps a n c l t) (hk : pb < k ∧ pa < k ∧ ps < k ∧ W.heap.size ≤ k) (i : Nat) (v : Value) : Src W (w.setCell ⟨k, i, none⟩ v) pb pa ps a n c l t :=
  ⟨(heap_setCell_other w ⟨k, i, none⟩ pb _ (by simp; omega)).trans h.b, (heap_setCell_other w ⟨k, i, none⟩ pa _ (by simp; omega)).trans h.p, by obtain ⟨y, z, u, v', e⟩ := h.s; exact ⟨y, z, u, v', (heap_setCell_other w ⟨k, i, none⟩ ps _ (by simp; omega)).trans e⟩, h.row, h.bel.setCell hk.2.2.2 _, h.low, h.len, h.cap, h.most, h.nil, h.ok⟩
theorem pw1 (o : Option Nat) : [o, none, none].Pairwise (fun a b => a = none ∨ a ≠ b) := by cases o <;> simp
theorem pw2 {o q : Option Nat} (h : o = none ∨ o ≠ q) : [o, q, none].Pairwise (fun a b => a = none ∨ a ≠ b) := by cases o <;> cases q <;> simp_all
theorem B3.keep {w w' : World} {g : Nat} {t : TypeId} {x y z : Value} {os : List (Option Nat)} (h : B3 w g t x y z) (hk : KeepO os w w') (hn : some g ∉ os) : B3 w' g t x y z := (hk.block g h.lt hn).trans h

/-- Five cells of a block. -/
def B5s (w : World) (g : Nat) (t : TypeId) (o : O5) : Prop := B5 w g t o
theorem B5s.new (w : World) (t : TypeId) (o : O5) : B5s (w.alloc (.cells #[o.x, o.e, o.i, o.d, o.c] t (0, 0))) w.heap.size t o := B5.new w t o
theorem B5s.old {w : World} {g : Nat} {t : TypeId} {o : O5} {ob : Obj} (h : B5s w g t o) : B5s (w.alloc ob) g t o := B5.old h
theorem B5s.below {w w' : World} {g B : Nat} {t : TypeId} {o : O5} (h : B5s w g t o) (hb : Below B w w') (hg : g < B) : B5s w' g t o := B5.below h hb hg
theorem B5s.lt {w : World} {g : Nat} {t : TypeId} {o : O5} (h : B5s w g t o) : g < w.heap.size := B5.lt h
theorem B5s.keep {w w' : World} {g : Nat} {t : TypeId} {o : O5} {os : List (Option Nat)} (h : B5s w g t o) (hk : KeepO os w w') (hn : some g ∉ os) : B5s w' g t o := B5.keep h hk hn
theorem B5s.facts {w : World} {g : Nat} {t : TypeId} {o : O5} (h : B5s w g t o) :
    w.cell? ⟨g, 0, none⟩ = some o.x ∧ w.cell? ⟨g, 1, none⟩ = some o.e ∧ w.cell? ⟨g, 2, none⟩ = some o.i ∧ w.cell? ⟨g, 3, none⟩ = some o.d ∧ w.cell? ⟨g, 4, none⟩ = some o.c := B5.facts h

set_option maxHeartbeats 4000000 in
theorem exportM {W w : World} {pb pa ps : Nat} {a : Option Addr} {n c : Nat} {l : List Int} {t : Int} (h : Src W w pb pa ps a n c l t) (y2 y3 y4 : Value) :
    Calls Try.prog 51 #[.agg #[.func (Fn.func 43) #[] #[.pointer (some ⟨pb, 0, none⟩), .pointer (some ⟨pa, 0, none⟩)], .func (Fn.func 45) #[] #[.pointer (some ⟨pb, 0, none⟩), .pointer (some ⟨pa, 0, none⟩)], y2, y3, y4]] w fun e w' => ∃ r : R3, e = .returned (.agg #[r.x, r.y, r.z]) ∧ Hs w' w.heap.size r (exN l t).1 ∧ Bk w.heap.size w'.heap.size r.owns ∧ Src W w' pb pa ps a n c l (exN l t).2 ∧ KeepO [some pa] w w' := by
  have hpa := lt_of_block h.p
  have hbig0 : Hid (pb < w.heap.size ∧ pa < w.heap.size ∧ ps < w.heap.size ∧ W.heap.size ≤ w.heap.size) := ⟨lt_of_block h.b, lt_of_block h.p, (by obtain ⟨_, _, _, _, e⟩ := h.s; exact lt_of_block e), h.bel.size⟩
  have SF := B5s.new w 61 ⟨.func (Fn.func 43) #[] #[.pointer (some ⟨pb, 0, none⟩), .pointer (some ⟨pa, 0, none⟩)], .func (Fn.func 45) #[] #[.pointer (some ⟨pb, 0, none⟩), .pointer (some ⟨pa, 0, none⟩)], y2, y3, y4⟩
  have x0 := B3.new (w.alloc (.cells #[.func (Fn.func 43) #[] #[.pointer (some ⟨pb, 0, none⟩), .pointer (some ⟨pa, 0, none⟩)], .func (Fn.func 45) #[] #[.pointer (some ⟨pb, 0, none⟩), .pointer (some ⟨pa, 0, none⟩)], y2, y3, y4] 61 (0, 0))) 43 (.slice none 0 0) (.int .i64 0) (.int .i64 0)
  have SF2 := SF.old (ob := .cells #[.slice none 0 0, .int .i64 0, .int .i64 0] 43 (0, 0))
  have y0 : Below w.heap.size w ((w.alloc (.cells #[.func (Fn.func 43) #[] #[.pointer (some ⟨pb, 0, none⟩), .pointer (some ⟨pa, 0, none⟩)], .func (Fn.func 45) #[] #[.pointer (some ⟨pb, 0, none⟩), .pointer (some ⟨pa, 0, none⟩)], y2, y3, y4] 61 (0, 0))).alloc (.cells #[.slice none 0 0, .int .i64 0, .int .i64 0] 43 (0, 0))) := ((Below.refl _ _).alloc (Nat.le_refl _) _).alloc (by simp) _
  have hsz : ((w.alloc (.cells #[.func (Fn.func 43) #[] #[.pointer (some ⟨pb, 0, none⟩), .pointer (some ⟨pa, 0, none⟩)], .func (Fn.func 45) #[] #[.pointer (some ⟨pb, 0, none⟩), .pointer (some ⟨pa, 0, none⟩)], y2, y3, y4] 61 (0, 0))).alloc (.cells #[.slice none 0 0, .int .i64 0, .int .i64 0] 43 (0, 0))).heap.size = w.heap.size + 2 := by simp
  have e1 : (w.alloc (.cells #[.func (Fn.func 43) #[] #[.pointer (some ⟨pb, 0, none⟩), .pointer (some ⟨pa, 0, none⟩)], .func (Fn.func 45) #[] #[.pointer (some ⟨pb, 0, none⟩), .pointer (some ⟨pa, 0, none⟩)], y2, y3, y4] 61 (0, 0))).heap.size = w.heap.size + 1 := by simp
  rw [e1] at x0
  have S0 : Hid (Src W ((w.alloc (.cells #[.func (Fn.func 43) #[] #[.pointer (some ⟨pb, 0, none⟩), .pointer (some ⟨pa, 0, none⟩)], .func (Fn.func 45) #[] #[.pointer (some ⟨pb, 0, none⟩), .pointer (some ⟨pa, 0, none⟩)], y2, y3, y4] 61 (0, 0))).alloc (.cells #[.slice none 0 0, .int .i64 0, .int .i64 0] 43 (0, 0))) pb pa ps a n c l t) := h.below y0
  clear SF e1 h
  go_enter Try.func51, Try.ntmps51
  go_upto_region 1 with fail
  generalize ((w.alloc (.cells #[.func (Fn.func 43) #[] #[.pointer (some ⟨pb, 0, none⟩), .pointer (some ⟨pa, 0, none⟩)], .func (Fn.func 45) #[] #[.pointer (some ⟨pb, 0, none⟩), .pointer (some ⟨pa, 0, none⟩)], y2, y3, y4] 61 (0, 0))).alloc (.cells #[.slice none 0 0, .int .i64 0, .int .i64 0] 43 (0, 0))) = w0 at *
  have hw0 : Hid (w0.heap.size = w.heap.size + 2) := hsz
  have K0 : Hid (KeepO [some pa] w w0) := Below.keepO y0 _
  have S1 : Hid (Src W w0.drew pb pa ps a n c l t) := S0.out.below (Below.refl _ _).drew
  have F1 : Hid (B5s w0.drew w.heap.size 61 ⟨.func (Fn.func 43) #[] #[.pointer (some ⟨pb, 0, none⟩), .pointer (some ⟨pa, 0, none⟩)], .func (Fn.func 45) #[] #[.pointer (some ⟨pb, 0, none⟩), .pointer (some ⟨pa, 0, none⟩)], y2, y3, y4⟩) := SF2.below (Below.refl w0.heap.size w0).drew SF2.lt
  have X1 : Hid (B3 w0.drew (w.heap.size + 1) 43 (.slice none 0 0) (.int .i64 0) (.int .i64 0)) := x0.below (Below.refl w0.heap.size w0).drew x0.lt
  have K1 : Hid (KeepO [some pa] w w0.drew) := K0.out.trans (Below.keepO (Below.refl _ _).drew _)
  have hwd : Hid (w0.drew.heap.size = w.heap.size + 2) := hsz
  have hp1 : w.heap.size ≠ pa := by omega
  have hp2 : w.heap.size + 1 ≠ pa := by omega
  clear x0 y0 hsz SF2 S0 K0 hw0
  generalize hgs : w.heap.size = gs at *
  have HGS : Hid (w.heap.size = gs) := hgs
  clear hgs
  have hbig : pb < gs + 1 ∧ pa < gs + 1 ∧ ps < gs + 1 ∧ W.heap.size ≤ gs + 1 := by have := hbig0.out; have := HGS.out; omega
  refine wp_region_held_drew (S := fun wx => wx.cell? ⟨gs, 0, none⟩ = some (.func (Fn.func 43) #[] #[.pointer (some ⟨pb, 0, none⟩), .pointer (some ⟨pa, 0, none⟩)]) ∧ wx.cell? ⟨gs, 1, none⟩ = some (.func (Fn.func 45) #[] #[.pointer (some ⟨pb, 0, none⟩), .pointer (some ⟨pa, 0, none⟩)])) (by kernel_rfl) ⟨F1.out.facts.1, F1.out.facts.2.1⟩ (fun hHeld => ?_)
  generalize w0.drew = wS at *
  clear w0
  refine wpAnyH_take (i := 0) (oi := ?o501) (v := ?v501) ?i501 (by kernel_rfl) (by kernel_rfl) (by kernel_rfl) ?q501 ?y501 (hHeld) ?r501
  case i501 => exact rfl
  case q501 => exact (fun _ _ _ h => h)
  case y501 =>
    refine Or.inl ⟨by rfl, ?_⟩
    intro w hSw
    (try dsimp only at hSw)
    go_simp
    first | done | rfl
  try simp only [Act.put, List.getElem_toArray, List.getElem_cons_zero, List.getElem_cons_succ, List.setIfInBounds_toArray, List.set_cons_zero, List.set_cons_succ]
  refine wpAnyH_take (i := 1) (oi := ?o502) (v := ?v502) ?i502 (by kernel_rfl) (by kernel_rfl) (by kernel_rfl) ?q502 ?y502 (hHeld) ?r502
  case i502 => exact rfl
  case q502 => exact (fun _ _ _ h => h)
  case y502 =>
    refine Or.inl ⟨by rfl, ?_⟩
    intro w hSw
    (try dsimp only at hSw)
    go_simp
    first | done | rfl
  try simp only [Act.put, List.getElem_toArray, List.getElem_cons_zero, List.getElem_cons_succ, List.setIfInBounds_toArray, List.set_cons_zero, List.set_cons_succ]
  refine wpAnyH_take (i := 3) (oi := ?o503) (v := ?v503) ?i503 (by kernel_rfl) (by kernel_rfl) (by kernel_rfl) ?q503 ?y503 (hHeld) ?r503
  case i503 => exact rfl
  case q503 => exact (fun _ _ _ h => h)
  case y503 =>
    refine Or.inl ⟨by rfl, ?_⟩
    intro w hSw
    (try dsimp only at hSw)
    go_simp
    first | done | rfl
  try simp only [Act.put, List.getElem_toArray, List.getElem_cons_zero, List.getElem_cons_succ, List.setIfInBounds_toArray, List.set_cons_zero, List.set_cons_succ]
  refine wpAnyH_take (i := 4) (oi := ?o504) (v := ?v504) ?i504 (by kernel_rfl) (by kernel_rfl) (by kernel_rfl) ?q504 ?y504 (hHeld) ?r504
  case i504 => exact rfl
  case q504 => exact (fun _ _ _ h => h)
  case y504 =>
    refine Or.inl ⟨by rfl, ?_⟩
    intro w hSw
    (try dsimp only at hSw)
    go_simp
    first | done | rfl
  try simp only [Act.put, List.getElem_toArray, List.getElem_cons_zero, List.getElem_cons_succ, List.setIfInBounds_toArray, List.set_cons_zero, List.set_cons_succ]
  refine wpAnyH_take (i := 6) (oi := ?o505) (v := ?v505) ?i505 (by kernel_rfl) (by kernel_rfl) (by kernel_rfl) ?q505 ?y505 (hHeld) ?r505
  case i505 => exact rfl
  case q505 => exact (fun _ _ _ h => h)
  case y505 =>
    refine Or.inl ⟨by rfl, ?_⟩
    intro w hSw
    (try dsimp only at hSw)
    go_simp
    first | done | rfl
  try simp only [Act.put, List.getElem_toArray, List.getElem_cons_zero, List.getElem_cons_succ, List.setIfInBounds_toArray, List.set_cons_zero, List.set_cons_succ]
  refine wpAnyH_take (i := 7) (oi := ?o506) (v := ?v506) ?i506 (by kernel_rfl) (by kernel_rfl) (by kernel_rfl) ?q506 ?y506 (hHeld) ?r506
  case i506 => exact rfl
  case q506 => exact (fun _ _ _ h => h)
  case y506 =>
    refine Or.inl ⟨by rfl, ?_⟩
    intro w hSw
    (try dsimp only at hSw)
    go_simp
    first | done | rfl
  try simp only [Act.put, List.getElem_toArray, List.getElem_cons_zero, List.getElem_cons_succ, List.setIfInBounds_toArray, List.set_cons_zero, List.set_cons_succ]
  refine wpAnyH_ready (rs := [2]) (by kernel_rfl) (by simp) ?_
  refine AllReadyH.cons (i := 2) (o := ?o507) ?i507 (fun K hK => ?_) AllReadyH.nil
  case i507 => exact rfl
  go_simp
  (with_reducible refine (src_textM S1.out).mono ?_)
  rintro e wa ⟨a0, n0, c0, rfl, en0, hh0, ss, kk⟩
  subst en0
  have S2 : Hid (Src W wa pb pa ps a n c l (getT l t).2) := ss
  have K2 : Hid (KeepO [some pa] w wa) := K1.out.trans kk
  have F2 : Hid (B5s wa gs 61 ⟨.func (Fn.func 43) #[] #[.pointer (some ⟨pb, 0, none⟩), .pointer (some ⟨pa, 0, none⟩)], .func (Fn.func 45) #[] #[.pointer (some ⟨pb, 0, none⟩), .pointer (some ⟨pa, 0, none⟩)], y2, y3, y4⟩) := F1.out.keep kk (by simpa using hp1)
  have X2 : Hid (B3 wa (gs + 1) 43 (.slice none 0 0) (.int .i64 0) (.int .i64 0)) := X1.out.keep kk (by simpa using hp2)
  obtain ⟨L0, hL0⟩ : ∃ L, L = wS.heap.size := ⟨_, rfl⟩
  have H00 : Hid ((Fd.b (getT l t).1).Has wa L0 (.slice a0 (getT l t).1.length c0)) := by rw [hL0]; exact hh0
  have B0 : Hid (∀ g, (Value.slice a0 (getT l t).1.length c0).ownBlock = some g → L0 ≤ g ∧ g < wa.heap.size ∧ gs + 2 ≤ g) := fun g hg => by have h1 := hh0.lt g hg; have := hL0; have := hwd.out; omega
  have G0 : Hid (gs + 2 ≤ L0) := by show gs + 2 ≤ L0; have := K1.out.size; have := hwd.out; have := hL0; omega
  have Z0 : Hid (gs + 2 ≤ wa.heap.size) := by show gs + 2 ≤ wa.heap.size; have := kk.size; have := hwd.out; omega
  have M00 : Hid (wa.heap.size ≤ wa.heap.size) := by show wa.heap.size ≤ wa.heap.size; omega
  clear ss kk hh0
  go_wp2_with fail
  refine hK.out _ _ (⟨F2.out.facts.1, F2.out.facts.2.1⟩) (fun hHeld => ?_)
  clear hK K
  try simp only [Act.put, List.getElem_toArray, List.getElem_cons_zero, List.getElem_cons_succ, List.setIfInBounds_toArray, List.set_cons_zero, List.set_cons_succ]
  refine wpAnyH_ready (rs := [5]) (by kernel_rfl) (by simp) ?_
  refine AllReadyH.cons (i := 5) (o := ?o508) ?i508 (fun K hK => ?_) AllReadyH.nil
  case i508 => exact rfl
  go_simp
  (with_reducible refine (src_numM S2.out).mono ?_)
  rintro e wb ⟨rfl, ss, kk⟩
  have S3 : Hid (Src W wb pb pa ps a n c l (getL l (getT l t).2).2) := ss
  have K3 : Hid (KeepO [some pa] w wb) := K2.out.trans kk
  have F3 : Hid (B5s wb gs 61 ⟨.func (Fn.func 43) #[] #[.pointer (some ⟨pb, 0, none⟩), .pointer (some ⟨pa, 0, none⟩)], .func (Fn.func 45) #[] #[.pointer (some ⟨pb, 0, none⟩), .pointer (some ⟨pa, 0, none⟩)], y2, y3, y4⟩) := F2.out.keep kk (by simpa using hp1)
  have X3 : Hid (B3 wb (gs + 1) 43 (.slice none 0 0) (.int .i64 0) (.int .i64 0)) := X2.out.keep kk (by simpa using hp2)
  have H01 : Hid ((Fd.b (getT l t).1).Has wb L0 (.slice a0 (getT l t).1.length c0)) := H00.out.keep kk (.inr (by intro e; simp at e; have := B0.out pa e; omega))
  have Z1 : Hid (gs + 2 ≤ wb.heap.size) := by show gs + 2 ≤ wb.heap.size; have := kk.size; have := hwd.out; have := Z0.out; omega
  have M01 : Hid (wa.heap.size ≤ wb.heap.size) := by show wa.heap.size ≤ wb.heap.size; have := kk.size; have := M00.out; omega
  clear ss kk
  go_wp2_with fail
  refine hK.out _ _ (⟨F3.out.facts.1, F3.out.facts.2.1⟩) (fun hHeld => ?_)
  clear hK K
  try simp only [Act.put, List.getElem_toArray, List.getElem_cons_zero, List.getElem_cons_succ, List.setIfInBounds_toArray, List.set_cons_zero, List.set_cons_succ]
  refine wpAnyH_ready (rs := [8]) (by kernel_rfl) (by simp) ?_
  refine AllReadyH.cons (i := 8) (o := ?o509) ?i509 (fun K hK => ?_) AllReadyH.nil
  case i509 => exact rfl
  go_simp
  (with_reducible refine (src_numM S3.out).mono ?_)
  rintro e wc ⟨rfl, ss, kk⟩
  have S4 : Hid (Src W wc pb pa ps a n c l (getL l (getL l (getT l t).2).2).2) := ss
  have K4 : Hid (KeepO [some pa] w wc) := K3.out.trans kk
  have F4 : Hid (B5s wc gs 61 ⟨.func (Fn.func 43) #[] #[.pointer (some ⟨pb, 0, none⟩), .pointer (some ⟨pa, 0, none⟩)], .func (Fn.func 45) #[] #[.pointer (some ⟨pb, 0, none⟩), .pointer (some ⟨pa, 0, none⟩)], y2, y3, y4⟩) := F3.out.keep kk (by simpa using hp1)
  have X4 : Hid (B3 wc (gs + 1) 43 (.slice none 0 0) (.int .i64 0) (.int .i64 0)) := X3.out.keep kk (by simpa using hp2)
  have H02 : Hid ((Fd.b (getT l t).1).Has wc L0 (.slice a0 (getT l t).1.length c0)) := H01.out.keep kk (.inr (by intro e; simp at e; have := B0.out pa e; omega))
  have Z2 : Hid (gs + 2 ≤ wc.heap.size) := by show gs + 2 ≤ wc.heap.size; have := kk.size; have := hwd.out; have := Z1.out; omega
  have M02 : Hid (wa.heap.size ≤ wc.heap.size) := by show wa.heap.size ≤ wc.heap.size; have := kk.size; have := M01.out; omega
  clear ss kk
  go_wp2_with fail
  refine hK.out _ _ (⟨F4.out.facts.1, F4.out.facts.2.1⟩) (fun hHeld => ?_)
  clear hK K
  try simp only [Act.put, List.getElem_toArray, List.getElem_cons_zero, List.getElem_cons_succ, List.setIfInBounds_toArray, List.set_cons_zero, List.set_cons_succ]
  refine wpAnyH_take (i := 9) (oi := ?o510) (v := ?v510) ?i510 (by kernel_rfl) (by kernel_rfl) (by kernel_rfl) ?q510 ?y510 (hHeld) ?r510
  case i510 => exact rfl
  case q510 => exact (fun _ _ _ h => h)
  case y510 =>
    refine Or.inl ⟨by rfl, ?_⟩
    intro w hSw
    (try dsimp only at hSw)
    go_simp
    first | done | rfl
  try simp only [Act.put, List.getElem_toArray, List.getElem_cons_zero, List.getElem_cons_succ, List.setIfInBounds_toArray, List.set_cons_zero, List.set_cons_succ]
  obtain ⟨q0, q1, q2, f0, f1, f2⟩ := X4.out.facts
  have X5 : Hid (B3 (((wc.setCell ⟨gs + 1, 0, none⟩ (.slice a0 (getT l t).1.length c0)).setCell ⟨gs + 1, 1, none⟩ (.int .i64 (getL l (getT l t).2).1)).setCell ⟨gs + 1, 2, none⟩ (.int .i64 (getL l (getL l (getT l t).2).2).1)) (gs + 1) 43 (.slice a0 (getT l t).1.length c0) (.int .i64 (getL l (getT l t).2).1) (.int .i64 (getL l (getL l (getT l t).2).2).1)) := ((X4.out.set0 _).set1 _).set2 _
  have hs5 : Hid ((((wc.setCell ⟨gs + 1, 0, none⟩ (.slice a0 (getT l t).1.length c0)).setCell ⟨gs + 1, 1, none⟩ (.int .i64 (getL l (getT l t).2).1)).setCell ⟨gs + 1, 2, none⟩ (.int .i64 (getL l (getL l (getT l t).2).2).1)).heap.size = wc.heap.size) := by show _ = _; simp
  have S5 : Hid (Src W (((wc.setCell ⟨gs + 1, 0, none⟩ (.slice a0 (getT l t).1.length c0)).setCell ⟨gs + 1, 1, none⟩ (.int .i64 (getL l (getT l t).2).1)).setCell ⟨gs + 1, 2, none⟩ (.int .i64 (getL l (getL l (getT l t).2).2).1)) pb pa ps a n c l (getL l (getL l (getT l t).2).2).2) := ((S4.out.other hbig _ _).other hbig _ _).other hbig _ _
  have K5 : Hid (KeepO [some pa] w (((wc.setCell ⟨gs + 1, 0, none⟩ (.slice a0 (getT l t).1.length c0)).setCell ⟨gs + 1, 1, none⟩ (.int .i64 (getL l (getT l t).2).1)).setCell ⟨gs + 1, 2, none⟩ (.int .i64 (getL l (getL l (getT l t).2).2).1))) := ((K4.out.put (by have := HGS.out; omega) _ _).put (by have := HGS.out; omega) _ _).put (by have := HGS.out; omega) _ _
  have F5 : Hid (B5s (((wc.setCell ⟨gs + 1, 0, none⟩ (.slice a0 (getT l t).1.length c0)).setCell ⟨gs + 1, 1, none⟩ (.int .i64 (getL l (getT l t).2).1)).setCell ⟨gs + 1, 2, none⟩ (.int .i64 (getL l (getL l (getT l t).2).2).1)) gs 61 ⟨.func (Fn.func 43) #[] #[.pointer (some ⟨pb, 0, none⟩), .pointer (some ⟨pa, 0, none⟩)], .func (Fn.func 45) #[] #[.pointer (some ⟨pb, 0, none⟩), .pointer (some ⟨pa, 0, none⟩)], y2, y3, y4⟩) := ((B5.other F4.out (by omega)).other (by omega)).other (by omega)
  have H05 : Hid ((Fd.b (getT l t).1).Has (((wc.setCell ⟨gs + 1, 0, none⟩ (.slice a0 (getT l t).1.length c0)).setCell ⟨gs + 1, 1, none⟩ (.int .i64 (getL l (getT l t).2).1)).setCell ⟨gs + 1, 2, none⟩ (.int .i64 (getL l (getL l (getT l t).2).2).1)) L0 (.slice a0 (getT l t).1.length c0)) := ((H02.out.other (by intro e; have := B0.out _ e; omega)).other (by intro e; have := B0.out _ e; omega)).other (by intro e; have := B0.out _ e; omega)
  refine wpAnyH_ready (rs := [10]) (by kernel_rfl) (by simp) ?_
  refine AllReadyH.cons (i := 10) (o := ?o511) ?i511 (fun K hK => ?_) AllReadyH.nil
  case i511 => exact rfl
  go_simp
  clear q0 q1 q2 f0 f1 f2 S4 K4 F4 X4
  generalize hW6 : (((wc.setCell ⟨gs + 1, 0, none⟩ (.slice a0 (getT l t).1.length c0)).setCell ⟨gs + 1, 1, none⟩ (.int .i64 (getL l (getT l t).2).1)).setCell ⟨gs + 1, 2, none⟩ (.int .i64 (getL l (getL l (getT l t).2).2).1)) = w6 at *
  clear hW6
  refine hK.out _ _ (⟨F5.out.facts.1, F5.out.facts.2.1⟩) (fun hHeld => ?_)
  clear hK K
  try simp only [Act.put, List.getElem_toArray, List.getElem_cons_zero, List.getElem_cons_succ, List.setIfInBounds_toArray, List.set_cons_zero, List.set_cons_succ]
  refine wpAnyH_done (by kernel_rfl) ?_ _
  go_wp2_with fail
  obtain ⟨d0, d1, d2, _, _, _⟩ := X5.out.facts
  refine bodyPost_ret (v := .agg #[(.slice a0 (getT l t).1.length c0), (.int .i64 (getL l (getT l t).2).1), (.int .i64 (getL l (getL l (getT l t).2).2).1)]) (by simp [results, Try.results51, go_sem, d0, d1, d2]) rfl ⟨⟨(.slice a0 (getT l t).1.length c0), (.int .i64 (getL l (getT l t).2).1), (.int .i64 (getL l (getL l (getT l t).2).2).1)⟩, rfl, ⟨?_, ?_, ?_⟩, ?_, S5.out, K5.out⟩
  · refine Fd.Has.mono (show (Fd.b _).Has _ _ _ from H05.out) ?_
    have := HGS.out; have := hwd.out; have := G0.out; omega
  · rfl
  · rfl
  · refine ⟨fun g hg => ?_, ?_⟩
    · simp only [R3.owns, List.mem_cons, List.not_mem_nil, or_false] at hg
      rcases hg with e | e | e
      · have := B0.out g e.symm; have := hs5.out; have := HGS.out; have := M02.out; omega
      · cases e
      · cases e
    · exact pw1 _

set_option maxHeartbeats 4000000 in
theorem importedM {W w : World} {pb pa ps : Nat} {a : Option Addr} {n c : Nat} {l : List Int} {t : Int} (h : Src W w pb pa ps a n c l t) (y2 y3 y4 : Value) :
    Calls Try.prog 53 #[.agg #[.func (Fn.func 43) #[] #[.pointer (some ⟨pb, 0, none⟩), .pointer (some ⟨pa, 0, none⟩)], .func (Fn.func 45) #[] #[.pointer (some ⟨pb, 0, none⟩), .pointer (some ⟨pa, 0, none⟩)], y2, y3, y4]] w fun e w' => ∃ r : R3, e = .returned (.agg #[r.x, r.y, r.z]) ∧ Hs w' w.heap.size r (imN l t).1 ∧ Bk w.heap.size w'.heap.size r.owns ∧ Src W w' pb pa ps a n c l (imN l t).2 ∧ KeepO [some pa] w w' := by
  have hpa := lt_of_block h.p
  have hbig0 : Hid (pb < w.heap.size ∧ pa < w.heap.size ∧ ps < w.heap.size ∧ W.heap.size ≤ w.heap.size) := ⟨lt_of_block h.b, lt_of_block h.p, (by obtain ⟨_, _, _, _, e⟩ := h.s; exact lt_of_block e), h.bel.size⟩
  have SF := B5s.new w 61 ⟨.func (Fn.func 43) #[] #[.pointer (some ⟨pb, 0, none⟩), .pointer (some ⟨pa, 0, none⟩)], .func (Fn.func 45) #[] #[.pointer (some ⟨pb, 0, none⟩), .pointer (some ⟨pa, 0, none⟩)], y2, y3, y4⟩
  have x0 := B3.new (w.alloc (.cells #[.func (Fn.func 43) #[] #[.pointer (some ⟨pb, 0, none⟩), .pointer (some ⟨pa, 0, none⟩)], .func (Fn.func 45) #[] #[.pointer (some ⟨pb, 0, none⟩), .pointer (some ⟨pa, 0, none⟩)], y2, y3, y4] 61 (0, 0))) 47 (.slice none 0 0) (.slice none 0 0) (.int .i64 0)
  have SF2 := SF.old (ob := .cells #[.slice none 0 0, .slice none 0 0, .int .i64 0] 47 (0, 0))
  have y0 : Below w.heap.size w ((w.alloc (.cells #[.func (Fn.func 43) #[] #[.pointer (some ⟨pb, 0, none⟩), .pointer (some ⟨pa, 0, none⟩)], .func (Fn.func 45) #[] #[.pointer (some ⟨pb, 0, none⟩), .pointer (some ⟨pa, 0, none⟩)], y2, y3, y4] 61 (0, 0))).alloc (.cells #[.slice none 0 0, .slice none 0 0, .int .i64 0] 47 (0, 0))) := ((Below.refl _ _).alloc (Nat.le_refl _) _).alloc (by simp) _
  have hsz : ((w.alloc (.cells #[.func (Fn.func 43) #[] #[.pointer (some ⟨pb, 0, none⟩), .pointer (some ⟨pa, 0, none⟩)], .func (Fn.func 45) #[] #[.pointer (some ⟨pb, 0, none⟩), .pointer (some ⟨pa, 0, none⟩)], y2, y3, y4] 61 (0, 0))).alloc (.cells #[.slice none 0 0, .slice none 0 0, .int .i64 0] 47 (0, 0))).heap.size = w.heap.size + 2 := by simp
  have e1 : (w.alloc (.cells #[.func (Fn.func 43) #[] #[.pointer (some ⟨pb, 0, none⟩), .pointer (some ⟨pa, 0, none⟩)], .func (Fn.func 45) #[] #[.pointer (some ⟨pb, 0, none⟩), .pointer (some ⟨pa, 0, none⟩)], y2, y3, y4] 61 (0, 0))).heap.size = w.heap.size + 1 := by simp
  rw [e1] at x0
  have S0 : Hid (Src W ((w.alloc (.cells #[.func (Fn.func 43) #[] #[.pointer (some ⟨pb, 0, none⟩), .pointer (some ⟨pa, 0, none⟩)], .func (Fn.func 45) #[] #[.pointer (some ⟨pb, 0, none⟩), .pointer (some ⟨pa, 0, none⟩)], y2, y3, y4] 61 (0, 0))).alloc (.cells #[.slice none 0 0, .slice none 0 0, .int .i64 0] 47 (0, 0))) pb pa ps a n c l t) := h.below y0
  clear SF e1 h
  go_enter Try.func53, Try.ntmps53
  go_upto_region 1 with fail
  generalize ((w.alloc (.cells #[.func (Fn.func 43) #[] #[.pointer (some ⟨pb, 0, none⟩), .pointer (some ⟨pa, 0, none⟩)], .func (Fn.func 45) #[] #[.pointer (some ⟨pb, 0, none⟩), .pointer (some ⟨pa, 0, none⟩)], y2, y3, y4] 61 (0, 0))).alloc (.cells #[.slice none 0 0, .slice none 0 0, .int .i64 0] 47 (0, 0))) = w0 at *
  have hw0 : Hid (w0.heap.size = w.heap.size + 2) := hsz
  have K0 : Hid (KeepO [some pa] w w0) := Below.keepO y0 _
  have S1 : Hid (Src W w0.drew pb pa ps a n c l t) := S0.out.below (Below.refl _ _).drew
  have F1 : Hid (B5s w0.drew w.heap.size 61 ⟨.func (Fn.func 43) #[] #[.pointer (some ⟨pb, 0, none⟩), .pointer (some ⟨pa, 0, none⟩)], .func (Fn.func 45) #[] #[.pointer (some ⟨pb, 0, none⟩), .pointer (some ⟨pa, 0, none⟩)], y2, y3, y4⟩) := SF2.below (Below.refl w0.heap.size w0).drew SF2.lt
  have X1 : Hid (B3 w0.drew (w.heap.size + 1) 47 (.slice none 0 0) (.slice none 0 0) (.int .i64 0)) := x0.below (Below.refl w0.heap.size w0).drew x0.lt
  have K1 : Hid (KeepO [some pa] w w0.drew) := K0.out.trans (Below.keepO (Below.refl _ _).drew _)
  have hwd : Hid (w0.drew.heap.size = w.heap.size + 2) := hsz
  have hp1 : w.heap.size ≠ pa := by omega
  have hp2 : w.heap.size + 1 ≠ pa := by omega
  clear x0 y0 hsz SF2 S0 K0 hw0
  generalize hgs : w.heap.size = gs at *
  have HGS : Hid (w.heap.size = gs) := hgs
  clear hgs
  have hbig : pb < gs + 1 ∧ pa < gs + 1 ∧ ps < gs + 1 ∧ W.heap.size ≤ gs + 1 := by have := hbig0.out; have := HGS.out; omega
  refine wp_region_held_drew (S := fun wx => wx.cell? ⟨gs, 0, none⟩ = some (.func (Fn.func 43) #[] #[.pointer (some ⟨pb, 0, none⟩), .pointer (some ⟨pa, 0, none⟩)]) ∧ wx.cell? ⟨gs, 1, none⟩ = some (.func (Fn.func 45) #[] #[.pointer (some ⟨pb, 0, none⟩), .pointer (some ⟨pa, 0, none⟩)])) (by kernel_rfl) ⟨F1.out.facts.1, F1.out.facts.2.1⟩ (fun hHeld => ?_)
  generalize w0.drew = wS at *
  clear w0
  refine wpAnyH_take (i := 0) (oi := ?o512) (v := ?v512) ?i512 (by kernel_rfl) (by kernel_rfl) (by kernel_rfl) ?q512 ?y512 (hHeld) ?r512
  case i512 => exact rfl
  case q512 => exact (fun _ _ _ h => h)
  case y512 =>
    refine Or.inl ⟨by rfl, ?_⟩
    intro w hSw
    (try dsimp only at hSw)
    go_simp
    first | done | rfl
  try simp only [Act.put, List.getElem_toArray, List.getElem_cons_zero, List.getElem_cons_succ, List.setIfInBounds_toArray, List.set_cons_zero, List.set_cons_succ]
  refine wpAnyH_take (i := 1) (oi := ?o513) (v := ?v513) ?i513 (by kernel_rfl) (by kernel_rfl) (by kernel_rfl) ?q513 ?y513 (hHeld) ?r513
  case i513 => exact rfl
  case q513 => exact (fun _ _ _ h => h)
  case y513 =>
    refine Or.inl ⟨by rfl, ?_⟩
    intro w hSw
    (try dsimp only at hSw)
    go_simp
    first | done | rfl
  try simp only [Act.put, List.getElem_toArray, List.getElem_cons_zero, List.getElem_cons_succ, List.setIfInBounds_toArray, List.set_cons_zero, List.set_cons_succ]
  refine wpAnyH_take (i := 3) (oi := ?o514) (v := ?v514) ?i514 (by kernel_rfl) (by kernel_rfl) (by kernel_rfl) ?q514 ?y514 (hHeld) ?r514
  case i514 => exact rfl
  case q514 => exact (fun _ _ _ h => h)
  case y514 =>
    refine Or.inl ⟨by rfl, ?_⟩
    intro w hSw
    (try dsimp only at hSw)
    go_simp
    first | done | rfl
  try simp only [Act.put, List.getElem_toArray, List.getElem_cons_zero, List.getElem_cons_succ, List.setIfInBounds_toArray, List.set_cons_zero, List.set_cons_succ]
  refine wpAnyH_take (i := 4) (oi := ?o515) (v := ?v515) ?i515 (by kernel_rfl) (by kernel_rfl) (by kernel_rfl) ?q515 ?y515 (hHeld) ?r515
  case i515 => exact rfl
  case q515 => exact (fun _ _ _ h => h)
  case y515 =>
    refine Or.inl ⟨by rfl, ?_⟩
    intro w hSw
    (try dsimp only at hSw)
    go_simp
    first | done | rfl
  try simp only [Act.put, List.getElem_toArray, List.getElem_cons_zero, List.getElem_cons_succ, List.setIfInBounds_toArray, List.set_cons_zero, List.set_cons_succ]
  refine wpAnyH_take (i := 6) (oi := ?o516) (v := ?v516) ?i516 (by kernel_rfl) (by kernel_rfl) (by kernel_rfl) ?q516 ?y516 (hHeld) ?r516
  case i516 => exact rfl
  case q516 => exact (fun _ _ _ h => h)
  case y516 =>
    refine Or.inl ⟨by rfl, ?_⟩
    intro w hSw
    (try dsimp only at hSw)
    go_simp
    first | done | rfl
  try simp only [Act.put, List.getElem_toArray, List.getElem_cons_zero, List.getElem_cons_succ, List.setIfInBounds_toArray, List.set_cons_zero, List.set_cons_succ]
  refine wpAnyH_take (i := 7) (oi := ?o517) (v := ?v517) ?i517 (by kernel_rfl) (by kernel_rfl) (by kernel_rfl) ?q517 ?y517 (hHeld) ?r517
  case i517 => exact rfl
  case q517 => exact (fun _ _ _ h => h)
  case y517 =>
    refine Or.inl ⟨by rfl, ?_⟩
    intro w hSw
    (try dsimp only at hSw)
    go_simp
    first | done | rfl
  try simp only [Act.put, List.getElem_toArray, List.getElem_cons_zero, List.getElem_cons_succ, List.setIfInBounds_toArray, List.set_cons_zero, List.set_cons_succ]
  refine wpAnyH_ready (rs := [2]) (by kernel_rfl) (by simp) ?_
  refine AllReadyH.cons (i := 2) (o := ?o518) ?i518 (fun K hK => ?_) AllReadyH.nil
  case i518 => exact rfl
  go_simp
  (with_reducible refine (src_textM S1.out).mono ?_)
  rintro e wa ⟨a0, n0, c0, rfl, en0, hh0, ss, kk⟩
  subst en0
  have S2 : Hid (Src W wa pb pa ps a n c l (getT l t).2) := ss
  have K2 : Hid (KeepO [some pa] w wa) := K1.out.trans kk
  have F2 : Hid (B5s wa gs 61 ⟨.func (Fn.func 43) #[] #[.pointer (some ⟨pb, 0, none⟩), .pointer (some ⟨pa, 0, none⟩)], .func (Fn.func 45) #[] #[.pointer (some ⟨pb, 0, none⟩), .pointer (some ⟨pa, 0, none⟩)], y2, y3, y4⟩) := F1.out.keep kk (by simpa using hp1)
  have X2 : Hid (B3 wa (gs + 1) 47 (.slice none 0 0) (.slice none 0 0) (.int .i64 0)) := X1.out.keep kk (by simpa using hp2)
  obtain ⟨L0, hL0⟩ : ∃ L, L = wS.heap.size := ⟨_, rfl⟩
  have H00 : Hid ((Fd.b (getT l t).1).Has wa L0 (.slice a0 (getT l t).1.length c0)) := by rw [hL0]; exact hh0
  have B0 : Hid (∀ g, (Value.slice a0 (getT l t).1.length c0).ownBlock = some g → L0 ≤ g ∧ g < wa.heap.size ∧ gs + 2 ≤ g) := fun g hg => by have h1 := hh0.lt g hg; have := hL0; have := hwd.out; omega
  have G0 : Hid (gs + 2 ≤ L0) := by show gs + 2 ≤ L0; have := K1.out.size; have := hwd.out; have := hL0; omega
  have Z0 : Hid (gs + 2 ≤ wa.heap.size) := by show gs + 2 ≤ wa.heap.size; have := kk.size; have := hwd.out; omega
  have M00 : Hid (wa.heap.size ≤ wa.heap.size) := by show wa.heap.size ≤ wa.heap.size; omega
  clear ss kk hh0
  go_wp2_with fail
  refine hK.out _ _ (⟨F2.out.facts.1, F2.out.facts.2.1⟩) (fun hHeld => ?_)
  clear hK K
  try simp only [Act.put, List.getElem_toArray, List.getElem_cons_zero, List.getElem_cons_succ, List.setIfInBounds_toArray, List.set_cons_zero, List.set_cons_succ]
  refine wpAnyH_ready (rs := [5]) (by kernel_rfl) (by simp) ?_
  refine AllReadyH.cons (i := 5) (o := ?o519) ?i519 (fun K hK => ?_) AllReadyH.nil
  case i519 => exact rfl
  go_simp
  (with_reducible refine (src_textM S2.out).mono ?_)
  rintro e wb ⟨a1, n1, c1, rfl, en1, hh1, ss, kk⟩
  subst en1
  have S3 : Hid (Src W wb pb pa ps a n c l (getT l (getT l t).2).2) := ss
  have K3 : Hid (KeepO [some pa] w wb) := K2.out.trans kk
  have F3 : Hid (B5s wb gs 61 ⟨.func (Fn.func 43) #[] #[.pointer (some ⟨pb, 0, none⟩), .pointer (some ⟨pa, 0, none⟩)], .func (Fn.func 45) #[] #[.pointer (some ⟨pb, 0, none⟩), .pointer (some ⟨pa, 0, none⟩)], y2, y3, y4⟩) := F2.out.keep kk (by simpa using hp1)
  have X3 : Hid (B3 wb (gs + 1) 47 (.slice none 0 0) (.slice none 0 0) (.int .i64 0)) := X2.out.keep kk (by simpa using hp2)
  have H01 : Hid ((Fd.b (getT l t).1).Has wb L0 (.slice a0 (getT l t).1.length c0)) := H00.out.keep kk (.inr (by intro e; simp at e; have := B0.out pa e; omega))
  obtain ⟨L1, hL1⟩ : ∃ L, L = wa.heap.size := ⟨_, rfl⟩
  have H11 : Hid ((Fd.b (getT l (getT l t).2).1).Has wb L1 (.slice a1 (getT l (getT l t).2).1.length c1)) := by rw [hL1]; exact hh1
  have B1 : Hid (∀ g, (Value.slice a1 (getT l (getT l t).2).1.length c1).ownBlock = some g → L1 ≤ g ∧ g < wb.heap.size ∧ gs + 2 ≤ g) := fun g hg => by have h1 := hh1.lt g hg; have := hL1; have := hwd.out; have := Z0.out; omega
  have G1 : Hid (gs + 2 ≤ L1 ∧ wa.heap.size ≤ L1) := by show gs + 2 ≤ L1 ∧ wa.heap.size ≤ L1; have := K2.out.size; have := hwd.out; have := hL1; have := Z0.out; omega
  have Z1 : Hid (gs + 2 ≤ wb.heap.size) := by show gs + 2 ≤ wb.heap.size; have := kk.size; have := hwd.out; have := Z0.out; omega
  have M01 : Hid (wa.heap.size ≤ wb.heap.size) := by show wa.heap.size ≤ wb.heap.size; have := kk.size; have := M00.out; omega
  have M11 : Hid (wb.heap.size ≤ wb.heap.size) := by show wb.heap.size ≤ wb.heap.size; omega
  clear ss kk hh1
  go_wp2_with fail
  refine hK.out _ _ (⟨F3.out.facts.1, F3.out.facts.2.1⟩) (fun hHeld => ?_)
  clear hK K
  try simp only [Act.put, List.getElem_toArray, List.getElem_cons_zero, List.getElem_cons_succ, List.setIfInBounds_toArray, List.set_cons_zero, List.set_cons_succ]
  refine wpAnyH_ready (rs := [8]) (by kernel_rfl) (by simp) ?_
  refine AllReadyH.cons (i := 8) (o := ?o520) ?i520 (fun K hK => ?_) AllReadyH.nil
  case i520 => exact rfl
  go_simp
  (with_reducible refine (src_numM S3.out).mono ?_)
  rintro e wc ⟨rfl, ss, kk⟩
  have S4 : Hid (Src W wc pb pa ps a n c l (getL l (getT l (getT l t).2).2).2) := ss
  have K4 : Hid (KeepO [some pa] w wc) := K3.out.trans kk
  have F4 : Hid (B5s wc gs 61 ⟨.func (Fn.func 43) #[] #[.pointer (some ⟨pb, 0, none⟩), .pointer (some ⟨pa, 0, none⟩)], .func (Fn.func 45) #[] #[.pointer (some ⟨pb, 0, none⟩), .pointer (some ⟨pa, 0, none⟩)], y2, y3, y4⟩) := F3.out.keep kk (by simpa using hp1)
  have X4 : Hid (B3 wc (gs + 1) 47 (.slice none 0 0) (.slice none 0 0) (.int .i64 0)) := X3.out.keep kk (by simpa using hp2)
  have H02 : Hid ((Fd.b (getT l t).1).Has wc L0 (.slice a0 (getT l t).1.length c0)) := H01.out.keep kk (.inr (by intro e; simp at e; have := B0.out pa e; omega))
  have H12 : Hid ((Fd.b (getT l (getT l t).2).1).Has wc L1 (.slice a1 (getT l (getT l t).2).1.length c1)) := H11.out.keep kk (.inr (by intro e; simp at e; have := B1.out pa e; omega))
  have Z2 : Hid (gs + 2 ≤ wc.heap.size) := by show gs + 2 ≤ wc.heap.size; have := kk.size; have := hwd.out; have := Z1.out; omega
  have M02 : Hid (wa.heap.size ≤ wc.heap.size) := by show wa.heap.size ≤ wc.heap.size; have := kk.size; have := M01.out; omega
  have M12 : Hid (wb.heap.size ≤ wc.heap.size) := by show wb.heap.size ≤ wc.heap.size; have := kk.size; have := M11.out; omega
  clear ss kk
  go_wp2_with fail
  refine hK.out _ _ (⟨F4.out.facts.1, F4.out.facts.2.1⟩) (fun hHeld => ?_)
  clear hK K
  try simp only [Act.put, List.getElem_toArray, List.getElem_cons_zero, List.getElem_cons_succ, List.setIfInBounds_toArray, List.set_cons_zero, List.set_cons_succ]
  refine wpAnyH_take (i := 9) (oi := ?o521) (v := ?v521) ?i521 (by kernel_rfl) (by kernel_rfl) (by kernel_rfl) ?q521 ?y521 (hHeld) ?r521
  case i521 => exact rfl
  case q521 => exact (fun _ _ _ h => h)
  case y521 =>
    refine Or.inl ⟨by rfl, ?_⟩
    intro w hSw
    (try dsimp only at hSw)
    go_simp
    first | done | rfl
  try simp only [Act.put, List.getElem_toArray, List.getElem_cons_zero, List.getElem_cons_succ, List.setIfInBounds_toArray, List.set_cons_zero, List.set_cons_succ]
  obtain ⟨q0, q1, q2, f0, f1, f2⟩ := X4.out.facts
  have X5 : Hid (B3 (((wc.setCell ⟨gs + 1, 0, none⟩ (.slice a0 (getT l t).1.length c0)).setCell ⟨gs + 1, 1, none⟩ (.slice a1 (getT l (getT l t).2).1.length c1)).setCell ⟨gs + 1, 2, none⟩ (.int .i64 (getL l (getT l (getT l t).2).2).1)) (gs + 1) 47 (.slice a0 (getT l t).1.length c0) (.slice a1 (getT l (getT l t).2).1.length c1) (.int .i64 (getL l (getT l (getT l t).2).2).1)) := ((X4.out.set0 _).set1 _).set2 _
  have hs5 : Hid ((((wc.setCell ⟨gs + 1, 0, none⟩ (.slice a0 (getT l t).1.length c0)).setCell ⟨gs + 1, 1, none⟩ (.slice a1 (getT l (getT l t).2).1.length c1)).setCell ⟨gs + 1, 2, none⟩ (.int .i64 (getL l (getT l (getT l t).2).2).1)).heap.size = wc.heap.size) := by show _ = _; simp
  have S5 : Hid (Src W (((wc.setCell ⟨gs + 1, 0, none⟩ (.slice a0 (getT l t).1.length c0)).setCell ⟨gs + 1, 1, none⟩ (.slice a1 (getT l (getT l t).2).1.length c1)).setCell ⟨gs + 1, 2, none⟩ (.int .i64 (getL l (getT l (getT l t).2).2).1)) pb pa ps a n c l (getL l (getT l (getT l t).2).2).2) := ((S4.out.other hbig _ _).other hbig _ _).other hbig _ _
  have K5 : Hid (KeepO [some pa] w (((wc.setCell ⟨gs + 1, 0, none⟩ (.slice a0 (getT l t).1.length c0)).setCell ⟨gs + 1, 1, none⟩ (.slice a1 (getT l (getT l t).2).1.length c1)).setCell ⟨gs + 1, 2, none⟩ (.int .i64 (getL l (getT l (getT l t).2).2).1))) := ((K4.out.put (by have := HGS.out; omega) _ _).put (by have := HGS.out; omega) _ _).put (by have := HGS.out; omega) _ _
  have F5 : Hid (B5s (((wc.setCell ⟨gs + 1, 0, none⟩ (.slice a0 (getT l t).1.length c0)).setCell ⟨gs + 1, 1, none⟩ (.slice a1 (getT l (getT l t).2).1.length c1)).setCell ⟨gs + 1, 2, none⟩ (.int .i64 (getL l (getT l (getT l t).2).2).1)) gs 61 ⟨.func (Fn.func 43) #[] #[.pointer (some ⟨pb, 0, none⟩), .pointer (some ⟨pa, 0, none⟩)], .func (Fn.func 45) #[] #[.pointer (some ⟨pb, 0, none⟩), .pointer (some ⟨pa, 0, none⟩)], y2, y3, y4⟩) := ((B5.other F4.out (by omega)).other (by omega)).other (by omega)
  have H05 : Hid ((Fd.b (getT l t).1).Has (((wc.setCell ⟨gs + 1, 0, none⟩ (.slice a0 (getT l t).1.length c0)).setCell ⟨gs + 1, 1, none⟩ (.slice a1 (getT l (getT l t).2).1.length c1)).setCell ⟨gs + 1, 2, none⟩ (.int .i64 (getL l (getT l (getT l t).2).2).1)) L0 (.slice a0 (getT l t).1.length c0)) := ((H02.out.other (by intro e; have := B0.out _ e; omega)).other (by intro e; have := B0.out _ e; omega)).other (by intro e; have := B0.out _ e; omega)
  have H15 : Hid ((Fd.b (getT l (getT l t).2).1).Has (((wc.setCell ⟨gs + 1, 0, none⟩ (.slice a0 (getT l t).1.length c0)).setCell ⟨gs + 1, 1, none⟩ (.slice a1 (getT l (getT l t).2).1.length c1)).setCell ⟨gs + 1, 2, none⟩ (.int .i64 (getL l (getT l (getT l t).2).2).1)) L1 (.slice a1 (getT l (getT l t).2).1.length c1)) := ((H12.out.other (by intro e; have := B1.out _ e; omega)).other (by intro e; have := B1.out _ e; omega)).other (by intro e; have := B1.out _ e; omega)
  refine wpAnyH_ready (rs := [10]) (by kernel_rfl) (by simp) ?_
  refine AllReadyH.cons (i := 10) (o := ?o522) ?i522 (fun K hK => ?_) AllReadyH.nil
  case i522 => exact rfl
  go_simp
  clear q0 q1 q2 f0 f1 f2 S4 K4 F4 X4
  generalize hW6 : (((wc.setCell ⟨gs + 1, 0, none⟩ (.slice a0 (getT l t).1.length c0)).setCell ⟨gs + 1, 1, none⟩ (.slice a1 (getT l (getT l t).2).1.length c1)).setCell ⟨gs + 1, 2, none⟩ (.int .i64 (getL l (getT l (getT l t).2).2).1)) = w6 at *
  clear hW6
  refine hK.out _ _ (⟨F5.out.facts.1, F5.out.facts.2.1⟩) (fun hHeld => ?_)
  clear hK K
  try simp only [Act.put, List.getElem_toArray, List.getElem_cons_zero, List.getElem_cons_succ, List.setIfInBounds_toArray, List.set_cons_zero, List.set_cons_succ]
  refine wpAnyH_done (by kernel_rfl) ?_ _
  go_wp2_with fail
  obtain ⟨d0, d1, d2, _, _, _⟩ := X5.out.facts
  refine bodyPost_ret (v := .agg #[(.slice a0 (getT l t).1.length c0), (.slice a1 (getT l (getT l t).2).1.length c1), (.int .i64 (getL l (getT l (getT l t).2).2).1)]) (by simp [results, Try.results53, go_sem, d0, d1, d2]) rfl ⟨⟨(.slice a0 (getT l t).1.length c0), (.slice a1 (getT l (getT l t).2).1.length c1), (.int .i64 (getL l (getT l (getT l t).2).2).1)⟩, rfl, ⟨?_, ?_, ?_⟩, ?_, S5.out, K5.out⟩
  · refine Fd.Has.mono (show (Fd.b _).Has _ _ _ from H05.out) ?_
    have := HGS.out; have := hwd.out; have := G0.out; omega
  · refine Fd.Has.mono (show (Fd.b _).Has _ _ _ from H15.out) ?_
    have := HGS.out; have := hwd.out; have := G1.out; omega
  · rfl
  · refine ⟨fun g hg => ?_, ?_⟩
    · simp only [R3.owns, List.mem_cons, List.not_mem_nil, or_false] at hg
      rcases hg with e | e | e
      · have := B0.out g e.symm; have := hs5.out; have := HGS.out; have := M02.out; omega
      · have := B1.out g e.symm; have := hs5.out; have := HGS.out; have := M12.out; omega
      · cases e
    · refine pw2 ?_
      cases hv : (Value.slice a0 (getT l t).1.length c0).ownBlock with
      | none => exact .inl rfl
      | some g =>
        right
        intro e
        have h1 := B0.out g hv
        have h2 := B1.out g e.symm
        have := G1.out
        omega

end Go.Proofs.Ytnhebknckgffoaa

/- Records taken one behind the other. -/
namespace Go.Proofs.Ytnhebknckgffoaa
open Go.RowKit
set_option linter.unusedVariables false
set_option linter.unusedSimpArgs false
set_option maxRecDepth 100000

theorem KeepO.same {w w' : World} {pa lo : Nat} (h : KeepO [some pa] w w') (hp : pa < lo) : Same lo w w' :=
  ⟨h.size, fun g h1 h2 => h.block g h2 (by simp; omega)⟩
theorem KeepO.grown {os : List (Option Nat)} {w w2 w3 : World} {row : Option Nat} (h : KeepO os w w2) (hg : w2.grownBy w3 row) (hr : ∀ g, row = some g → w.heap.size ≤ g) : KeepO os w w3 :=
  ⟨hg.os.trans h.os, hg.tape.trans h.tape, hg.output.trans h.output, Nat.le_trans h.size hg.size, fun g h1 h2 => (hg.block g (Nat.lt_of_lt_of_le h1 h.size) (fun e => by have := hr g e.symm; omega)).trans (h.block g h1 h2)⟩
theorem Src.grown {W w w' : World} {pb pa ps B : Nat} {a : Option Addr} {n c : Nat} {l : List Int} {t : Int} {row : Option Nat} (h : Src W w pb pa ps a n c l t) (hg : w.grownBy w' row) (hr : ∀ g, row = some g → B ≤ g) (hB : pb < B ∧ pa < B ∧ ps < B ∧ W.heap.size ≤ B) : Src W w' pb pa ps a n c l t :=
  ⟨(hg.block pb (lt_of_block h.b) (fun e => by have := hr _ e.symm; omega)).trans h.b, (hg.block pa (lt_of_block h.p) (fun e => by have := hr _ e.symm; omega)).trans h.p,
    by obtain ⟨y, z, u, v, e⟩ := h.s; exact ⟨y, z, u, v, (hg.block ps (lt_of_block e) (fun e => by have := hr _ e.symm; omega)).trans e⟩, h.row,
    h.bel.grown hg h.bel.size (fun k hk => by have := hr k hk; omega), h.low, h.len, h.cap, h.most, h.nil, h.ok⟩

theorem AL.step {wr w1 w2 w3 : World} {T B : Nat} {v v' : Value} {l : List R3} {ds : List D3} {r : R3} {d : D3} (h : AL wr T B v l ds) (hT : T ≠ 5) (hs : Same B wr w1) (hBw : B ≤ wr.heap.size)
    (hr : Hs w1 wr.heap.size r d) (hB : Bk wr.heap.size w1.heap.size r.owns) (hb : Below w1.heap.size w1 w2)
    (ho : w3.ownsRow B T 3 v' (ds.length + 1) (flat3 l ++ r.vals)) (hg : w2.grownBy w3 v.ownBlock) : AL w3 T B v' (l ++ [r]) (ds ++ [d]) := by
  have h2 : AL w2 T B v l ds := (h.same hs).below hb
  refine h2.push hT ((hr.below hb).mono hBw) ?_ ?_ ho hg
  · have hbk : Bk B wr.heap.size (owners l) := ⟨fun g hg => h.bk.1 g (List.mem_cons_of_mem _ hg), (List.pairwise_cons.1 h.bk.2).2⟩
    exact (hbk.append hB hBw hs.size).mono hb.size
  · cases hv : v.ownBlock with
    | none => exact .inl rfl
    | some g =>
      right
      intro hm
      have h3 := h.bk.1 g (by rw [hv]; simp)
      have h4 := hB.1 g hm
      omega
theorem AL.ge {w : World} {T B : Nat} {v : Value} {l : List R3} {ds : List D3} (h : AL w T B v l ds) : ∀ g, v.ownBlock = some g → B ≤ g := fun g hg => (h.bk.1 g (by rw [hg]; simp)).1

theorem wpList_appendE {w : World} {ops : Array Oper} {rest : List Oper} {o : Oper} {a : Act} {Q : Exit → Act → World → Prop} (hgd : o.guard = none) (s x : Operand)
    (ho : o.op = .call { callee := .builtin .append, args := #[s, x], argTypes := #[23, 23] })
    (base : Nat) (v : Value) (n : Nat) (l : List R3) (hs : a.eval s = v) (hown : w.ownsRow base 43 3 v n (flat3 l))
    (g : Nat) (r : R3) (hx : a.eval x = .slice (some ⟨g, 0, none⟩) 1 1) (hr : B3 w g 43 r.x r.y r.z) (h1 : ∀ u ∈ r.vals, u.oneCell' = true)
    (hsz : n ≤ 1000) (hbase : base ≤ w.heap.size)
    (h : ∀ v' w', w'.ownsRow base 43 3 v' (n + 1) (flat3 l ++ r.vals) → w.grownBy w' v.ownBlock → wpList Try.prog ops Q rest (a.put o.dst v') w') : wpList Try.prog ops Q (o :: rest) a w := by
  obtain ⟨i0, hi, hz0, hz1, hz2⟩ := info_parts infoE
  refine wpList_append_own w hgd s x 23 ho base 43 i0 (.agg #[.slice none 0 0, .int .i64 0, .int .i64 0]) 3 40 Try.underlying23 hi hz0 hz1 hz2 rfl (by decide) v n _ hs hown ⟨g, 0, none⟩ 1 1 r.vals hx rfl ?_ h1 (by unfold maxLen; omega) (by omega) hbase ?_
  · obtain ⟨q0, q1, q2, _⟩ := hr.facts
    intro j u hu
    match j, hu with
    | 0, hu => simp [R3.vals] at hu; subst hu; exact q0
    | 1, hu => simp [R3.vals] at hu; subst hu; exact q1
    | 2, hu => simp [R3.vals] at hu; subst hu; exact q2
    | j + 3, hu => simp [R3.vals] at hu
  · intro v' w' ho' hg' _
    exact h v' w' ho' hg'

set_option maxHeartbeats 4000000 in
theorem takeEM {W w : World} {pb pa ps : Nat} {a : Option Addr} {n c : Nat} {l : List Int} {t : Int} (h : Src W w pb pa ps a n c l t) (y2 y3 y4 : Value) (k : Nat) (hk : k ≤ 8) :
    Calls Try.prog 50 #[.int .i64 k, .func (Fn.func 51) #[.agg #[.func (Fn.func 43) #[] #[.pointer (some ⟨pb, 0, none⟩), .pointer (some ⟨pa, 0, none⟩)], .func (Fn.func 45) #[] #[.pointer (some ⟨pb, 0, none⟩), .pointer (some ⟨pa, 0, none⟩)], y2, y3, y4]] #[]] w fun e w' => ∃ a' c' l', e = .returned (.slice a' k c') ∧ AL w' 43 w.heap.size (.slice a' k c') l' (rep (exN l) k t).1 ∧ Src W w' pb pa ps a n c l (rep (exN l) k t).2 ∧ KeepO [some pa] w w' := by
  have hB : Hid (pb < w.heap.size ∧ pa < w.heap.size ∧ ps < w.heap.size ∧ W.heap.size ≤ w.heap.size) := ⟨lt_of_block h.b, lt_of_block h.p, (by obtain ⟨_, _, _, _, e⟩ := h.s; exact lt_of_block e), h.bel.size⟩
  have H0 : Hid (∃ l', AL w 43 w.heap.size (.slice none 0 0) l' (rep (exN l) 0 t).1 ∧ Src W w pb pa ps a n c l (rep (exN l) 0 t).2 ∧ KeepO [some pa] w w) := ⟨[], AL.nil _ _ _, h, KeepO.refl _ _⟩
  clear h
  go_enter Try.func50, Try.ntmps50
  go_wp2_with fail
  go_loopw [5, 7] (fun v i wr => ∃ j : Nat, j ≤ k ∧ i = .int .i64 j ∧ ∃ a' c', v = .slice a' j c' ∧ Hid (∃ l', AL wr 43 w.heap.size (.slice a' j c') l' (rep (exN l) j t).1 ∧ Src W wr pb pa ps a n c l (rep (exN l) j t).2 ∧ KeepO [some pa] w wr)) (fun _ i _ => k - (intOf i).toNat)
  case atStart => exact ⟨0, Nat.zero_le _, rfl, none, 0, rfl, H0.out⟩
  case round =>
    obtain ⟨j, hj, rfl, a', c', rfl, HR⟩ := hrel
    by_cases hlt : j < k
    · obtain ⟨l', hA, hS, hK⟩ := HR.out
      have H1 := exportM hS y2 y3 y4
      have HA : Hid (AL wr 43 w.heap.size (.slice a' j c') l' (rep (exN l) j t).1) := hA
      have HK : Hid (KeepO [some pa] w wr) := hK
      have hwr : w.heap.size ≤ wr.heap.size := hK.size
      clear hA hS hK HR
      go_wp2_with fail
      refine H1.mono ?_
      rintro e w1 ⟨r, rfl, hHs, hBk, hS1, hK1⟩
      obtain ⟨rx, ry, rz⟩ := r
      have hone := hHs.oneE
      have HHs : Hid (Hs w1 wr.heap.size ⟨rx, ry, rz⟩ (exN l (rep (exN l) j t).2).1) := hHs
      have HBk : Hid (Bk wr.heap.size w1.heap.size (R3.owns ⟨rx, ry, rz⟩)) := hBk
      have HS1 : Hid (Src W w1 pb pa ps a n c l (exN l (rep (exN l) j t).2).2) := hS1
      have HK1 : Hid (KeepO [some pa] wr w1) := hK1
      have hw1 : wr.heap.size ≤ w1.heap.size := hK1.size
      obtain ⟨⟨ax, cx, ex, _⟩, ey, ez⟩ := hHs
      simp only at ex ey ez
      subst ex ey ez
      clear hBk hS1 hK1 H1
      have x2 := B3.new w1 43 (.slice ax (getT l (rep (exN l) j t).2).1.length cx) (.int .i64 (getL l (getT l (rep (exN l) j t).2).2).1) (.int .i64 (getL l (getL l (getT l (rep (exN l) j t).2).2).2).1)
      have y2' : Below w1.heap.size w1 (w1.alloc (.cells #[.slice ax (getT l (rep (exN l) j t).2).1.length cx, .int .i64 (getL l (getT l (rep (exN l) j t).2).2).1, .int .i64 (getL l (getL l (getT l (rep (exN l) j t).2).2).2).1] 43 (0, 0))) := (Below.refl _ _).alloc (Nat.le_refl _) _
      have HO : Hid ((w1.alloc (.cells #[.slice ax (getT l (rep (exN l) j t).2).1.length cx, .int .i64 (getL l (getT l (rep (exN l) j t).2).2).1, .int .i64 (getL l (getL l (getT l (rep (exN l) j t).2).2).2).1] 43 (0, 0))).ownsRow w.heap.size 43 3 (.slice a' j c') j (flat3 l')) := by
        have h1 := (((HA.out.same (HK1.out.same hB.out.2.1)).below y2').own).row
        rwa [rep_len] at h1
      go_wp2_with (at_builtin; refine wpList_appendE rfl _ _ rfl w.heap.size _ j l' rfl HO.out w1.heap.size ⟨.slice ax (getT l (rep (exN l) j t).2).1.length cx, .int .i64 (getL l (getT l (rep (exN l) j t).2).2).1, .int .i64 (getL l (getL l (getT l (rep (exN l) j t).2).2).2).1⟩ rfl x2 hone (by omega) (by simp; omega) ?_)
      intro v3 w3 ho3 hg3
      have hA3 : AL w3 43 w.heap.size v3 (l' ++ [⟨.slice ax (getT l (rep (exN l) j t).2).1.length cx, .int .i64 (getL l (getT l (rep (exN l) j t).2).2).1, .int .i64 (getL l (getL l (getT l (rep (exN l) j t).2).2).2).1⟩]) ((rep (exN l) j t).1 ++ [(exN l (rep (exN l) j t).2).1]) :=
        HA.out.step (by decide) (HK1.out.same hB.out.2.1) hwr HHs.out HBk.out y2' (by rw [rep_len]; exact ho3) hg3
      have hS3 : Src W w3 pb pa ps a n c l (rep (exN l) (j + 1) t).2 := (HS1.out.below y2').grown hg3 HA.out.ge hB.out
      have hK3 : KeepO [some pa] w w3 := ((HK.out.trans HK1.out).trans (Below.keepO y2' _)).grown hg3 HA.out.ge
      obtain ⟨a3, c3, e3, _⟩ := hA3.shape
      have e3' : v3 = .slice a3 (j + 1) c3 := by rw [e3]; simp [rep_len]
      subst e3'
      have HF : Hid (∃ l'', AL w3 43 w.heap.size (.slice a3 (j + 1) c3) l'' (rep (exN l) (j + 1) t).1 ∧ Src W w3 pb pa ps a n c l (rep (exN l) (j + 1) t).2 ∧ KeepO [some pa] w w3) := ⟨_, hA3, hS3, hK3⟩
      clear hA3 hS3 hK3 ho3 hg3 HO x2 y2' HA HK HS1 HHs HBk HK1 hone e3
      go_wp2_with fail
      go_roundw
      case rel => exact ⟨j + 1, by omega, by go_num, a3, c3, rfl, HF⟩
      case measure => simp [intOf]; omega
    · have : j = k := by omega
      subst this
      go_wp2_with fail
      go_ret
      obtain ⟨l', hA, hS, hK⟩ := HR.out
      exact ⟨_, _, l', rfl, hA, hS, hK⟩

theorem wpList_appendM {w : World} {ops : Array Oper} {rest : List Oper} {o : Oper} {a : Act} {Q : Exit → Act → World → Prop} (hgd : o.guard = none) (s x : Operand)
    (ho : o.op = .call { callee := .builtin .append, args := #[s, x], argTypes := #[24, 24] })
    (base : Nat) (v : Value) (n : Nat) (l : List R3) (hs : a.eval s = v) (hown : w.ownsRow base 47 3 v n (flat3 l))
    (g : Nat) (r : R3) (hx : a.eval x = .slice (some ⟨g, 0, none⟩) 1 1) (hr : B3 w g 47 r.x r.y r.z) (h1 : ∀ u ∈ r.vals, u.oneCell' = true)
    (hsz : n ≤ 1000) (hbase : base ≤ w.heap.size)
    (h : ∀ v' w', w'.ownsRow base 47 3 v' (n + 1) (flat3 l ++ r.vals) → w.grownBy w' v.ownBlock → wpList Try.prog ops Q rest (a.put o.dst v') w') : wpList Try.prog ops Q (o :: rest) a w := by
  obtain ⟨i0, hi, hz0, hz1, hz2⟩ := info_parts infoM
  refine wpList_append_own w hgd s x 24 ho base 47 i0 (.agg #[.slice none 0 0, .slice none 0 0, .int .i64 0]) 3 56 Try.underlying24 hi hz0 hz1 hz2 rfl (by decide) v n _ hs hown ⟨g, 0, none⟩ 1 1 r.vals hx rfl ?_ h1 (by unfold maxLen; omega) (by omega) hbase ?_
  · obtain ⟨q0, q1, q2, _⟩ := hr.facts
    intro j u hu
    match j, hu with
    | 0, hu => simp [R3.vals] at hu; subst hu; exact q0
    | 1, hu => simp [R3.vals] at hu; subst hu; exact q1
    | 2, hu => simp [R3.vals] at hu; subst hu; exact q2
    | j + 3, hu => simp [R3.vals] at hu
  · intro v' w' ho' hg' _
    exact h v' w' ho' hg'

set_option maxHeartbeats 4000000 in
theorem takeMM {W w : World} {pb pa ps : Nat} {a : Option Addr} {n c : Nat} {l : List Int} {t : Int} (h : Src W w pb pa ps a n c l t) (y2 y3 y4 : Value) (k : Nat) (hk : k ≤ 8) :
    Calls Try.prog 52 #[.int .i64 k, .func (Fn.func 53) #[.agg #[.func (Fn.func 43) #[] #[.pointer (some ⟨pb, 0, none⟩), .pointer (some ⟨pa, 0, none⟩)], .func (Fn.func 45) #[] #[.pointer (some ⟨pb, 0, none⟩), .pointer (some ⟨pa, 0, none⟩)], y2, y3, y4]] #[]] w fun e w' => ∃ a' c' l', e = .returned (.slice a' k c') ∧ AL w' 47 w.heap.size (.slice a' k c') l' (rep (imN l) k t).1 ∧ Src W w' pb pa ps a n c l (rep (imN l) k t).2 ∧ KeepO [some pa] w w' := by
  have hB : Hid (pb < w.heap.size ∧ pa < w.heap.size ∧ ps < w.heap.size ∧ W.heap.size ≤ w.heap.size) := ⟨lt_of_block h.b, lt_of_block h.p, (by obtain ⟨_, _, _, _, e⟩ := h.s; exact lt_of_block e), h.bel.size⟩
  have H0 : Hid (∃ l', AL w 47 w.heap.size (.slice none 0 0) l' (rep (imN l) 0 t).1 ∧ Src W w pb pa ps a n c l (rep (imN l) 0 t).2 ∧ KeepO [some pa] w w) := ⟨[], AL.nil _ _ _, h, KeepO.refl _ _⟩
  clear h
  go_enter Try.func52, Try.ntmps52
  go_wp2_with fail
  go_loopw [5, 7] (fun v i wr => ∃ j : Nat, j ≤ k ∧ i = .int .i64 j ∧ ∃ a' c', v = .slice a' j c' ∧ Hid (∃ l', AL wr 47 w.heap.size (.slice a' j c') l' (rep (imN l) j t).1 ∧ Src W wr pb pa ps a n c l (rep (imN l) j t).2 ∧ KeepO [some pa] w wr)) (fun _ i _ => k - (intOf i).toNat)
  case atStart => exact ⟨0, Nat.zero_le _, rfl, none, 0, rfl, H0.out⟩
  case round =>
    obtain ⟨j, hj, rfl, a', c', rfl, HR⟩ := hrel
    by_cases hlt : j < k
    · obtain ⟨l', hA, hS, hK⟩ := HR.out
      have H1 := importedM hS y2 y3 y4
      have HA : Hid (AL wr 47 w.heap.size (.slice a' j c') l' (rep (imN l) j t).1) := hA
      have HK : Hid (KeepO [some pa] w wr) := hK
      have hwr : w.heap.size ≤ wr.heap.size := hK.size
      clear hA hS hK HR
      go_wp2_with fail
      refine H1.mono ?_
      rintro e w1 ⟨r, rfl, hHs, hBk, hS1, hK1⟩
      obtain ⟨rx, ry, rz⟩ := r
      have hone := hHs.oneE
      have HHs : Hid (Hs w1 wr.heap.size ⟨rx, ry, rz⟩ (imN l (rep (imN l) j t).2).1) := hHs
      have HBk : Hid (Bk wr.heap.size w1.heap.size (R3.owns ⟨rx, ry, rz⟩)) := hBk
      have HS1 : Hid (Src W w1 pb pa ps a n c l (imN l (rep (imN l) j t).2).2) := hS1
      have HK1 : Hid (KeepO [some pa] wr w1) := hK1
      have hw1 : wr.heap.size ≤ w1.heap.size := hK1.size
      obtain ⟨⟨ax, cx, ex, _⟩, ⟨ay, cy, ey, _⟩, ez⟩ := hHs
      simp only at ex ey ez
      subst ex ey ez
      clear hBk hS1 hK1 H1
      have x2 := B3.new w1 47 (.slice ax (getT l (rep (imN l) j t).2).1.length cx) (.slice ay (getT l (getT l (rep (imN l) j t).2).2).1.length cy) (.int .i64 (getL l (getT l (getT l (rep (imN l) j t).2).2).2).1)
      have y2' : Below w1.heap.size w1 (w1.alloc (.cells #[.slice ax (getT l (rep (imN l) j t).2).1.length cx, .slice ay (getT l (getT l (rep (imN l) j t).2).2).1.length cy, .int .i64 (getL l (getT l (getT l (rep (imN l) j t).2).2).2).1] 47 (0, 0))) := (Below.refl _ _).alloc (Nat.le_refl _) _
      have HO : Hid ((w1.alloc (.cells #[.slice ax (getT l (rep (imN l) j t).2).1.length cx, .slice ay (getT l (getT l (rep (imN l) j t).2).2).1.length cy, .int .i64 (getL l (getT l (getT l (rep (imN l) j t).2).2).2).1] 47 (0, 0))).ownsRow w.heap.size 47 3 (.slice a' j c') j (flat3 l')) := by
        have h1 := (((HA.out.same (HK1.out.same hB.out.2.1)).below y2').own).row
        rwa [rep_len] at h1
      go_wp2_with (at_builtin; refine wpList_appendM rfl _ _ rfl w.heap.size _ j l' rfl HO.out w1.heap.size ⟨.slice ax (getT l (rep (imN l) j t).2).1.length cx, .slice ay (getT l (getT l (rep (imN l) j t).2).2).1.length cy, .int .i64 (getL l (getT l (getT l (rep (imN l) j t).2).2).2).1⟩ rfl x2 hone (by omega) (by simp; omega) ?_)
      intro v3 w3 ho3 hg3
      have hA3 : AL w3 47 w.heap.size v3 (l' ++ [⟨.slice ax (getT l (rep (imN l) j t).2).1.length cx, .slice ay (getT l (getT l (rep (imN l) j t).2).2).1.length cy, .int .i64 (getL l (getT l (getT l (rep (imN l) j t).2).2).2).1⟩]) ((rep (imN l) j t).1 ++ [(imN l (rep (imN l) j t).2).1]) :=
        HA.out.step (by decide) (HK1.out.same hB.out.2.1) hwr HHs.out HBk.out y2' (by rw [rep_len]; exact ho3) hg3
      have hS3 : Src W w3 pb pa ps a n c l (rep (imN l) (j + 1) t).2 := (HS1.out.below y2').grown hg3 HA.out.ge hB.out
      have hK3 : KeepO [some pa] w w3 := ((HK.out.trans HK1.out).trans (Below.keepO y2' _)).grown hg3 HA.out.ge
      obtain ⟨a3, c3, e3, _⟩ := hA3.shape
      have e3' : v3 = .slice a3 (j + 1) c3 := by rw [e3]; simp [rep_len]
      subst e3'
      have HF : Hid (∃ l'', AL w3 47 w.heap.size (.slice a3 (j + 1) c3) l'' (rep (imN l) (j + 1) t).1 ∧ Src W w3 pb pa ps a n c l (rep (imN l) (j + 1) t).2 ∧ KeepO [some pa] w w3) := ⟨_, hA3, hS3, hK3⟩
      clear hA3 hS3 hK3 ho3 hg3 HO x2 y2' HA HK HS1 HHs HBk HK1 hone e3
      go_wp2_with fail
      go_roundw
      case rel => exact ⟨j + 1, by omega, by go_num, a3, c3, rfl, HF⟩
      case measure => simp [intOf]; omega
    · have : j = k := by omega
      subst this
      go_wp2_with fail
      go_ret
      obtain ⟨l', hA, hS, hK⟩ := HR.out
      exact ⟨_, _, l', rfl, hA, hS, hK⟩
end Go.Proofs.Ytnhebknckgffoaa

/- The object of nothing. No function is walked here. -/
namespace Go.Proofs.Ytnhebknckgffoaa
open Go.RowKit
set_option linter.unusedVariables false

theorem OOwn.zero (w : World) (base : Nat) : OOwn w base ⟨.slice none 0 0, .slice none 0 0, .slice none 0 0, .int .i64 0, .slice none 0 0⟩ ob0 [] [] :=
  ⟨⟨none, 0, rfl, ⟨World.ownsRow_nil _ _ _ _, by intro x hx; cases hx⟩⟩, ⟨World.ownsRow_nil _ _ _ _, rfl, rfl, by simp⟩, ⟨World.ownsRow_nil _ _ _ _, rfl, rfl, by simp⟩, rfl, ⟨none, 0, rfl, ⟨World.ownsRow_nil _ _ _ _, by intro x hx; cases hx⟩⟩,
    ⟨by simp [Value.ownBlock, owners], by simp [Value.ownBlock, owners]⟩⟩
theorem OOwn.mono {w : World} {base base' : Nat} {o : O5} {b : Ob} {lE lI : List R3} (h : OOwn w base o b lE lI) (hb : base' ≤ base) : OOwn w base' o b lE lI :=
  ⟨h.nm.mono hb, h.ex.mono hb, h.im.mono hb, h.dt, h.cd.mono hb, h.bk.low hb⟩
def n7 (l : List Int) : Nat := (r7 l).1.toNat
def n4 (l : List Int) : Nat := (r4 l).1.toNat
def n2 (l : List Int) : Nat := (r2 l).1.toNat
end Go.Proofs.Ytnhebknckgffoaa

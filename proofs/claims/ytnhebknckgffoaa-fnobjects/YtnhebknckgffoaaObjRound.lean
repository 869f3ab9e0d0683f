/- Objects come back from their bytes, and whatever bytes are read as one are just its bytes: on lists. -/
import Derived.Test.YtnhebknckgffoaaPackI
import Derived.Test.YtnhebknckgffoaaPackF
import Derived.Test.YtnhebknckgffoaaObjPutSpec
namespace Go.Proofs.Ytnhebknckgffoaa
open Go.RowKit
set_option linter.unusedVariables false

theorem gL (A R : List Int) (k : Int) (h0 : 0 ≤ k) (h1 : k ≤ 2147483647) : getL (A ++ putL k ++ R) (A.length : Int) = (k, ((A ++ putL k).length : Int)) := by
  have e : putL k = num k.toNat := by unfold putL; rw [if_pos ⟨h0, h1⟩]
  rw [e, get_put A R k.toNat (by omega), List.length_append]
  simp only [Prod.mk.injEq]
  omega
theorem gC (A R : List Int) (m k : Int) (h0 : 0 ≤ k) (h1 : k ≤ 2147483647) (hm : k ≤ m) : cnt (A ++ putL k ++ R) m (A.length : Int) = (k, ((A ++ putL k).length : Int)) := by
  unfold cnt
  rw [gL A R k h0 h1, if_neg (by show ¬ m < k; omega)]
theorem gT (A R t : List Int) (ht : t.length ≤ 40) : getT (A ++ textL t ++ R) (A.length : Int) = (t, ((A ++ textL t).length : Int)) := by
  have e : textL t = num t.length ++ t := by unfold textL; rw [if_pos ht]
  have e2 : A ++ textL t ++ R = A ++ num t.length ++ (t ++ R) := by rw [e]; simp
  have hg : getL (A ++ textL t ++ R) (A.length : Int) = ((t.length : Int), (A.length : Int) + ((num t.length).length : Int)) := by
    rw [e2]; exact get_put A (t ++ R) t.length (by omega)
  unfold getT
  rw [hg]
  simp only []
  rw [if_neg (by rw [e2]; simp; omega)]
  have h1 : ((A.length : Int) + ((num t.length).length : Int)).toNat = (A ++ num t.length).length := by simp; omega
  rw [h1, Int.toNat_natCast, e2, List.drop_left, List.take_left, e]
  simp only [Prod.mk.injEq, true_and]
  simp
  omega

/-- What an export must be to come back, and an import. -/
def exGood (d : D3) : Prop := ∃ l p q, d = (⟨.b l, .n p, .n q⟩ : D3) ∧ l.length ≤ 40 ∧ 0 ≤ p ∧ p ≤ 2147483647 ∧ 0 ≤ q ∧ q ≤ 2147483647
def imGood (d : D3) : Prop := ∃ l l2 p, d = (⟨.b l, .b l2, .n p⟩ : D3) ∧ l.length ≤ 40 ∧ l2.length ≤ 40 ∧ 0 ≤ p ∧ p ≤ 2147483647

theorem gE (A R : List Int) (d : D3) (h : exGood d) : exN (A ++ exB d ++ R) (A.length : Int) = (d, ((A ++ exB d).length : Int)) := by
  obtain ⟨l, p, q, rfl, hl, p0, p1, q0, q1⟩ := h
  have e : A ++ exB ⟨.b l, .n p, .n q⟩ ++ R = A ++ textL l ++ (putL p ++ putL q ++ R) := by simp [exB]
  have e1 : A ++ exB ⟨.b l, .n p, .n q⟩ ++ R = (A ++ textL l) ++ putL p ++ (putL q ++ R) := by simp [exB]
  have e2 : A ++ exB ⟨.b l, .n p, .n q⟩ ++ R = (A ++ textL l ++ putL p) ++ putL q ++ R := by simp [exB]
  have h1 : getT (A ++ exB ⟨.b l, .n p, .n q⟩ ++ R) (A.length : Int) = (l, ((A ++ textL l).length : Int)) := by rw [e]; exact gT _ _ _ hl
  have h2 : getL (A ++ exB ⟨.b l, .n p, .n q⟩ ++ R) ((A ++ textL l).length : Int) = (p, ((A ++ textL l ++ putL p).length : Int)) := by rw [e1]; exact gL _ _ _ p0 p1
  have h3 : getL (A ++ exB ⟨.b l, .n p, .n q⟩ ++ R) ((A ++ textL l ++ putL p).length : Int) = (q, ((A ++ textL l ++ putL p ++ putL q).length : Int)) := by rw [e2]; exact gL _ _ _ q0 q1
  unfold exN
  rw [h1]
  simp only
  rw [h2]
  simp only
  rw [h3]
  simp [exB]
theorem gM (A R : List Int) (d : D3) (h : imGood d) : imN (A ++ imB d ++ R) (A.length : Int) = (d, ((A ++ imB d).length : Int)) := by
  obtain ⟨l, l2, p, rfl, hl, hl2, p0, p1⟩ := h
  have e : A ++ imB ⟨.b l, .b l2, .n p⟩ ++ R = A ++ textL l ++ (textL l2 ++ putL p ++ R) := by simp [imB]
  have e1 : A ++ imB ⟨.b l, .b l2, .n p⟩ ++ R = (A ++ textL l) ++ textL l2 ++ (putL p ++ R) := by simp [imB]
  have e2 : A ++ imB ⟨.b l, .b l2, .n p⟩ ++ R = (A ++ textL l ++ textL l2) ++ putL p ++ R := by simp [imB]
  have h1 : getT (A ++ imB ⟨.b l, .b l2, .n p⟩ ++ R) (A.length : Int) = (l, ((A ++ textL l).length : Int)) := by rw [e]; exact gT _ _ _ hl
  have h2 : getT (A ++ imB ⟨.b l, .b l2, .n p⟩ ++ R) ((A ++ textL l).length : Int) = (l2, ((A ++ textL l ++ textL l2).length : Int)) := by rw [e1]; exact gT _ _ _ hl2
  have h3 : getL (A ++ imB ⟨.b l, .b l2, .n p⟩ ++ R) ((A ++ textL l ++ textL l2).length : Int) = (p, ((A ++ textL l ++ textL l2 ++ putL p).length : Int)) := by rw [e2]; exact gL _ _ _ p0 p1
  unfold imN
  rw [h1]
  simp only
  rw [h2]
  simp only
  rw [h3]
  simp [imB]

theorem gRep {B : D3 → List Int} {N : List Int → Int → D3 × Int} {G : D3 → Prop} (hg : ∀ A R d, G d → N (A ++ B d ++ R) (A.length : Int) = (d, ((A ++ B d).length : Int)))
    (A R : List Int) (ds : List D3) (hG : ∀ d ∈ ds, G d) (k : Nat) (hk : k ≤ ds.length) : rep (N (A ++ listB B ds ++ R)) k (A.length : Int) = (ds.take k, ((A ++ listB B (ds.take k)).length : Int)) := by
  induction k with
  | zero => simp [rep, listB]
  | succ k ih =>
    have ih' := ih (by omega)
    have hd : ds = ds.take k ++ ds[k] :: ds.drop (k + 1) := by rw [← List.drop_eq_getElem_cons (by omega), List.take_append_drop]
    have e : A ++ listB B ds ++ R = (A ++ listB B (ds.take k)) ++ B ds[k] ++ (listB B (ds.drop (k + 1)) ++ R) := by
      have : listB B ds = listB B (ds.take k) ++ (B ds[k] ++ listB B (ds.drop (k + 1))) := by
        conv => lhs; rw [hd]
        rw [listB_append]; rfl
      rw [this]; simp
    have h1 := hg (A ++ listB B (ds.take k)) (listB B (ds.drop (k + 1)) ++ R) ds[k] (hG _ (List.getElem_mem _))
    rw [← e] at h1
    have et : ds.take (k + 1) = ds.take k ++ [ds[k]] := by rw [List.take_succ_eq_append_getElem (by omega)]
    simp only [rep]
    rw [ih']
    simp only
    rw [h1, et, listB_append]
    simp [listB]

theorem name_len {l : List Int} {g : Bool} (h : nameOk l g = true) : l.length ≤ 8 := by
  rcases Nat.lt_or_ge 8 l.length with hl | hl
  · exfalso
    revert h
    unfold nameOk
    simp
    omega
  · exact hl

theorem range_at {f : Nat → Bool} {n : Nat} (h : (List.range n).all f = true) {j : Nat} (hj : j < n) : f j = true := List.all_eq_true.1 h j (List.mem_range.2 hj)

theorem ex_good {ds : List D3} (h : exsOk ds = true) : ∀ d ∈ ds, exGood d := by
  intro d hd
  obtain ⟨i, hi, rfl⟩ := List.getElem_of_mem hd
  unfold exsOk at h
  rw [Bool.and_eq_true] at h
  have h1 := range_at h.2 hi
  unfold exAt at h1
  rw [List.getElem?_eq_getElem hi] at h1
  simp only [Bool.and_eq_true] at h1
  have h2 := h1.1
  revert h2
  generalize ds[i] = d
  obtain ⟨x, y, z⟩ := d
  unfold exOk1
  cases x with
  | n _ => intro h2; simp at h2
  | b l =>
    cases y with
    | b _ => intro h2; simp at h2
    | n p =>
      cases z with
      | b _ => intro h2; simp at h2
      | n q =>
        intro h2
        simp only [inB, Bool.and_eq_true, decide_eq_true_eq] at h2
        have := name_len h2.1.1
        exact ⟨l, p, q, rfl, by omega, by omega, by omega, by omega, by omega⟩
theorem im_good {ds : List D3} (h : imsOk ds = true) : ∀ d ∈ ds, imGood d := by
  intro d hd
  obtain ⟨i, hi, rfl⟩ := List.getElem_of_mem hd
  unfold imsOk at h
  rw [Bool.and_eq_true] at h
  have h1 := range_at h.2 hi
  unfold imAt at h1
  rw [List.getElem?_eq_getElem hi] at h1
  simp only at h1
  revert h1
  generalize ds[i] = d
  obtain ⟨x, y, z⟩ := d
  unfold imOk1
  cases x with
  | n _ => intro h2; simp at h2
  | b l =>
    cases y with
    | n _ => intro h2; simp at h2
    | b l2 =>
      cases z with
      | b _ => intro h2; simp at h2
      | n p =>
        intro h2
        simp only [inB, Bool.and_eq_true, decide_eq_true_eq] at h2
        have := name_len h2.1.1
        have := name_len h2.1.2
        exact ⟨l, l2, p, rfl, by omega, by omega, by omega, by omega⟩

/-- An object that may be comes back from its bytes. -/
theorem rd_enc {b : Ob} (hok : objOk b = true) : rdOk (objB b) = true ∧ rdR (objB b) = b := by
  have hok' := hok
  unfold objOk inB at hok'
  simp only [Bool.and_eq_true, decide_eq_true_eq] at hok'
  obtain ⟨⟨⟨⟨hN, hE⟩, hI⟩, hD⟩, hC⟩ := hok'
  have hl := name_len hN
  have gE' := ex_good hE
  have gI' := im_good hI
  have hE8 : b.ex.length ≤ 8 := by unfold exsOk at hE; simp only [Bool.and_eq_true, decide_eq_true_eq] at hE; exact hE.1
  have hI8 : b.im.length ≤ 8 := by unfold imsOk at hI; simp only [Bool.and_eq_true, decide_eq_true_eq] at hI; exact hI.1
  obtain ⟨L, hL⟩ : ∃ L, L = objB b := ⟨_, rfl⟩
  have s1 : L = [66, 72] ++ textL b.name ++ (putL b.ex.length ++ listB exB b.ex ++ putL b.im.length ++ listB imB b.im ++ putL b.data ++ putL b.code.length ++ b.code) := by rw [hL]; simp [objB, objB2, objB1]
  have s2 : L = ([66, 72] ++ textL b.name) ++ putL b.ex.length ++ (listB exB b.ex ++ putL b.im.length ++ listB imB b.im ++ putL b.data ++ putL b.code.length ++ b.code) := by rw [hL]; simp [objB, objB2, objB1]
  have s3 : L = objB1 b ++ listB exB b.ex ++ (putL b.im.length ++ listB imB b.im ++ putL b.data ++ putL b.code.length ++ b.code) := by rw [hL]; simp [objB, objB2]
  have s4 : L = (objB1 b ++ listB exB b.ex) ++ putL b.im.length ++ (listB imB b.im ++ putL b.data ++ putL b.code.length ++ b.code) := by rw [hL]; simp [objB, objB2]
  have s5 : L = objB2 b ++ listB imB b.im ++ (putL b.data ++ putL b.code.length ++ b.code) := by rw [hL]; simp [objB]
  have s6 : L = (objB2 b ++ listB imB b.im) ++ putL b.data ++ (putL b.code.length ++ b.code) := by rw [hL]; simp [objB]
  have s7 : L = (objB2 b ++ listB imB b.im ++ putL b.data) ++ putL b.code.length ++ b.code := by rw [hL]; simp [objB]
  have h1 : r1 L = (b.name, (([66, 72] ++ textL b.name).length : Int)) := by
    unfold r1
    have := gT [66, 72] (putL b.ex.length ++ listB exB b.ex ++ putL b.im.length ++ listB imB b.im ++ putL b.data ++ putL b.code.length ++ b.code) b.name (by omega)
    rw [← s1] at this
    exact this
  have h2 : r2 L = ((b.ex.length : Int), ((objB1 b).length : Int)) := by
    unfold r2
    rw [h1]
    have := gC ([66, 72] ++ textL b.name) (listB exB b.ex ++ putL b.im.length ++ listB imB b.im ++ putL b.data ++ putL b.code.length ++ b.code) 8 (b.ex.length : Int) (by omega) (by omega) (by omega)
    rw [← s2] at this
    exact this
  have h3 : r3 L = (b.ex, ((objB1 b ++ listB exB b.ex).length : Int)) := by
    unfold r3
    rw [h2]
    simp only [Int.toNat_natCast]
    have := gRep gE (objB1 b) (putL b.im.length ++ listB imB b.im ++ putL b.data ++ putL b.code.length ++ b.code) b.ex gE' b.ex.length (Nat.le_refl _)
    rw [← s3, List.take_length] at this
    exact this
  have h4 : r4 L = ((b.im.length : Int), ((objB2 b).length : Int)) := by
    unfold r4
    rw [h3]
    have := gC (objB1 b ++ listB exB b.ex) (listB imB b.im ++ putL b.data ++ putL b.code.length ++ b.code) 8 (b.im.length : Int) (by omega) (by omega) (by omega)
    rw [← s4] at this
    exact this
  have h5 : r5 L = (b.im, ((objB2 b ++ listB imB b.im).length : Int)) := by
    unfold r5
    rw [h4]
    simp only [Int.toNat_natCast]
    have := gRep gM (objB2 b) (putL b.data ++ putL b.code.length ++ b.code) b.im gI' b.im.length (Nat.le_refl _)
    rw [← s5, List.take_length] at this
    exact this
  have h6 : r6 L = (b.data, ((objB2 b ++ listB imB b.im ++ putL b.data).length : Int)) := by
    unfold r6
    rw [h5]
    have := gL (objB2 b ++ listB imB b.im) (putL b.code.length ++ b.code) b.data (by omega) (by omega)
    rw [← s6] at this
    exact this
  have h7 : r7 L = ((b.code.length : Int), ((objB2 b ++ listB imB b.im ++ putL b.data ++ putL b.code.length).length : Int)) := by
    unfold r7
    rw [h6]
    have := gC (objB2 b ++ listB imB b.im ++ putL b.data) b.code 9000 (b.code.length : Int) (by omega) (by omega) (by omega)
    rw [← s7] at this
    exact this
  have hlen : (L.length : Int) = ((objB2 b ++ listB imB b.im ++ putL b.data ++ putL b.code.length).length : Int) + (b.code.length : Int) := by
    rw [s7, List.length_append]; omega
  have h8 : r8 L = (b.code, (L.length : Int)) := by
    unfold r8 byL
    rw [h7]
    simp only
    rw [if_neg (by omega), Int.toNat_natCast, Int.toNat_natCast]
    rw [hlen]
    conv => lhs; rw [s7]
    rw [List.drop_left, List.take_of_length_le (Nat.le_refl _)]
  have hob : obL L = b := by unfold obL; rw [h1, h3, h5, h6, h8]
  have hst : startsL L = true := by unfold startsL; rw [s1]; simp
  have hrd : rdOk L = true := by rw [rd_end hst (by rw [h8]), hob]; exact hok
  rw [← hL]
  exact ⟨hrd, by rw [rdR_yes hrd, hob]⟩

/-! What is read is just the bytes of it -/
theorem pT {l : List Int} (hby : ∀ x ∈ l, 0 ≤ x ∧ x ≤ 255) {t : Int} (h : 0 ≤ (getT l t).2) : 0 ≤ t ∧ l.take t.toNat ++ textL (getT l t).1 = l.take (getT l t).2.toNat := by
  have hx := h
  unfold getT at hx ⊢
  by_cases hc : (getL l t).2 < 0 ∨ 40 < (getL l t).1 ∨ (l.length : Int) - (getL l t).2 < (getL l t).1
  · rw [if_pos hc] at hx; exact absurd (show (0 : Int) ≤ -1 from hx) (by decide)
  · rw [if_neg hc]
    have h1 : ¬ (getL l t).2 < 0 := fun e => hc (.inl e)
    have h2 : ¬ 40 < (getL l t).1 := fun e => hc (.inr (.inl e))
    have h3 : ¬ (l.length : Int) - (getL l t).2 < (getL l t).1 := fun e => hc (.inr (.inr e))
    obtain ⟨p1, p2, p3, p4, p5, p6⟩ := put_get l t hby h1
    obtain ⟨n0, n1⟩ := getL_num hby t
    refine ⟨p1, ?_⟩
    have hlen : ((l.drop (getL l t).2.toNat).take (getL l t).1.toNat).length = (getL l t).1.toNat := by
      rw [List.length_take, List.length_drop]; omega
    have hp : putL (getL l t).1 = num (getL l t).1.toNat := by unfold putL; rw [if_pos ⟨n0, n1⟩]
    have ht : textL ((l.drop (getL l t).2.toNat).take (getL l t).1.toNat) = putL (getL l t).1 ++ (l.drop (getL l t).2.toNat).take (getL l t).1.toNat := by
      unfold textL
      rw [if_pos (by rw [hlen]; omega), hlen, hp]
    simp only
    rw [ht, ← List.append_assoc, p3, show ((getL l t).2 + (getL l t).1).toNat = (getL l t).2.toNat + (getL l t).1.toNat by omega, List.take_add]
theorem pL {l : List Int} (hby : ∀ x ∈ l, 0 ≤ x ∧ x ≤ 255) {t : Int} (h : 0 ≤ (getL l t).2) : 0 ≤ t ∧ l.take t.toNat ++ putL (getL l t).1 = l.take (getL l t).2.toNat := by
  obtain ⟨p1, p2, p3, _⟩ := put_get l t hby (by omega)
  exact ⟨p1, p3⟩
theorem pE {l : List Int} (hby : ∀ x ∈ l, 0 ≤ x ∧ x ≤ 255) {t : Int} (h : 0 ≤ (exN l t).2) : 0 ≤ t ∧ l.take t.toNat ++ exB (exN l t).1 = l.take (exN l t).2.toNat := by
  have h3 := pL hby (t := (getL l (getT l t).2).2) h
  have h2 := pL hby h3.1
  have h1 := pT hby h2.1
  refine ⟨h1.1, ?_⟩
  show l.take t.toNat ++ (textL _ ++ putL _ ++ putL _) = l.take (getL l (getL l (getT l t).2).2).2.toNat
  rw [← h3.2, ← h2.2, ← h1.2]
  simp
theorem pM {l : List Int} (hby : ∀ x ∈ l, 0 ≤ x ∧ x ≤ 255) {t : Int} (h : 0 ≤ (imN l t).2) : 0 ≤ t ∧ l.take t.toNat ++ imB (imN l t).1 = l.take (imN l t).2.toNat := by
  have h3 := pL hby (t := (getT l (getT l t).2).2) h
  have h2 := pT hby h3.1
  have h1 := pT hby h2.1
  refine ⟨h1.1, ?_⟩
  show l.take t.toNat ++ (textL _ ++ textL _ ++ putL _) = l.take (getL l (getT l (getT l t).2).2).2.toNat
  rw [← h3.2, ← h2.2, ← h1.2]
  simp
theorem pRep {l : List Int} {B : D3 → List Int} {N : Int → D3 × Int} (hp : ∀ t, 0 ≤ (N t).2 → 0 ≤ t ∧ l.take t.toNat ++ B (N t).1 = l.take (N t).2.toNat) {t : Int} (k : Nat) (h : 0 ≤ (rep N k t).2) :
    0 ≤ t ∧ l.take t.toNat ++ listB B (rep N k t).1 = l.take (rep N k t).2.toNat := by
  induction k with
  | zero => exact ⟨h, by simp [rep, listB]⟩
  | succ k ih =>
    have h1 := hp _ (show 0 ≤ (N (rep N k t).2).2 from h)
    have h2 := ih h1.1
    refine ⟨h2.1, ?_⟩
    show l.take t.toNat ++ listB B ((rep N k t).1 ++ [(N (rep N k t).2).1]) = l.take (N (rep N k t).2).2.toNat
    rw [listB_append, ← h1.2, ← h2.2]
    simp [listB]

theorem enc_rd {l : List Int} (hby : ∀ x ∈ l, 0 ≤ x ∧ x ≤ 255) (h : rdOk l = true) : objOk (rdR l) = true ∧ objB (rdR l) = l := by
  have hR := rdR_yes h
  have h' := h
  unfold rdOk at h'
  simp only [Bool.and_eq_true, decide_eq_true_eq] at h'
  obtain ⟨hst, h8, hob⟩ := h'
  rw [hR]
  refine ⟨hob, ?_⟩
  have hs : l.take 2 = [66, 72] := by unfold startsL at hst; simpa using hst
  have p8 := byL_pos (l := l) (n := (r7 l).1) (t := (r7 l).2) (by show 0 ≤ (r8 l).2; omega)
  have c7 := cnt_pos (l := l) (m := 9000) (t := (r6 l).2) p8.1
  have e7 : r7 l = getL l (r6 l).2 := c7.1
  have p7 := pL hby (t := (r6 l).2) (by rw [← e7]; exact p8.1)
  have p6 := pL hby (t := (r5 l).2) p7.1
  have p5 := pRep (B := imB) (N := imN l) (fun t ht => pM hby ht) (r4 l).1.toNat (t := (r4 l).2) p6.1
  have c4 := cnt_pos (l := l) (m := 8) (t := (r3 l).2) p5.1
  have e4 : r4 l = getL l (r3 l).2 := c4.1
  have p4 := pL hby (t := (r3 l).2) (by rw [← e4]; exact p5.1)
  have p3 := pRep (B := exB) (N := exN l) (fun t ht => pE hby ht) (r2 l).1.toNat (t := (r2 l).2) p4.1
  have c2 := cnt_pos (l := l) (m := 8) (t := (r1 l).2) p3.1
  have e2 : r2 l = getL l (r1 l).2 := c2.1
  have p2 := pL hby (t := (r1 l).2) (by rw [← e2]; exact p3.1)
  have p1 := pT hby (t := 2) p2.1
  have n2 := cnt_num hby (m := 8) (by decide) (r1 l).2
  have n4 := cnt_num hby (m := 8) (by decide) (r3 l).2
  have n7 := cnt_num hby (m := 9000) (by decide) (r6 l).2
  have q1 : [66, 72] ++ textL (r1 l).1 = l.take (r1 l).2.toNat := by rw [← hs]; exact p1.2
  have l3 : (((r3 l).1.length : Nat) : Int) = (r2 l).1 := by unfold r3; rw [rep_len]; have : 0 ≤ (r2 l).1 := n2.1; omega
  have l5 : (((r5 l).1.length : Nat) : Int) = (r4 l).1 := by unfold r5; rw [rep_len]; have : 0 ≤ (r4 l).1 := n4.1; omega
  have q2 : objB1 (obL l) = l.take (r2 l).2.toNat := by
    show [66, 72] ++ textL (r1 l).1 ++ putL (((r3 l).1.length : Nat) : Int) = _
    rw [l3, q1, e2]; exact p2.2
  have q3 : objB1 (obL l) ++ listB exB (r3 l).1 = l.take (r3 l).2.toNat := by rw [q2]; exact p3.2
  have q4 : objB2 (obL l) = l.take (r4 l).2.toNat := by
    show objB1 (obL l) ++ listB exB (r3 l).1 ++ putL (((r5 l).1.length : Nat) : Int) = _
    rw [l5, q3, e4]; exact p4.2
  have q5 : objB2 (obL l) ++ listB imB (r5 l).1 = l.take (r5 l).2.toNat := by rw [q4]; exact p5.2
  have q6 : objB2 (obL l) ++ listB imB (r5 l).1 ++ putL (r6 l).1 = l.take (r6 l).2.toNat := by rw [q5]; exact p6.2
  have e8 : (r8 l).2 = (r7 l).2 + (r7 l).1 := p8.2.2
  have hn7 : 0 ≤ (r7 l).1 := n7.1
  have e8c : (r8 l).1 = l.drop (r7 l).2.toNat := by
    unfold r8 byL
    rw [if_neg (by omega)]
    show (l.drop (r7 l).2.toNat).take (r7 l).1.toNat = _
    rw [List.take_of_length_le]; rw [List.length_drop]; omega
  have l8 : (((r8 l).1.length : Nat) : Int) = (r7 l).1 := by rw [e8c, List.length_drop]; omega
  have q7 : objB2 (obL l) ++ listB imB (r5 l).1 ++ putL (r6 l).1 ++ putL (((r8 l).1.length : Nat) : Int) = l.take (r7 l).2.toNat := by
    rw [l8, q6, e7]; exact p7.2
  show objB2 (obL l) ++ listB imB (r5 l).1 ++ putL (r6 l).1 ++ putL (((r8 l).1.length : Nat) : Int) ++ (r8 l).1 = l
  rw [q7, e8c, List.take_append_drop]
end Go.Proofs.Ytnhebknckgffoaa

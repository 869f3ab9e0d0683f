/- Modules: what they must be, as plain functions of the trees. No function is walked here. -/
import Derived.Test.YtajnfknldofjlaaGreatDoorAll
import Derived.Test.YtajnfknldofjlaaGreatDoorNameImpl
namespace Go.Proofs.YtajnfknldofjlaaGreatDoor
open Go.RowKit
set_option linter.unusedVariables false
set_option linter.unusedSimpArgs false

def Ex.kind : Ex → Int | .mk k _ _ _ _ => k
def Ex.n : Ex → Int | .mk _ n _ _ _ => n
def Ex.mod : Ex → List Int | .mk _ _ m _ _ => m
def Ex.name : Ex → List Int | .mk _ _ _ a _ => a
def Ex.kids : Ex → List Ex | .mk _ _ _ _ l => l

/-! What a kind of expression takes: its Kids, at least and at most, N, at least and at most, a name. -/
def exLeast (k : Int) : Int := if k = 2 then 1 else if k = 3 then 2 else 0
def exMost (k : Int) : Int := if k = 2 then 1 else if k = 3 then 2 else if k = 6 then 4 else 0
def exLow (k : Int) : Int := if k = 0 then -2147483648 else 0
def exHigh (k : Int) : Int := if k = 0 then 2147483647 else if k = 3 then 5 else 0
def exNamed (k : Int) : Bool := decide (k = 1) || decide (k = 2) || decide (k = 5) || decide (k = 6) || decide (k = 7)
def inB (x lo hi : Int) : Bool := decide (lo ≤ x) && decide (x ≤ hi)
def exLoc (k n : Int) (mod name : List Int) (nk : Nat) : Bool :=
  inB k 0 7 && (inB n (exLow k) (exHigh k) && inB nk (exLeast k) (exMost k) && (if exNamed k then nameOk name false else decide (name.length = 0))) && (decide (mod.length = 0) || decide (k = 6) && nameOk mod true)

def isArr (e : Ex) : Bool := decide (e.kind = 7)
def isCall (e : Ex) : Bool := decide (e.kind = 6)

mutual
def okEx : Ex → Bool
  | .mk k n m a ks => exLoc k n m a ks.length && (decide (k = 6) || !ks.any isArr) && okExs ks
def okExs : List Ex → Bool
  | [] => true
  | e :: l => okEx e && okExs l
end
mutual
def ndEx : Ex → Nat
  | .mk _ _ _ _ ks => 1 + ndExs ks
def ndExs : List Ex → Nat
  | [] => 0
  | e :: l => ndEx e + ndExs l
end
mutual
def dpEx : Ex → Nat
  | .mk _ _ _ _ ks => 1 + dpExs ks
def dpExs : List Ex → Nat
  | [] => 0
  | e :: l => max (dpEx e) (dpExs l)
end

def stLeast (k : Int) : Int := if k = 1 then 2 else if k = 6 then 0 else 1
def stHigh (k : Int) : Int := if k = 6 then 99 else 0
def stNamed (k : Int) : Bool := decide (k = 0) || decide (k = 1)
def stBody (k : Int) : Bool := decide (k = 2) || decide (k = 3)
def stLoc (k n : Int) (name : List Int) (ks : List Ex) (nb ne : Nat) : Bool :=
  inB k 0 7 && (inB n 0 (stHigh k) && inB ks.length (stLeast k) (stLeast k) && (if stNamed k then nameOk name false else decide (name.length = 0))) && (decide (nb = 0) || stBody k) && (decide (ne = 0) || decide (k = 2)) && !ks.any isArr && (!decide (k = 7) || ks.any isCall)

mutual
def okSt : St → Bool
  | .mk k n a ks bs es => stLoc k n a ks bs.length es.length && okExs ks && okSts bs && okSts es
def okSts : List St → Bool
  | [] => true
  | s :: l => okSt s && okSts l
end
mutual
def ndSt : St → Nat
  | .mk _ _ _ ks bs es => 1 + (ndExs ks + ndSts bs + ndSts es)
def ndSts : List St → Nat
  | [] => 0
  | s :: l => ndSt s + ndSts l
end
mutual
def dpSt : St → Nat
  | .mk _ _ _ ks bs es => 1 + max (dpExs ks) (max (dpSts bs) (dpSts es))
def dpSts : List St → Nat
  | [] => 0
  | s :: l => max (dpSt s) (dpSts l)
end

theorem okExs_all (l : List Ex) : okExs l = l.all okEx := by
  induction l with
  | nil => rfl
  | cons x l ih => simp [okExs, ih]
theorem okSts_all (l : List St) : okSts l = l.all okSt := by
  induction l with
  | nil => rfl
  | cons x l ih => simp [okSts, ih]
theorem ndExs_app (l m : List Ex) : ndExs (l ++ m) = ndExs l + ndExs m := by
  induction l with
  | nil => simp [ndExs]
  | cons x l ih => simp [ndExs, ih]; omega
theorem ndSts_app (l m : List St) : ndSts (l ++ m) = ndSts l + ndSts m := by
  induction l with
  | nil => simp [ndSts]
  | cons x l ih => simp [ndSts, ih]; omega
theorem ndExs_next {l : List Ex} {j : Nat} {x : Ex} (h : l[j]? = some x) : ndExs (l.take (j + 1)) = ndExs (l.take j) + ndEx x := by
  obtain ⟨hk, rfl⟩ := List.getElem?_eq_some_iff.1 h
  rw [List.take_succ_eq_append_getElem hk, ndExs_app]; simp [ndExs]
theorem ndSts_next {l : List St} {j : Nat} {x : St} (h : l[j]? = some x) : ndSts (l.take (j + 1)) = ndSts (l.take j) + ndSt x := by
  obtain ⟨hk, rfl⟩ := List.getElem?_eq_some_iff.1 h
  rw [List.take_succ_eq_append_getElem hk, ndSts_app]; simp [ndSts]
theorem ndExs_take (l : List Ex) (j : Nat) : ndExs (l.take j) ≤ ndExs l := by
  have := ndExs_app (l.take j) (l.drop j); rw [List.take_append_drop] at this; omega
theorem ndSts_take (l : List St) (j : Nat) : ndSts (l.take j) ≤ ndSts l := by
  have := ndSts_app (l.take j) (l.drop j); rw [List.take_append_drop] at this; omega
theorem dpEx_le {l : List Ex} {x : Ex} (h : x ∈ l) : dpEx x ≤ dpExs l := by
  induction l with
  | nil => simp at h
  | cons y l ih =>
    rcases List.mem_cons.1 h with rfl | h
    · simp [dpExs]; omega
    · have := ih h; simp [dpExs]; omega
theorem dpSt_le {l : List St} {x : St} (h : x ∈ l) : dpSt x ≤ dpSts l := by
  induction l with
  | nil => simp at h
  | cons y l ih =>
    rcases List.mem_cons.1 h with rfl | h
    · simp [dpSts]; omega
    · have := ih h; simp [dpSts]; omega
theorem dpExs_of {l : List Ex} {d : Nat} (h : ∀ x ∈ l, dpEx x ≤ d) : dpExs l ≤ d := by
  induction l with
  | nil => simp [dpExs]
  | cons y l ih =>
    have h1 := h y (by simp)
    have h2 := ih fun x hx => h x (by simp [hx])
    simp [dpExs]; omega
theorem dpSts_of {l : List St} {d : Nat} (h : ∀ x ∈ l, dpSt x ≤ d) : dpSts l ≤ d := by
  induction l with
  | nil => simp [dpSts]
  | cons y l ih =>
    have h1 := h y (by simp)
    have h2 := ih fun x hx => h x (by simp [hx])
    simp [dpSts]; omega

/-- All that is asked of expressions at depth d, where room is left. -/
def fitEx (e : Ex) (d left : Int) : Bool := okEx e && decide ((ndEx e : Int) ≤ left) && decide (d + (dpEx e : Int) ≤ 17)
def fitExs (l : List Ex) (d left : Int) : Bool := okExs l && decide ((ndExs l : Int) ≤ left) && (decide (l.length = 0) || decide (d + (dpExs l : Int) ≤ 17))
def fitSt (e : St) (d left : Int) : Bool := okSt e && decide ((ndSt e : Int) ≤ left) && decide (d + (dpSt e : Int) ≤ 17)
def fitSts (l : List St) (d left : Int) : Bool := okSts l && decide ((ndSts l : Int) ≤ left) && (decide (l.length = 0) || decide (d + (dpSts l : Int) ≤ 17))

theorem fitExs_no {l : List Ex} {d left : Int} {j : Nat} {x : Ex} (h : l[j]? = some x) (hx : fitEx x d (left - (ndExs (l.take j) : Int)) = false) : fitExs l d left = false := by
  unfold fitEx at hx
  have hm := List.mem_of_getElem? h
  have h1 := ndExs_next h
  have h2 := ndExs_take l (j + 1)
  have h3 := dpEx_le hm
  have h4 : l.length ≠ 0 := by intro h0; have := List.eq_nil_of_length_eq_zero h0; subst this; simp at hm
  unfold fitExs
  simp only [Bool.and_eq_false_iff, decide_eq_false_iff_not, Bool.or_eq_false_iff] at hx ⊢
  rcases hx with (hx | hx) | hx
  · left; left
    rw [okExs_all, List.all_eq_false]
    exact ⟨x, hm, by simp [hx]⟩
  · left; right; omega
  · right; exact ⟨h4, by omega⟩
theorem fitExs_yes {l : List Ex} {d left : Int} (h : ∀ j x, l[j]? = some x → fitEx x d (left - (ndExs (l.take j) : Int)) = true) (hl : 0 ≤ left) : fitExs l d left = true := by
  unfold fitExs
  simp only [Bool.and_eq_true, decide_eq_true_eq, Bool.or_eq_true]
  have h1 : okExs l = true := by
    rw [okExs_all, List.all_eq_true]
    intro x hx
    obtain ⟨j, hj⟩ := List.getElem?_of_mem hx
    have := h j x hj
    unfold fitEx at this
    simp only [Bool.and_eq_true] at this
    exact this.1.1
  refine ⟨⟨h1, ?_⟩, ?_⟩
  · rcases Nat.eq_zero_or_pos l.length with h0 | hp
    · have := List.eq_nil_of_length_eq_zero h0; subst this; simpa [ndExs] using hl
    · have hj : l[l.length - 1]? = some (l[l.length - 1]'(by omega)) := List.getElem?_eq_getElem _
      have := h _ _ hj
      have h2 := ndExs_next hj
      rw [show l.length - 1 + 1 = l.length by omega, List.take_length] at h2
      unfold fitEx at this
      simp only [Bool.and_eq_true, decide_eq_true_eq] at this
      omega
  · by_cases h0 : l.length = 0
    · exact .inl h0
    · right
      have : dpExs l ≤ (17 - d).toNat := dpExs_of fun x hx => by
        obtain ⟨j, hj⟩ := List.getElem?_of_mem hx
        have := h j x hj
        unfold fitEx at this
        simp only [Bool.and_eq_true, decide_eq_true_eq] at this
        omega
      have h3 : 0 ≤ 17 - d := by
        have hj : l[0]? = some (l[0]'(by omega)) := List.getElem?_eq_getElem _
        have := h _ _ hj
        unfold fitEx at this
        simp only [Bool.and_eq_true, decide_eq_true_eq] at this
        omega
      omega
theorem fitSts_no {l : List St} {d left : Int} {j : Nat} {x : St} (h : l[j]? = some x) (hx : fitSt x d (left - (ndSts (l.take j) : Int)) = false) : fitSts l d left = false := by
  unfold fitSt at hx
  have hm := List.mem_of_getElem? h
  have h1 := ndSts_next h
  have h2 := ndSts_take l (j + 1)
  have h3 := dpSt_le hm
  have h4 : l.length ≠ 0 := by intro h0; have := List.eq_nil_of_length_eq_zero h0; subst this; simp at hm
  unfold fitSts
  simp only [Bool.and_eq_false_iff, decide_eq_false_iff_not, Bool.or_eq_false_iff] at hx ⊢
  rcases hx with (hx | hx) | hx
  · left; left
    rw [okSts_all, List.all_eq_false]
    exact ⟨x, hm, by simp [hx]⟩
  · left; right; omega
  · right; exact ⟨h4, by omega⟩
theorem fitSts_yes {l : List St} {d left : Int} (h : ∀ j x, l[j]? = some x → fitSt x d (left - (ndSts (l.take j) : Int)) = true) (hl : 0 ≤ left) : fitSts l d left = true := by
  unfold fitSts
  simp only [Bool.and_eq_true, decide_eq_true_eq, Bool.or_eq_true]
  have h1 : okSts l = true := by
    rw [okSts_all, List.all_eq_true]
    intro x hx
    obtain ⟨j, hj⟩ := List.getElem?_of_mem hx
    have := h j x hj
    unfold fitSt at this
    simp only [Bool.and_eq_true] at this
    exact this.1.1
  refine ⟨⟨h1, ?_⟩, ?_⟩
  · rcases Nat.eq_zero_or_pos l.length with h0 | hp
    · have := List.eq_nil_of_length_eq_zero h0; subst this; simpa [ndSts] using hl
    · have hj : l[l.length - 1]? = some (l[l.length - 1]'(by omega)) := List.getElem?_eq_getElem _
      have := h _ _ hj
      have h2 := ndSts_next hj
      rw [show l.length - 1 + 1 = l.length by omega, List.take_length] at h2
      unfold fitSt at this
      simp only [Bool.and_eq_true, decide_eq_true_eq] at this
      omega
  · by_cases h0 : l.length = 0
    · exact .inl h0
    · right
      have : dpSts l ≤ (17 - d).toNat := dpSts_of fun x hx => by
        obtain ⟨j, hj⟩ := List.getElem?_of_mem hx
        have := h j x hj
        unfold fitSt at this
        simp only [Bool.and_eq_true, decide_eq_true_eq] at this
        omega
      have h3 : 0 ≤ 17 - d := by
        have hj : l[0]? = some (l[0]'(by omega)) := List.getElem?_eq_getElem _
        have := h _ _ hj
        unfold fitSt at this
        simp only [Bool.and_eq_true, decide_eq_true_eq] at this
        omega
      omega
end Go.Proofs.YtajnfknldofjlaaGreatDoor

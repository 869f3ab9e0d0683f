/- Objects that are linked: as data; an image of one's own while it is made. No function is walked here. -/
import Derived.Test.YtefciaeajlgheaaOsPure
import Derived.Test.YtefciaeajlgheaaAll
import Derived.Test.YtefciaeajlgheaaTreeTo2
namespace Go.Proofs.Ytefciaeajlgheaa
open Go.RowKit
set_option linter.unusedVariables false
set_option linter.unusedSimpArgs false

/-! Objects as chapter 5's texts see them -/
def Xp.d (x : Xp) : D3 := ⟨.b x.name, .n x.print, .n x.pos⟩
def Ip.d (x : Ip) : D3 := ⟨.b x.mod, .b x.name, .n x.print⟩
def Oj.ob (x : Oj) : Ob := ⟨x.name, x.ex.map Xp.d, x.im.map Ip.d, x.data, x.code⟩
def Fd.fl : Fd → Fl
  | .b l => .b l
  | .n x => .n x
def D3.fl (d : D3) : List Fl := [d.x.fl, d.y.fl, d.z.fl]

theorem Fd.of {w : World} {f : Fd} {v : Value} (h : f.fl.Rd w v) : f.Read w v := by
  cases f with
  | b l => exact h
  | n x => exact h

theorem rows3 {w : World} {b : Nat} : ∀ {ds : List D3} {off : Nat}, RdRows w b 3 off (ds.map D3.fl) → ∃ l : List R3, l.length = ds.length ∧ (∀ k v, (flat3 l)[k]? = some v → w.cell? ⟨b, off + k, none⟩ = some v) ∧ ∀ (i : Nat) (r : R3) (d : D3), l[i]? = some r → ds[i]? = some d → Rd w r d := by
  intro ds
  induction ds with
  | nil => intro off _; exact ⟨[], rfl, by simp [flat3], by simp⟩
  | cons d ds ih =>
    intro off h
    obtain ⟨⟨⟨vx, cx, hx⟩, ⟨vy, cy, hy⟩, ⟨vz, cz, hz⟩, _⟩, h2⟩ := h
    obtain ⟨l, hl, hc, hr⟩ := ih h2
    refine ⟨⟨vx, vy, vz⟩ :: l, by simp [hl], fun k v hv => ?_, fun i r d' h1 h2 => ?_⟩
    · match k, hv with
      | 0, hv => simp [flat3, R3.vals] at hv; subst hv; exact cx
      | 1, hv => simp [flat3, R3.vals] at hv; subst hv; exact cy
      | 2, hv => simp [flat3, R3.vals] at hv; subst hv; exact cz
      | k + 3, hv =>
        have := hc k v (by simpa [flat3, R3.vals] using hv)
        rw [show off + (k + 3) = off + 3 + k by omega]; exact this
    · cases i with
      | zero => simp at h1 h2; subst h1; subst h2; exact ⟨Fd.of hx, Fd.of hy, Fd.of hz⟩
      | succ i => exact hr i r d' (by simpa using h1) (by simpa using h2)

theorem dv_of {w : World} {v : Value} {ds : List D3} (h : (Fl.l 3 (ds.map D3.fl)).Rd w v) : DV w v ds := by
  obtain ⟨a, c, rfl, h1, h2, h3, h4⟩ := h
  simp only [List.length_map] at h1 h4 ⊢
  refine ⟨a, c, rfl, ⟨rfl, ?_⟩, h1, h2, h3⟩
  rcases Nat.eq_zero_or_pos ds.length with h0 | hp
  · exact ⟨[], ⟨by simp [h0], fun h => by omega⟩, by simp⟩
  · obtain ⟨b, off, e, hr⟩ := h4 hp
    obtain ⟨l, hl, hc, hd⟩ := rows3 hr
    exact ⟨l, ⟨hl, fun _ => ⟨b, off, e, hc⟩⟩, hd⟩

theorem xp_d (l : List Xp) : (l.map Xp.d).map D3.fl = l.map Xp.fl := by rw [List.map_map]; rfl
theorem ip_d (l : List Ip) : (l.map Ip.d).map D3.fl = l.map Ip.fl := by rw [List.map_map]; rfl

theorem oread_of {w : World} {x : Oj} {v0 v1 v2 v3 v4 : Value} (h : RdVals w x.fl [v0, v1, v2, v3, v4]) : ORead w ⟨v0, v1, v2, v3, v4⟩ x.ob := by
  obtain ⟨y0, _, e0, h0, y1, _, e1, h1, y2, _, e2, h2, y3, _, e3, h3, y4, _, e4, h4, e5⟩ := h
  simp only [List.cons.injEq] at e0
  obtain ⟨rfl, rfl⟩ := e0
  simp only [List.cons.injEq] at e1
  obtain ⟨rfl, rfl⟩ := e1
  simp only [List.cons.injEq] at e2
  obtain ⟨rfl, rfl⟩ := e2
  simp only [List.cons.injEq] at e3
  obtain ⟨rfl, rfl⟩ := e3
  simp only [List.cons.injEq] at e4
  obtain ⟨rfl, rfl⟩ := e4
  refine ⟨h0, dv_of (by rw [show x.ob.ex = x.ex.map Xp.d from rfl, xp_d]; exact h1), dv_of (by rw [show x.ob.im = x.im.map Ip.d from rfl, ip_d]; exact h2), h3, h4, ?_, ?_⟩
  · intro d hd
    obtain ⟨q, _, rfl⟩ := List.mem_map.1 hd
    exact ⟨_, _, _, rfl⟩
  · intro d hd
    obtain ⟨q, _, rfl⟩ := List.mem_map.1 hd
    exact ⟨_, _, _, rfl⟩

theorem dsum_xp (l : List Xp) : dsum (l.map Xp.d) = rowsLen (l.map Xp.fl) := by
  induction l with
  | nil => rfl
  | cons x l ih => simp [dsum, rowsLen, ih, Xp.d, Xp.fl, D3.len, Fd.len, recLen, Fl.len]
theorem dsum_ip (l : List Ip) : dsum (l.map Ip.d) = rowsLen (l.map Ip.fl) := by
  induction l with
  | nil => rfl
  | cons x l ih => simp [dsum, rowsLen, ih, Ip.d, Ip.fl, D3.len, Fd.len, recLen, Fl.len]
theorem osz_of (x : Oj) : osz x.ob = recLen x.fl := by
  simp [osz, Oj.ob, dsum_xp, dsum_ip, Oj.fl, recLen, Fl.len]; omega

/-! What may be, of an object -/
theorem objOk_parts {x : Oj} (h : objOk x.ob = true) : x.ex.length ≤ 8 ∧ x.im.length ≤ 8 ∧ 0 ≤ x.data ∧ x.data ≤ 200 ∧ x.code.length ≤ 9000 ∧ (∀ (i : Nat) (y : Xp), x.ex[i]? = some y → ∀ (j : Nat) (z : Xp), j < i → x.ex[j]? = some z → z.name ≠ y.name) ∧ (∀ y ∈ x.ex, 0 ≤ y.pos ∧ y.pos ≤ 4000) := by
  simp only [objOk, Oj.ob, exsOk, imsOk, inB, Bool.and_eq_true, decide_eq_true_eq, List.length_map] at h
  obtain ⟨⟨⟨⟨_, h1, h2⟩, h3, _⟩, h4, h5⟩, h6⟩ := h
  have hat : ∀ (i : Nat) (y : Xp), x.ex[i]? = some y → exAt (x.ex.map Xp.d) i = true := fun i y hy =>
    List.all_eq_true.1 h2 i (List.mem_range.2 (by have := (List.getElem?_eq_some_iff.1 hy).1; simpa using this))
  refine ⟨h1, h3, of_decide_eq_true h4, of_decide_eq_true h5, of_decide_eq_true h6, fun i y hy j z hj hz e => ?_, fun y hy => ?_⟩
  · have := hat i y hy
    rw [exAt_eq (l := y.name) (p := y.print) (q := y.pos) (by rw [List.getElem?_map, hy]; rfl)] at this
    simp only [Bool.and_eq_true, Bool.not_eq_true'] at this
    have hd := this.2
    have hd2 : dup ((x.ex.map Xp.d).take i) y.name = true := by
      refine dup_some (k := j) (d := z.d) ?_ e
      rw [List.getElem?_take, if_pos hj, List.getElem?_map, hz]; rfl
    rw [hd2] at hd
    cases hd
  · obtain ⟨i, hi, rfl⟩ := List.mem_iff_getElem.1 hy
    have := hat i x.ex[i] (List.getElem?_eq_getElem hi)
    rw [exAt_eq (l := x.ex[i].name) (p := x.ex[i].print) (q := x.ex[i].pos) (by rw [List.getElem?_map, List.getElem?_eq_getElem hi]; rfl)] at this
    simp only [Bool.and_eq_true, inB, decide_eq_true_eq] at this
    exact this.1.2

/-! Places -/
def intO : Option Nat → Int
  | some j => (j : Int)
  | none => -1
def findO (l : List Oj) (m : List Int) : Option Nat := l.findIdx? fun o => decide (o.name = m)
def findX (o : Oj) (n : List Int) (p : Int) : Option Nat := o.ex.findIdx? fun x => decide (x.name = n) && decide (x.print = p)
def findN (o : Oj) (n : List Int) : Option Nat := o.ex.findIdx? fun x => decide (x.name = n)

theorem find_hit {α : Type} {p : α → Bool} {l : List α} {j : Nat} {x : α} (hx : l[j]? = some x) (hp : p x = true) (hno : ∀ (i : Nat) (y : α), i < j → l[i]? = some y → p y = false) : l.findIdx? p = some j := by
  rw [List.findIdx?_eq_some_iff_getElem]
  obtain ⟨hj, e⟩ := List.getElem?_eq_some_iff.1 hx
  refine ⟨hj, by rw [e]; exact hp, fun i hi => ?_⟩
  have := hno i l[i] hi (List.getElem?_eq_getElem (by omega))
  simpa using this
theorem find_no {α : Type} {p : α → Bool} {l : List α} (hno : ∀ (i : Nat) (y : α), l[i]? = some y → p y = false) : l.findIdx? p = none := by
  rw [List.findIdx?_eq_none_iff]
  intro x hx
  obtain ⟨i, hi, rfl⟩ := List.mem_iff_getElem.1 hx
  simpa using hno i l[i] (List.getElem?_eq_getElem hi)
theorem find_some {α : Type} {p : α → Bool} {l : List α} {j : Nat} (h : l.findIdx? p = some j) : ∃ x, l[j]? = some x ∧ p x = true ∧ ∀ (i : Nat) (y : α), i < j → l[i]? = some y → p y = false := by
  rw [List.findIdx?_eq_some_iff_getElem] at h
  obtain ⟨hj, h1, h2⟩ := h
  refine ⟨l[j], List.getElem?_eq_getElem hj, h1, fun i y hi hy => ?_⟩
  obtain ⟨hi', rfl⟩ := List.getElem?_eq_some_iff.1 hy
  simpa using h2 i hi
theorem find_none {α : Type} {p : α → Bool} {l : List α} (h : l.findIdx? p = none) : ∀ (i : Nat) (y : α), l[i]? = some y → p y = false := by
  intro i y hy
  rw [List.findIdx?_eq_none_iff] at h
  simpa using h y (List.mem_of_getElem? hy)

/-- Where names are unlike, the first one of the name is the only one. -/
theorem findX_of {o : Oj} (hu : ∀ (i : Nat) (y : Xp), o.ex[i]? = some y → ∀ (j : Nat) (z : Xp), j < i → o.ex[j]? = some z → z.name ≠ y.name) (n : List Int) (p : Int) :
    findX o n p = match findN o n with
      | none => none
      | some j => if (o.ex[j]?.map Xp.print).getD 0 = p then some j else none := by
  cases h : findN o n with
  | none =>
    refine find_no fun i y hy => ?_
    have := find_none h i y hy
    simp only [decide_eq_false_iff_not] at this
    simp [this]
  | some j =>
    obtain ⟨x, hx, hp, hno⟩ := find_some h
    have hpx : x.name = n := by simpa using hp
    simp only [hx, Option.map_some, Option.getD_some]
    split
    · rename_i he
      refine find_hit hx (by simp [hpx, he]) fun i y hi hy => ?_
      have := hno i y hi hy
      simp only [decide_eq_false_iff_not] at this
      simp [this]
    · rename_i he
      refine find_no fun i y hy => ?_
      by_cases e : y.name = n
      · rcases Nat.lt_trichotomy i j with hl | rfl | hl
        · exact absurd (e.trans hpx.symm) (hu j x hx i y hl hy)
        · rw [hx] at hy; cases hy; simp [he]
        · exact absurd (hpx.trans e.symm) (hu i y hy j x hl hx)
      · simp [e]

/-! What is linked -/
def zeroWo : Wo := ⟨false, 0, 0, 0, 0, 0, 0⟩
def entWo (f x : Nat) : Wo := ⟨true, 0, 0, 0, (x : Int), 16, (f : Int) + 1⟩
def impW (pre : List Oj) (i : Ip) : Option Wo := match findO pre i.mod with
  | none => none
  | some f => match findX (pre[f]?.getD ⟨[], [], [], 0, []⟩) i.name i.print with
    | none => none
    | some x => some (entWo f x)
def ojAt (l : List Oj) (j : Nat) : Oj := l[j]?.getD ⟨[], [], [], 0, []⟩
def entsAt (l : List Oj) (j : Nat) : List Wo := (ojAt l j).im.map fun i => (impW (l.take j) i).getD zeroWo
def dataAt (l : List Oj) (j : Nat) : List Wo := List.replicate (ojAt l j).data.toNat zeroWo
def wordsTo (l : List Oj) : Nat → List Wo
  | 0 => List.replicate 600 zeroWo
  | j + 1 => wordsTo l j ++ (entsAt l j ++ dataAt l j)
def modsTo (l : List Oj) : Nat → List Rg
  | 0 => []
  | j + 1 => modsTo l j ++ [⟨((wordsTo l j).length : Int), ((wordsTo l (j + 1)).length : Int), ((ojAt l j).im.length : Int), (ojAt l j).code⟩]
/-- What an object imports is there, of all objects up to n. -/
def goodTo (l : List Oj) (n : Nat) : Prop := ∀ j, j < n → ∀ i ∈ (ojAt l j).im, impW (l.take j) i ≠ none

def mainN : List Int := [109, 97, 105, 110]
def zeroIg : Ig := ⟨[], [], 0⟩
def formOk (l : List Oj) : Prop := (1 ≤ l.length ∧ l.length ≤ 8) ∧ ∀ o ∈ l, objOk o.ob = true
def unlO (l : List Oj) : Prop := ∀ j, j < l.length → findO l (ojAt l j).name = some j

/-- What Link tells (fm: main's fingerprint). -/
inductive Lk (fm : Int) (l : List Oj) : Ig → Int → Prop
  | form : ¬ formOk l → Lk fm l zeroIg 1
  | name : formOk l → ¬ unlO l → Lk fm l zeroIg 2
  | missing : formOk l → unlO l → ¬ goodTo l l.length → Lk fm l zeroIg 3
  | main : formOk l → unlO l → goodTo l l.length → findX (ojAt l (l.length - 1)) mainN fm = none → Lk fm l zeroIg 4
  | well (x : Nat) : formOk l → unlO l → goodTo l l.length → findX (ojAt l (l.length - 1)) mainN fm = some x → Lk fm l ⟨modsTo l l.length, wordsTo l l.length, (((ojAt l (l.length - 1)).ex[x]?.map Xp.pos).getD 0)⟩ 0

theorem Lk.same {fm : Int} {l : List Oj} {a b : Ig} {c d : Int} (h : Lk fm l a c) (k : Lk fm l b d) : a = b ∧ c = d := by
  cases h <;> cases k <;> first | exact ⟨rfl, rfl⟩ | contradiction | skip
  all_goals rename_i h1 h2 h3 h4
  all_goals simp_all

theorem ojAt_some {l : List Oj} {j : Nat} {o : Oj} (h : l[j]? = some o) : ojAt l j = o := by unfold ojAt; rw [h]; rfl
theorem wordsTo_len (l : List Oj) (h : ∀ o ∈ l, o.im.length ≤ 8 ∧ o.data ≤ 200) : ∀ j, j ≤ l.length → (wordsTo l j).length ≤ 600 + j * 208 := by
  intro j
  induction j with
  | zero => intro _; simp only [wordsTo, List.length_replicate]; omega
  | succ j ih =>
    intro hj
    have h1 := ih (by omega)
    have h2 := h (l[j]'(by omega)) (List.getElem_mem _)
    have h3 : ojAt l j = l[j]'(by omega) := ojAt_some (List.getElem?_eq_getElem _)
    simp only [wordsTo, List.length_append, entsAt, dataAt, List.length_map, List.length_replicate, h3]
    omega
end Go.Proofs.Ytefciaeajlgheaa

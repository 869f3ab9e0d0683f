/- Which objects may be: as data. -/
import Derived.Test.YtefciaeajlgheaaOs
import Derived.Test.YtefciaeajlgheaaName
namespace Go.Proofs.Ytefciaeajlgheaa
open Go.RowKit
set_option linter.unusedVariables false

def D3.nm (d : D3) : List Int := match d.x with
  | .b l => l
  | .n _ => []
def dup (ds : List D3) (l : List Int) : Bool := ds.any (fun d => decide (d.nm = l))
def inB (n lo hi : Int) : Bool := decide (lo ≤ n) && decide (n ≤ hi)
def exOk1 (d : D3) : Bool := match d with
  | ⟨.b l, .n p, .n q⟩ => nameOk l false && inB p 0 2147483647 && inB q 0 4000
  | _ => false
def imOk1 (d : D3) : Bool := match d with
  | ⟨.b l, .b l2, .n p⟩ => nameOk l true && nameOk l2 false && inB p 0 2147483647
  | _ => false
def exAt (ds : List D3) (i : Nat) : Bool := match ds[i]? with
  | some d => exOk1 d && !dup (ds.take i) d.nm
  | none => true
def imAt (ds : List D3) (i : Nat) : Bool := match ds[i]? with
  | some d => imOk1 d
  | none => true
def exsOk (ds : List D3) : Bool := decide (ds.length ≤ 8) && (List.range ds.length).all (exAt ds)
def imsOk (ds : List D3) : Bool := decide (ds.length ≤ 8) && (List.range ds.length).all (imAt ds)
def objOk (b : Ob) : Bool := nameOk b.name true && exsOk b.ex && imsOk b.im && inB b.data 0 200 && decide (b.code.length ≤ 9000)

theorem range_no {f : Nat → Bool} {n j : Nat} (h : j < n) (hb : f j = false) : (List.range n).all f = false := by
  rw [List.all_eq_false]
  exact ⟨j, List.mem_range.2 h, by simp [hb]⟩
theorem range_yes {f : Nat → Bool} {n : Nat} (h : ∀ j < n, f j = true) : (List.range n).all f = true := List.all_eq_true.2 fun j hj => h j (List.mem_range.1 hj)

theorem exsOk_long {ds : List D3} (h : 8 < ds.length) : exsOk ds = false := by unfold exsOk; rw [decide_eq_false (by omega : ¬ ds.length ≤ 8)]; rfl
theorem imsOk_long {ds : List D3} (h : 8 < ds.length) : imsOk ds = false := by unfold imsOk; rw [decide_eq_false (by omega : ¬ ds.length ≤ 8)]; rfl
theorem exsOk_no {ds : List D3} {j : Nat} (h : j < ds.length) (hb : exAt ds j = false) : exsOk ds = false := by unfold exsOk; rw [range_no h hb]; simp
theorem imsOk_no {ds : List D3} {j : Nat} (h : j < ds.length) (hb : imAt ds j = false) : imsOk ds = false := by unfold imsOk; rw [range_no h hb]; simp
theorem exsOk_yes {ds : List D3} (h8 : ds.length ≤ 8) (h : ∀ j < ds.length, exAt ds j = true) : exsOk ds = true := by unfold exsOk; rw [range_yes h, decide_eq_true h8]; rfl
theorem imsOk_yes {ds : List D3} (h8 : ds.length ≤ 8) (h : ∀ j < ds.length, imAt ds j = true) : imsOk ds = true := by unfold imsOk; rw [range_yes h, decide_eq_true h8]; rfl

theorem exAt_eq {ds : List D3} {j : Nat} {l : List Int} {p q : Int} (h : ds[j]? = some ⟨.b l, .n p, .n q⟩) : exAt ds j = (nameOk l false && inB p 0 2147483647 && inB q 0 4000 && !dup (ds.take j) l) := by
  unfold exAt; rw [h]; rfl
theorem imAt_eq {ds : List D3} {j : Nat} {l l2 : List Int} {p : Int} (h : ds[j]? = some ⟨.b l, .b l2, .n p⟩) : imAt ds j = (nameOk l true && nameOk l2 false && inB p 0 2147483647) := by
  unfold imAt; rw [h]; rfl

theorem dup_next {ds : List D3} {k : Nat} {d : D3} {l : List Int} (h : ds[k]? = some d) : dup (ds.take (k + 1)) l = (dup (ds.take k) l || decide (d.nm = l)) := by
  obtain ⟨hk, rfl⟩ := List.getElem?_eq_some_iff.1 h
  unfold dup
  rw [List.take_succ_eq_append_getElem hk, List.any_append]
  simp

theorem dup_some {ds : List D3} {k : Nat} {d : D3} {l : List Int} (h : ds[k]? = some d) (e : d.nm = l) : dup ds l = true := by
  unfold dup
  rw [List.any_eq_true]
  exact ⟨d, List.mem_of_getElem? h, by simp [e]⟩

theorem DRow.take {w : World} {a : Option Addr} {n i : Nat} {ds : List D3} (h : DRow w a n ds) (hi : i ≤ n) : DRow w a i (ds.take i) := by
  obtain ⟨hl, l, hr, hd⟩ := h
  refine ⟨by rw [List.length_take, hl, Nat.min_eq_left hi], l.take i, ⟨by rw [List.length_take, hr.1, Nat.min_eq_left hi], fun hp => ?_⟩, fun j r d h1 h2 => ?_⟩
  · obtain ⟨b, off, e, hc⟩ := hr.2 (by omega)
    refine ⟨b, off, e, fun k v hv => hc k v ?_⟩
    have := flat3_append (l.take i) (l.drop i)
    rw [List.take_append_drop] at this
    rw [this, List.getElem?_append_left (List.getElem?_eq_some_iff.1 hv).1]
    exact hv
  · have g1 : j < i := by have := (List.getElem?_eq_some_iff.1 h1).1; simp at this; omega
    rw [List.getElem?_take, if_pos g1] at h1 h2
    exact hd j r d h1 h2
end Go.Proofs.Ytefciaeajlgheaa

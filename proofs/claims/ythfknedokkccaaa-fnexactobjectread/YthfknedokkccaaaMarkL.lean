/- Marks over records: as data, and who owns what behind them. No function is walked here. -/
import Derived.Test.YthfknedokkccaaaObj
import Derived.Test.YthfknedokkccaaaBytes
namespace Go.Proofs.Ythfknedokkccaaa
open Go.RowKit
set_option linter.unusedVariables false

def Fd.wt : Fd → Nat
  | .b l => l.length
  | .n _ => 1
def Fd.mk (k : Nat) : Fd → Fd
  | .b l => .b (marks k l.length)
  | .n _ => .n (k : Int)
def D3.wt (d : D3) : Nat := d.x.wt + d.y.wt + d.z.wt
def D3.mark (k : Nat) (d : D3) : D3 := ⟨d.x.mk k, d.y.mk (k + d.x.wt), d.z.mk (k + d.x.wt + d.y.wt)⟩
def wsum : List D3 → Nat
  | [] => 0
  | d :: l => d.wt + wsum l
def markL (k : Nat) : List D3 → List D3
  | [] => []
  | d :: l => d.mark k :: markL (k + d.wt) l

theorem markL_len (k : Nat) (ds : List D3) : (markL k ds).length = ds.length := by
  induction ds generalizing k with
  | nil => rfl
  | cons d l ih => simp [markL, ih]

theorem wsum_append (l m : List D3) : wsum (l ++ m) = wsum l + wsum m := by
  induction l with
  | nil => simp [wsum]
  | cons x l ih => simp [wsum, ih]; omega

theorem wsum_next {ds : List D3} {j : Nat} {d : D3} (h : ds[j]? = some d) : wsum (ds.take (j + 1)) = wsum (ds.take j) + d.wt := by
  obtain ⟨hk, rfl⟩ := List.getElem?_eq_some_iff.1 h
  rw [List.take_succ_eq_append_getElem hk, wsum_append]
  simp [wsum]

theorem wsum_take (ds : List D3) (k : Nat) : wsum (ds.take k) ≤ wsum ds := by
  have := wsum_append (ds.take k) (ds.drop k)
  rw [List.take_append_drop] at this
  omega

theorem markL_at {ds : List D3} {j : Nat} {d : D3} (k : Nat) (h : ds[j]? = some d) : (markL k ds)[j]? = some (d.mark (k + wsum (ds.take j))) := by
  induction ds generalizing j k with
  | nil => simp at h
  | cons x l ih =>
    cases j with
    | zero => simp only [List.getElem?_cons_zero, Option.some.injEq] at h; subst h; simp [markL, wsum]
    | succ j =>
      rw [List.getElem?_cons_succ] at h
      simp only [markL, List.getElem?_cons_succ, List.take_succ_cons, wsum]
      rw [ih (k + x.wt) h]
      congr 2
      omega

theorem marks_step (k : Nat) (ds : List D3) (j : Nat) (d : D3) (h : ds[j]? = some d) : ((markL k ds).take j ++ ds.drop j).set j (d.mark (k + wsum (ds.take j))) = (markL k ds).take (j + 1) ++ ds.drop (j + 1) := by
  obtain ⟨hj, rfl⟩ := List.getElem?_eq_some_iff.1 h
  have hm : j < (markL k ds).length := by rw [markL_len]; exact hj
  have e : ds.drop j = ds[j] :: ds.drop (j + 1) := by rw [List.drop_eq_getElem_cons hj]
  have e2 : (markL k ds).take (j + 1) = (markL k ds).take j ++ [ds[j].mark (k + wsum (ds.take j))] := by
    rw [List.take_succ_eq_append_getElem hm]
    have := markL_at k h
    rw [List.getElem?_eq_getElem hm] at this
    rw [Option.some.inj this]
  have hl : ((markL k ds).take j).length = j := by rw [List.length_take, markL_len, Nat.min_eq_left (Nat.le_of_lt hj)]
  rw [List.set_append_right _ _ (by omega), hl, Nat.sub_self, e, List.set_cons_zero, e2]
  simp

/-- One record turned, in memory of its own: the row's cells and what the record itself owns. -/
theorem DOwn.turn {w w' : World} {T base n g cap j : Nat} {l : List R3} {ds : List D3} {r : R3} {d : D3} (h : DOwn w T base (.slice (some ⟨g, 0, none⟩) n cap) n l ds) (hj : j < n)
    (hrow : w'.ownsRow base T 3 (.slice (some ⟨g, 0, none⟩) n cap) n (flat3 (l.set j r))) (hr : Hs w' base r d)
    (hkeep : ∀ (i : Nat) (r' : R3) (d' : D3), i ≠ j → l[i]? = some r' → ds[i]? = some d' → Hs w' base r' d') :
    DOwn w' T base (.slice (some ⟨g, 0, none⟩) n cap) n (l.set j r) (ds.set j d) := by
  refine ⟨hrow, by rw [List.length_set, h.len], by rw [List.length_set, h.lend], fun i r' d' h1 h2 => ?_⟩
  by_cases e : i = j
  · subst e
    rw [List.getElem?_set_self (by rw [h.len]; exact hj)] at h1
    rw [List.getElem?_set_self (by rw [h.lend]; exact hj)] at h2
    obtain rfl := Option.some.inj h1
    obtain rfl := Option.some.inj h2
    exact hr
  · rw [List.getElem?_set_ne (Ne.symm e)] at h1
    rw [List.getElem?_set_ne (Ne.symm e)] at h2
    exact hkeep i r' d' e h1 h2

/-- Blocks that are not among these stay. -/
structure KeepO (bs : List (Option Nat)) (w w' : World) : Prop where
  os : w'.os = w.os
  tape : w'.tape = w.tape
  output : w'.output = w.output
  size : w.heap.size ≤ w'.heap.size
  block : ∀ g, g < w.heap.size → some g ∉ bs → w'.heap[g]? = w.heap[g]?

theorem KeepO.refl (os : List (Option Nat)) (w : World) : KeepO os w w := ⟨rfl, rfl, rfl, Nat.le_refl _, fun _ _ _ => rfl⟩
theorem KeepO.trans {os : List (Option Nat)} {a b c : World} (h : KeepO os a b) (k : KeepO os b c) : KeepO os a c :=
  ⟨k.os.trans h.os, k.tape.trans h.tape, k.output.trans h.output, Nat.le_trans h.size k.size, fun g h1 h2 => (k.block g (Nat.lt_of_lt_of_le h1 h.size) h2).trans (h.block g h1 h2)⟩
theorem KeepO.of {os : List (Option Nat)} {w w' : World} {row : Option Nat} (h : w.grownBy w' row) (hr : row ∈ os) : KeepO os w w' :=
  ⟨h.os, h.tape, h.output, h.size, fun g h1 h2 => h.block g h1 (fun e => h2 (by rw [e]; exact hr))⟩
theorem KeepO.more {os os' : List (Option Nat)} {w w' : World} (h : KeepO os w w') (hs : ∀ o ∈ os, o ∈ os') : KeepO os' w w' :=
  ⟨h.os, h.tape, h.output, h.size, fun g h1 h2 => h.block g h1 (fun e => h2 (hs _ e))⟩
theorem KeepO.below {os : List (Option Nat)} {w w' : World} {B : Nat} (h : KeepO os w w') (hB : ∀ k, some k ∈ os → B ≤ k) (hs : B ≤ w.heap.size) : Below B w w' :=
  ⟨h.os, h.tape, h.output, h.size, fun k hk => h.block k (by omega) (fun e => by have := hB k e; omega)⟩

/-- What two records own is unlike. -/
theorem owners_apart {l : List R3} (h : (owners l).Pairwise (fun a b => a = none ∨ a ≠ b)) {i j : Nat} {r s : R3} (hi : l[i]? = some r) (hj : l[j]? = some s) (hne : i ≠ j) : ∀ o ∈ r.owns, ∀ q ∈ s.owns, o = none ∨ o ≠ q := by
  induction l generalizing i j with
  | nil => simp at hi
  | cons x l ih =>
    have hp := List.pairwise_append.1 (show (x.owns ++ owners l).Pairwise _ from h)
    cases i with
    | zero =>
      cases j with
      | zero => exact absurd rfl hne
      | succ j =>
        simp only [List.getElem?_cons_zero, Option.some.injEq] at hi
        rw [List.getElem?_cons_succ] at hj
        subst hi
        intro o ho q hq
        exact hp.2.2 o ho q (owners_mem hj hq)
    | succ i =>
      cases j with
      | zero =>
        simp only [List.getElem?_cons_zero, Option.some.injEq] at hj
        rw [List.getElem?_cons_succ] at hi
        subst hj
        intro o ho q hq
        rcases hp.2.2 q hq o (owners_mem hi ho) with h1 | h1
        · by_cases e : o = none
          · exact .inl e
          · exact .inr (by rw [h1]; exact e)
        · exact .inr (Ne.symm h1)
      | succ j =>
        rw [List.getElem?_cons_succ] at hi hj
        exact ih hp.2.1 hi hj (by omega)

/-- A record that is not the one turned stays, when a block of that one grows and its row is written. -/
theorem Hs.kept {w w' : World} {base : Nat} {r : R3} {d : D3} {row : Option Nat} (h : Hs w base r d) (hg : w.grownBy w' row) (hne : ∀ o ∈ r.owns, o = none ∨ o ≠ row) : Hs w' base r d :=
  ⟨h.1.kept hg (hne _ (by simp [R3.owns])), h.2.1.kept hg (hne _ (by simp [R3.owns])), h.2.2.kept hg (hne _ (by simp [R3.owns]))⟩
end Go.Proofs.Ythfknedokkccaaa

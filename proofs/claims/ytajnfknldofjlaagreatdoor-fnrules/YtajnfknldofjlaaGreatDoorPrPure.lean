/- Texts of modules, as plain functions of the trees. No function is walked here. -/
import Derived.Test.YtajnfknldofjlaaGreatDoorPage
namespace Go.Proofs.YtajnfknldofjlaaGreatDoor
open Go.RowKit
set_option linter.unusedVariables false
set_option linter.unusedSimpArgs false

def numI (n : Int) : List Int := (Lib.itoa n).map fun b => (b.toNat : Int)
def opI (n : Int) : List Int := if n = 0 then [43] else if n = 1 then [45] else if n = 2 then [42] else if n = 3 then [47] else if n = 4 then [60] else [61]

/-- One behind the other, with this between. -/
def joinI (s : List Int) : List (List Int) → List Int
  | [] => []
  | [x] => x
  | x :: y :: l => x ++ s ++ joinI s (y :: l)

/-- What a kind of expression is written as, its Kids' texts being ts. -/
def exText (k n : Int) (mod name : List Int) (ts : List (List Int)) : List Int :=
  if k = 0 then numI n ++ [32]
  else if k = 1 then name ++ [32]
  else if k = 2 then name ++ [32] ++ [91, 32] ++ ts[0]?.getD [] ++ [93, 32]
  else if k = 3 then [40, 32] ++ ts[0]?.getD [] ++ (opI n ++ [32]) ++ ts[1]?.getD [] ++ [41, 32]
  else if k = 4 then [73, 78, 32]
  else if k = 5 then [76, 69, 78, 32] ++ (name ++ [32])
  else if k = 6 then (if mod.length = 0 then [] else mod ++ [32] ++ [46, 32]) ++ (name ++ [32]) ++ ([40, 32] ++ joinI [44, 32] ts ++ [41, 32])
  else [64, 32] ++ (name ++ [32])

mutual
def prE : Ex → List Int
  | .mk k n m a ks => exText k n m a (prEs ks)
def prEs : List Ex → List (List Int)
  | [] => []
  | e :: l => prE e :: prEs l
end
theorem prEs_map (l : List Ex) : prEs l = l.map prE := by
  induction l with
  | nil => rfl
  | cons x l ih => simp [prEs, ih]

/-- What a kind of statement is written as. -/
def stText (k n : Int) (name : List Int) (ts : List (List Int)) (body els : List Int) : List Int :=
  if k = 0 then name ++ [32] ++ [58, 61, 32] ++ ts[0]?.getD [] ++ [59, 10]
  else if k = 1 then name ++ [32] ++ [91, 32] ++ ts[0]?.getD [] ++ [93, 32] ++ [58, 61, 32] ++ ts[1]?.getD [] ++ [59, 10]
  else if k = 2 then [73, 70, 32] ++ ts[0]?.getD [] ++ [84, 72, 69, 78, 10] ++ body ++ [69, 76, 83, 69, 10] ++ els ++ [69, 78, 68, 32] ++ [59, 10]
  else if k = 3 then [87, 72, 73, 76, 69, 32] ++ ts[0]?.getD [] ++ [68, 79, 10] ++ body ++ [69, 78, 68, 32] ++ [59, 10]
  else if k = 4 then [82, 69, 84, 85, 82, 78, 32] ++ ts[0]?.getD [] ++ [59, 10]
  else if k = 5 then [79, 85, 84, 32] ++ ts[0]?.getD [] ++ [59, 10]
  else if k = 6 then [84, 82, 65, 80, 32] ++ (numI n ++ [32]) ++ [59, 10]
  else [67, 65, 76, 76, 32] ++ ts[0]?.getD [] ++ [59, 10]

mutual
def prS : St → List Int
  | .mk k n a ks bs es => stText k n a (prEs ks) (prB bs) (prB es)
def prB : List St → List Int
  | [] => []
  | s :: l => prS s ++ prB l
end

def prVar (v : Va) : List Int := [86, 65, 82, 32] ++ (v.name ++ [32]) ++ (if 0 < v.size then [91, 32] ++ (numI v.size ++ [32]) ++ [93, 32] else []) ++ [59, 10]
def prPa (a : Pa) : List Int := (if a.arr then [64, 32] else []) ++ (a.name ++ [32])
def prLocal (x : List Int) : List Int := [86, 65, 82, 32] ++ (x ++ [32]) ++ [59, 10]
def prUse (x : List Int) : List Int := [73, 77, 80, 79, 82, 84, 32] ++ (x ++ [32]) ++ [59, 10]
def prProc (q : Pr) : List Int := [80, 82, 79, 67, 32] ++ (q.name ++ [32]) ++ (if q.opn then [42, 32] else []) ++ ([40, 32] ++ joinI [44, 32] (q.params.map prPa) ++ [41, 32]) ++ [59, 10] ++ q.locals.flatMap prLocal ++ [66, 69, 71, 73, 78, 10] ++ prB q.body ++ ([69, 78, 68, 32] ++ [59, 10])
def prM (m : Mo) : List Int := [77, 79, 68, 85, 76, 69, 32] ++ (m.name ++ [32]) ++ [59, 10] ++ m.uses.flatMap prUse ++ m.vars.flatMap prVar ++ m.procs.flatMap prProc ++ [69, 78, 68, 32] ++ [46, 10]

theorem sI_nums {l : List Int} (h : ∀ x ∈ l, 0 ≤ x ∧ x ≤ 255) : sI (strOfNums l) = l := by
  unfold sI
  rw [strOfNums_data]
  simp only [List.map_map]
  apply List.ext_getElem
  · simp
  · intro i h1 h2
    have hb := h _ (List.getElem_mem h2)
    simp only [List.getElem_map, Function.comp_apply, UInt8.toNat_ofNat']
    omega

theorem beh_of {l : List Int} (h : ∀ x ∈ l, 0 ≤ x ∧ x ≤ 255) (hn : l ∉ lits.map fun t => t.map fun b => ((b.toNat : Nat) : Int)) : behI (strOfNums l) = 32 := by
  unfold behI
  rw [if_neg]
  intro hm
  apply hn
  have := List.mem_map_of_mem (f := fun t : List UInt8 => t.map fun b => ((b.toNat : Nat) : Int)) hm
  rw [ByteArray.toList_eq] at this
  have e := sI_nums h
  unfold sI at e
  rw [e] at this
  exact this

theorem beh_name {l : List Int} {g : Bool} (hb : ∀ x ∈ l, 0 ≤ x ∧ x ≤ 255) (h : nameOk l g = true) : behI (strOfNums l) = 32 := by
  refine beh_of hb fun hm => ?_
  simp only [lits, List.map_cons, List.map_nil, List.mem_cons, List.not_mem_nil, or_false] at hm
  have key : ∀ x : List Int, nameOk x true = false → nameOk x false = false → l = x → False := fun x h1 h2 e => by
    subst e
    cases g
    · rw [h2] at h; cases h
    · rw [h1] at h; cases h
  rcases hm with e | e | e | e | e
  · exact key _ (by decide) (by decide) e
  · exact key _ (by decide) (by decide) e
  · exact key _ (by decide) (by decide) e
  · exact key _ (by decide) (by decide) e
  · exact key _ (by decide) (by decide) e

theorem put_name {l : List Int} {g : Bool} (hb : ∀ x ∈ l, 0 ≤ x ∧ x ≤ 255) (h : nameOk l g = true) : putT (strOfNums l) = l ++ [32] := by
  unfold putT; rw [sI_nums hb, beh_name hb h]

theorem dec_le (u : Nat) : ∀ b ∈ Lib.decDigits u, b.toNat ≤ 57 := by
  induction u using Nat.strongRecOn with
  | _ u ih =>
    intro b hb
    rw [Lib.decDigits] at hb
    split at hb
    · simp only [List.mem_singleton] at hb
      subst hb
      rw [UInt8.toNat_ofNat']; omega
    · rcases List.mem_append.1 hb with h | h
      · exact ih (u / 10) (by omega) b h
      · simp only [List.mem_singleton] at h
        subst h
        rw [UInt8.toNat_ofNat']; omega
theorem dec_len : ∀ (k u : Nat), u < 10 ^ (k + 1) → (Lib.decDigits u).length ≤ k + 1 := by
  intro k
  induction k with
  | zero => intro u h; rw [Lib.decDigits, dif_pos (by omega)]; simp
  | succ k ih =>
    intro u h
    rw [Lib.decDigits]
    split
    · simp
    · have := ih (u / 10) (by rw [Nat.pow_succ] at h; omega)
      simp only [List.length_append, List.length_singleton]; omega
theorem itoa_le (n : Int) : ∀ b ∈ Lib.itoa n, b.toNat ≤ 57 := by
  intro b hb
  unfold Lib.itoa at hb
  split at hb
  · rcases List.mem_cons.1 hb with h | h
    · subst h; decide
    · exact dec_le _ b h
  · exact dec_le _ b hb
theorem num_len {n : Int} (h0 : -9223372036854775808 ≤ n) (h1 : n ≤ 9223372036854775807) : (numI n).length ≤ 21 := by
  unfold numI Lib.itoa
  rw [List.length_map]
  split
  · have := dec_len 19 n.natAbs (by omega)
    simp only [List.length_cons]; omega
  · have := dec_len 19 n.toNat (by omega)
    omega
theorem put_num (n : Int) : putT ⟨(Lib.itoa n).toArray⟩ = numI n ++ [32] := by
  unfold putT numI sI
  congr 1
  unfold behI
  rw [if_neg]
  rw [ByteArray.toList_eq]
  intro hm
  have hle := itoa_le n
  simp only [lits, List.mem_cons, List.not_mem_nil, or_false] at hm
  rcases hm with e | e | e | e | e
  · rw [e] at hle; exact absurd (hle 59 (by simp)) (by decide)
  · rw [e] at hle; exact absurd (hle 66 (by simp)) (by decide)
  · rw [e] at hle; exact absurd (hle 84 (by simp)) (by decide)
  · rw [e] at hle; exact absurd (hle 69 (by simp)) (by decide)
  · rw [e] at hle; exact absurd (hle 68 (by simp)) (by decide)
end Go.Proofs.YtajnfknldofjlaaGreatDoor

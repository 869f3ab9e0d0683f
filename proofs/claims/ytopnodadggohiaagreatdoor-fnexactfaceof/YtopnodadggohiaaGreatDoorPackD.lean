import Derived.Test.YtopnodadggohiaaGreatDoorPage
import Derived.Lib.AppendIntMem
/- Texts of modules, as plain functions of the trees. No function is walked here. -/
namespace Go.Proofs.YtopnodadggohiaaGreatDoor
open Go.RowKit
set_option linter.unusedVariables false
set_option linter.unusedSimpArgs false

def numI (n : Int) : List Int := (Lib.itoa n).map fun b => (b.toNat : Int)
def opI (n : Int) : List Int := if n = 0 then [43] else if n = 1 then [45] else if n = 2 then [42] else if n = 3 then [47] else if n = 4 then [60] else [61]

/-- One behind the other, with this between. -/
def joinI (s : List Int) : List (List Int) → List Int
 | [] => []
 | [x] => x
 | x :: y :: l => x ++ s ++ joinI s (y :: l)

/-- What a kind of expression is written as, its Kids' texts being ts. -/
def exText (k n : Int) (mod name : List Int) (ts : List (List Int)) : List Int :=
 if k = 0 then numI n ++ [32]
 else if k = 1 then name ++ [32]
 else if k = 2 then name ++ [32] ++ [91, 32] ++ ts[0]?.getD [] ++ [93, 32]
 else if k = 3 then [40, 32] ++ ts[0]?.getD [] ++ (opI n ++ [32]) ++ ts[1]?.getD [] ++ [41, 32]
 else if k = 4 then [73, 78, 32]
 else if k = 5 then [76, 69, 78, 32] ++ (name ++ [32])
 else if k = 6 then (if mod.length = 0 then [] else mod ++ [32] ++ [46, 32]) ++ (name ++ [32]) ++ ([40, 32] ++ joinI [44, 32] ts ++ [41, 32])
 else [64, 32] ++ (name ++ [32])

mutual
def prE : Ex → List Int
 | .mk k n m a ks => exText k n m a (prEs ks)
def prEs : List Ex → List (List Int)
 | [] => []
 | e :: l => prE e :: prEs l
end
theorem prEs_map (l : List Ex) : prEs l = l.map prE := by
 induction l with
 | nil => rfl
 | cons x l ih => simp [prEs, ih]

/-- What a kind of statement is written as. -/
def stText (k n : Int) (name : List Int) (ts : List (List Int)) (body els : List Int) : List Int :=
 if k = 0 then name ++ [32] ++ [58, 61, 32] ++ ts[0]?.getD [] ++ [59, 10]
 else if k = 1 then name ++ [32] ++ [91, 32] ++ ts[0]?.getD [] ++ [93, 32] ++ [58, 61, 32] ++ ts[1]?.getD [] ++ [59, 10]
 else if k = 2 then [73, 70, 32] ++ ts[0]?.getD [] ++ [84, 72, 69, 78, 10] ++ body ++ [69, 76, 83, 69, 10] ++ els ++ [69, 78, 68, 32] ++ [59, 10]
 else if k = 3 then [87, 72, 73, 76, 69, 32] ++ ts[0]?.getD [] ++ [68, 79, 10] ++ body ++ [69, 78, 68, 32] ++ [59, 10]
 else if k = 4 then [82, 69, 84, 85, 82, 78, 32] ++ ts[0]?.getD [] ++ [59, 10]
 else if k = 5 then [79, 85, 84, 32] ++ ts[0]?.getD [] ++ [59, 10]
 else if k = 6 then [84, 82, 65, 80, 32] ++ (numI n ++ [32]) ++ [59, 10]
 else [67, 65, 76, 76, 32] ++ ts[0]?.getD [] ++ [59, 10]

mutual
def prS : St → List Int
 | .mk k n a ks bs es => stText k n a (prEs ks) (prB bs) (prB es)
def prB : List St → List Int
 | [] => []
 | s :: l => prS s ++ prB l
end

def prVar (v : Va) : List Int := [86, 65, 82, 32] ++ (v.name ++ [32]) ++ (if 0 < v.size then [91, 32] ++ (numI v.size ++ [32]) ++ [93, 32] else []) ++ [59, 10]
def prPa (a : Pa) : List Int := (if a.arr then [64, 32] else []) ++ (a.name ++ [32])
def prLocal (x : List Int) : List Int := [86, 65, 82, 32] ++ (x ++ [32]) ++ [59, 10]
def prUse (x : List Int) : List Int := [73, 77, 80, 79, 82, 84, 32] ++ (x ++ [32]) ++ [59, 10]
def prProc (q : Pr) : List Int := [80, 82, 79, 67, 32] ++ (q.name ++ [32]) ++ (if q.opn then [42, 32] else []) ++ ([40, 32] ++ joinI [44, 32] (q.params.map prPa) ++ [41, 32]) ++ [59, 10] ++ q.locals.flatMap prLocal ++ [66, 69, 71, 73, 78, 10] ++ prB q.body ++ ([69, 78, 68, 32] ++ [59, 10])
def prM (m : Mo) : List Int := [77, 79, 68, 85, 76, 69, 32] ++ (m.name ++ [32]) ++ [59, 10] ++ m.uses.flatMap prUse ++ m.vars.flatMap prVar ++ m.procs.flatMap prProc ++ [69, 78, 68, 32] ++ [46, 10]

theorem sI_nums {l : List Int} (h : ∀ x ∈ l, 0 ≤ x ∧ x ≤ 255) : sI (strOfNums l) = l := by
 unfold sI
 rw [strOfNums_data]
 simp only [List.map_map]
 apply List.ext_getElem
 ·
  simp
 ·
  intro i h1 h2
  have hb := h _ (List.getElem_mem h2)
  simp only [List.getElem_map, Function.comp_apply, UInt8.toNat_ofNat']
  omega

theorem beh_of {l : List Int} (h : ∀ x ∈ l, 0 ≤ x ∧ x ≤ 255) (hn : l ∉ lits.map fun t => t.map fun b => ((b.toNat : Nat) : Int)) : behI (strOfNums l) = 32 := by
 unfold behI
 rw [if_neg]
 intro hm
 apply hn
 have := List.mem_map_of_mem (f := fun t : List UInt8 => t.map fun b => ((b.toNat : Nat) : Int)) hm
 rw [ByteArray.toList_eq] at this
 have e := sI_nums h
 unfold sI at e
 rw [e] at this
 exact this

theorem beh_name {l : List Int} {g : Bool} (hb : ∀ x ∈ l, 0 ≤ x ∧ x ≤ 255) (h : nameOk l g = true) : behI (strOfNums l) = 32 := by
 refine beh_of hb fun hm => ?_
 simp only [lits, List.map_cons, List.map_nil, List.mem_cons, List.not_mem_nil, or_false] at hm
 have key : ∀ x : List Int, nameOk x true = false → nameOk x false = false → l = x → False := fun x h1 h2 e => by
  subst e
  cases g
  ·
   rw [h2] at h; cases h
  ·
   rw [h1] at h; cases h
 rcases hm with e | e | e | e | e
 ·
  exact key _ (by decide) (by decide) e
 ·
  exact key _ (by decide) (by decide) e
 ·
  exact key _ (by decide) (by decide) e
 ·
  exact key _ (by decide) (by decide) e
 ·
  exact key _ (by decide) (by decide) e

theorem put_name {l : List Int} {g : Bool} (hb : ∀ x ∈ l, 0 ≤ x ∧ x ≤ 255) (h : nameOk l g = true) : putT (strOfNums l) = l ++ [32] := by
 unfold putT; rw [sI_nums hb, beh_name hb h]

theorem dec_le (u : Nat) : ∀ b ∈ Lib.decDigits u, b.toNat ≤ 57 := by
 induction u using Nat.strongRecOn with
 | _ u ih =>
  intro b hb
  rw [Lib.decDigits] at hb
  split at hb
  ·
   simp only [List.mem_singleton] at hb
   subst hb
   rw [UInt8.toNat_ofNat']; omega
  ·
   rcases List.mem_append.1 hb with h | h
   ·
    exact ih (u / 10) (by omega) b h
   ·
    simp only [List.mem_singleton] at h
    subst h
    rw [UInt8.toNat_ofNat']; omega
theorem dec_len : ∀ (k u : Nat), u < 10 ^ (k + 1) → (Lib.decDigits u).length ≤ k + 1 := by
 intro k
 induction k with
 | zero => intro u h; rw [Lib.decDigits, dif_pos (by omega)]; simp
 | succ k ih =>
  intro u h
  rw [Lib.decDigits]
  split
  ·
   simp
  ·
   have := ih (u / 10) (by rw [Nat.pow_succ] at h; omega)
   simp only [List.length_append, List.length_singleton]; omega
theorem itoa_le (n : Int) : ∀ b ∈ Lib.itoa n, b.toNat ≤ 57 := by
 intro b hb
 unfold Lib.itoa at hb
 split at hb
 ·
  rcases List.mem_cons.1 hb with h | h
  ·
   subst h; decide
  ·
   exact dec_le _ b h
 ·
  exact dec_le _ b hb
theorem num_len {n : Int} (h0 : -9223372036854775808 ≤ n) (h1 : n ≤ 9223372036854775807) : (numI n).length ≤ 21 := by
 unfold numI Lib.itoa
 rw [List.length_map]
 split
 ·
  have := dec_len 19 n.natAbs (by omega)
  simp only [List.length_cons]; omega
 ·
  have := dec_len 19 n.toNat (by omega)
  omega
theorem put_num (n : Int) : putT ⟨(Lib.itoa n).toArray⟩ = numI n ++ [32] := by
 unfold putT numI sI
 congr 1
 unfold behI
 rw [if_neg]
 rw [ByteArray.toList_eq]
 intro hm
 have hle := itoa_le n
 simp only [lits, List.mem_cons, List.not_mem_nil, or_false] at hm
 rcases hm with e | e | e | e | e
 ·
  rw [e] at hle; exact absurd (hle 59 (by simp)) (by decide)
 ·
  rw [e] at hle; exact absurd (hle 66 (by simp)) (by decide)
 ·
  rw [e] at hle; exact absurd (hle 84 (by simp)) (by decide)
 ·
  rw [e] at hle; exact absurd (hle 69 (by simp)) (by decide)
 ·
  rw [e] at hle; exact absurd (hle 68 (by simp)) (by decide)
end Go.Proofs.YtopnodadggohiaaGreatDoor

/- Words of the forms, and tokens' texts. By mkprex.py. -/
namespace Go.Proofs.YtopnodadggohiaaGreatDoor
open Go.RowKit
set_option linter.unusedVariables false
set_option linter.unusedSimpArgs false
set_option maxRecDepth 100000

theorem exW0 : (exF 0).words = [[110, 117, 109]] := by decide
theorem exW1 : (exF 1).words = [[110, 97, 109, 101]] := by decide
theorem exW2 : (exF 2).words = [[110, 97, 109, 101], [91], [107, 105, 100], [93]] := by decide
theorem exW3 : (exF 3).words = [[40], [107, 105, 100], [111, 112], [107, 105, 100], [41]] := by decide
theorem exW4 : (exF 4).words = [[73, 78]] := by decide
theorem exW5 : (exF 5).words = [[76, 69, 78], [110, 97, 109, 101]] := by decide
theorem exW6 : (exF 6).words = [[109, 111, 100], [110, 97, 109, 101], [97, 114, 103, 115]] := by decide
theorem exW7 : (exF 7).words = [[64], [110, 97, 109, 101]] := by decide
theorem stW0 : (stF 0).words = [[110, 97, 109, 101], [58, 61], [107, 105, 100], [59]] := by decide
theorem stW1 : (stF 1).words = [[110, 97, 109, 101], [91], [107, 105, 100], [93], [58, 61], [107, 105, 100], [59]] := by decide
theorem stW2 : (stF 2).words = [[73, 70], [107, 105, 100], [84, 72, 69, 78], [98, 111, 100, 121], [69, 76, 83, 69], [101, 108, 115, 101], [69, 78, 68], [59]] := by decide
theorem stW3 : (stF 3).words = [[87, 72, 73, 76, 69], [107, 105, 100], [68, 79], [98, 111, 100, 121], [69, 78, 68], [59]] := by decide
theorem stW4 : (stF 4).words = [[82, 69, 84, 85, 82, 78], [107, 105, 100], [59]] := by decide
theorem stW5 : (stF 5).words = [[79, 85, 84], [107, 105, 100], [59]] := by decide
theorem stW6 : (stF 6).words = [[84, 82, 65, 80], [110, 117, 109], [59]] := by decide
theorem stW7 : (stF 7).words = [[67, 65, 76, 76], [99, 97, 108, 108], [59]] := by decide
theorem put_91 : putAll [⟨#[91]⟩] = [91, 32] := by simp [putAll, putT, sI, behI, lits, ByteArray.toList_eq]
theorem put_93 : putAll [⟨#[93]⟩] = [93, 32] := by simp [putAll, putT, sI, behI, lits, ByteArray.toList_eq]
theorem put_40 : putAll [⟨#[40]⟩] = [40, 32] := by simp [putAll, putT, sI, behI, lits, ByteArray.toList_eq]
theorem put_41 : putAll [⟨#[41]⟩] = [41, 32] := by simp [putAll, putT, sI, behI, lits, ByteArray.toList_eq]
theorem put_73_78 : putAll [⟨#[73, 78]⟩] = [73, 78, 32] := by simp [putAll, putT, sI, behI, lits, ByteArray.toList_eq]
theorem put_76_69_78 : putAll [⟨#[76, 69, 78]⟩] = [76, 69, 78, 32] := by simp [putAll, putT, sI, behI, lits, ByteArray.toList_eq]
theorem put_64 : putAll [⟨#[64]⟩] = [64, 32] := by simp [putAll, putT, sI, behI, lits, ByteArray.toList_eq]
theorem put_58_61 : putAll [⟨#[58, 61]⟩] = [58, 61, 32] := by simp [putAll, putT, sI, behI, lits, ByteArray.toList_eq]
theorem put_59 : putAll [⟨#[59]⟩] = [59, 10] := by simp [putAll, putT, sI, behI, lits, ByteArray.toList_eq]
theorem put_73_70 : putAll [⟨#[73, 70]⟩] = [73, 70, 32] := by simp [putAll, putT, sI, behI, lits, ByteArray.toList_eq]
theorem put_84_72_69_78 : putAll [⟨#[84, 72, 69, 78]⟩] = [84, 72, 69, 78, 10] := by simp [putAll, putT, sI, behI, lits, ByteArray.toList_eq]
theorem put_69_76_83_69 : putAll [⟨#[69, 76, 83, 69]⟩] = [69, 76, 83, 69, 10] := by simp [putAll, putT, sI, behI, lits, ByteArray.toList_eq]
theorem put_69_78_68 : putAll [⟨#[69, 78, 68]⟩] = [69, 78, 68, 32] := by simp [putAll, putT, sI, behI, lits, ByteArray.toList_eq]
theorem put_87_72_73_76_69 : putAll [⟨#[87, 72, 73, 76, 69]⟩] = [87, 72, 73, 76, 69, 32] := by simp [putAll, putT, sI, behI, lits, ByteArray.toList_eq]
theorem put_68_79 : putAll [⟨#[68, 79]⟩] = [68, 79, 10] := by simp [putAll, putT, sI, behI, lits, ByteArray.toList_eq]
theorem put_82_69_84_85_82_78 : putAll [⟨#[82, 69, 84, 85, 82, 78]⟩] = [82, 69, 84, 85, 82, 78, 32] := by simp [putAll, putT, sI, behI, lits, ByteArray.toList_eq]
theorem put_79_85_84 : putAll [⟨#[79, 85, 84]⟩] = [79, 85, 84, 32] := by simp [putAll, putT, sI, behI, lits, ByteArray.toList_eq]
theorem put_84_82_65_80 : putAll [⟨#[84, 82, 65, 80]⟩] = [84, 82, 65, 80, 32] := by simp [putAll, putT, sI, behI, lits, ByteArray.toList_eq]
theorem put_67_65_76_76 : putAll [⟨#[67, 65, 76, 76]⟩] = [67, 65, 76, 76, 32] := by simp [putAll, putT, sI, behI, lits, ByteArray.toList_eq]
theorem put_46 : putAll [⟨#[46]⟩] = [46, 32] := by simp [putAll, putT, sI, behI, lits, ByteArray.toList_eq]
theorem put_44 : putAll [⟨#[44]⟩] = [44, 32] := by simp [putAll, putT, sI, behI, lits, ByteArray.toList_eq]
theorem put_43 : putAll [⟨#[43]⟩] = [43, 32] := by simp [putAll, putT, sI, behI, lits, ByteArray.toList_eq]
theorem put_45 : putAll [⟨#[45]⟩] = [45, 32] := by simp [putAll, putT, sI, behI, lits, ByteArray.toList_eq]
theorem put_42 : putAll [⟨#[42]⟩] = [42, 32] := by simp [putAll, putT, sI, behI, lits, ByteArray.toList_eq]
theorem put_47 : putAll [⟨#[47]⟩] = [47, 32] := by simp [putAll, putT, sI, behI, lits, ByteArray.toList_eq]
theorem put_60 : putAll [⟨#[60]⟩] = [60, 32] := by simp [putAll, putT, sI, behI, lits, ByteArray.toList_eq]
theorem put_61 : putAll [⟨#[61]⟩] = [61, 32] := by simp [putAll, putT, sI, behI, lits, ByteArray.toList_eq]
theorem put_77_79_68_85_76_69 : putAll [⟨#[77, 79, 68, 85, 76, 69]⟩] = [77, 79, 68, 85, 76, 69, 32] := by simp [putAll, putT, sI, behI, lits, ByteArray.toList_eq]
theorem put_73_77_80_79_82_84 : putAll [⟨#[73, 77, 80, 79, 82, 84]⟩] = [73, 77, 80, 79, 82, 84, 32] := by simp [putAll, putT, sI, behI, lits, ByteArray.toList_eq]
theorem put_86_65_82 : putAll [⟨#[86, 65, 82]⟩] = [86, 65, 82, 32] := by simp [putAll, putT, sI, behI, lits, ByteArray.toList_eq]
theorem put_80_82_79_67 : putAll [⟨#[80, 82, 79, 67]⟩] = [80, 82, 79, 67, 32] := by simp [putAll, putT, sI, behI, lits, ByteArray.toList_eq]
theorem put_66_69_71_73_78 : putAll [⟨#[66, 69, 71, 73, 78]⟩] = [66, 69, 71, 73, 78, 10] := by simp [putAll, putT, sI, behI, lits, ByteArray.toList_eq]

theorem put_one_name {l : List Int} {g : Bool} (hb : ∀ x ∈ l, 0 ≤ x ∧ x ≤ 255) (h : nameOk l g = true) : putAll [strOfNums l] = l ++ [32] := by
 unfold putAll; rw [List.flatMap_singleton]; exact put_name hb h
theorem put_one_num (n : Int) : putAll [⟨(Lib.itoa n).toArray⟩] = numI n ++ [32] := by
 unfold putAll; rw [List.flatMap_singleton]; exact put_num n

theorem itoaC (n : Int) (h0 : -9223372036854775808 ≤ n) (h1 : n ≤ 9223372036854775807) (w : World) (ht : Tabs w) :
  Calls Tryz.prog 187 #[.int .i64 n] w fun e w' => e = .returned (.string ⟨(Lib.itoa n).toArray⟩) ∧ w.grownBy w' none := by
 refine (Tryz.strconv_Itoa n h0 h1 w ht.p10).mono ?_
 rintro e w' ⟨rfl, k, os, rfl⟩
 exact ⟨rfl, grown_below (Lib.below_grow w.heap.size w (Nat.le_refl _) k os) none⟩
end Go.Proofs.YtopnodadggohiaaGreatDoor

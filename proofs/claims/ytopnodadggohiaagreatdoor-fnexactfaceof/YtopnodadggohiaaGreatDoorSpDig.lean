/- Digits of ints and signs of operations, by the specification. -/
import Derived.Test.YtopnodadggohiaaGreatDoorPackD
namespace Go.Proofs.YtopnodadggohiaaGreatDoor
open Go.RowKit
set_option linter.unusedVariables false
set_option linter.unusedSimpArgs false
set_option maxRecDepth 100000

def Dig (n : Int) : Prop := ∀ w : World, Calls Tryz.prog 107 #[.int .i64 n] w fun e w' => ∃ v, e = .returned v ∧ Own w' w.heap.size v (numI n).length (numI n) ∧ w.grownBy w' none

theorem num_small {u : Nat} (h : u < 10) : numI u = [48 + (u : Int)] := by
 unfold numI Lib.itoa
 rw [if_neg (by omega), Int.toNat_natCast, Lib.decDigits, dif_pos h]
 simp only [List.map_cons, List.map_nil, UInt8.toNat_ofNat']
 congr 1
 omega
theorem num_big {u : Nat} (h : ¬ u < 10) : numI u = numI ((u / 10 : Nat) : Int) ++ [48 + ((u % 10 : Nat) : Int)] := by
 unfold numI Lib.itoa
 rw [if_neg (by omega), if_neg (by omega), Int.toNat_natCast, Int.toNat_natCast, Lib.decDigits, dif_neg h, List.map_append]
 simp only [List.map_cons, List.map_nil, UInt8.toNat_ofNat']
 congr 2
 omega
theorem num_neg {n : Int} (h : n < 0) : numI n = 45 :: numI (-n) := by
 unfold numI Lib.itoa
 rw [if_pos h, if_neg (by omega), show (-n).toNat = n.natAbs by omega]
 rfl

/-- What was there ahead of it all stays where only a row of one's own was written. -/
theorem grown_own {w wa wb wc : World} {v : Value} {n : Nat} {l : List Int} (h1 : w.grownBy wa none) (h2 : wa.grownBy wb none) (ho : Own wb w.heap.size v n l) (h3 : wb.grownBy wc v.ownBlock) : w.grownBy wc none := by
 have h12 := grown_trans h1 h2
 refine ⟨h3.os.trans h12.os, h3.tape.trans h12.tape, h3.output.trans h12.output, Nat.le_trans h12.size h3.size, fun k hk _ => ?_⟩
 refine (h3.block k (Nat.lt_of_lt_of_le hk h12.size) (fun e => ?_)).trans (h12.block k hk (by simp))
 have := (ho.1.lt k e.symm).1
 omega

theorem dig_small (u : Nat) (h : u < 10) : Dig u := by
 intro w
 have h1 : ¬ (u : Int) < 0 := by omega
 have h2 : (u : Int) < 10 := by omega
 have he : Hid (numI u = [48 + (u : Int)]) := num_small h
 clear h
 generalize (u : Int) = n at *
 have ho : Own (w.alloc (.cells #[.int .u8 (48 + n)] 5)) w.heap.size (.slice (some ⟨w.heap.size, 0, none⟩) 1 1) 1 [48 + n] := own_of_block (l := [48 + n]) (heap_alloc_new w _) (Nat.le_refl _) (by simp [maxLen]) (by simp; omega)
 have yy := grown_alloc w (.cells #[.int .u8 (48 + n)] 5) none
 go_enter Tryz.func107, Tryz.ntmps107
 go_wp2_with fail
 go_ret
 rw [he.out]
 exact ⟨_, rfl, ho, yy⟩

theorem dig_big (u : Nat) (h : ¬ u < 10) (hm : u < 9223372036854775808) (ih : Dig ((u / 10 : Nat) : Int)) : Dig u := by
 intro w
 have hl := num_len (n := ((u / 10 : Nat) : Int)) (by omega) (by omega)
 have h1 : ¬ (u : Int) < 0 := by omega
 have h2 : ¬ (u : Int) < 10 := by omega
 have he : Hid (numI u = numI ((u / 10 : Nat) : Int) ++ [48 + ((u % 10 : Nat) : Int)]) := num_big h
 have hd : Int.tdiv (u : Int) 10 = ((u / 10 : Nat) : Int) := by rw [Int.tdiv_eq_ediv_of_nonneg (by omega)]; omega
 have hm2 : Int.tmod (u : Int) 10 = ((u % 10 : Nat) : Int) := by rw [Int.tmod_eq_emod_of_nonneg (by omega)]; omega
 have r1 : ((u % 10 : Nat) : Int) < 10 := by omega
 have r0 : 0 ≤ ((u % 10 : Nat) : Int) := by omega
 have H := ih w
 have hb : (u : Int) ≤ 9223372036854775807 := by omega
 have hw : wrap64 ((u / 10 : Nat) : Int) = ((u / 10 : Nat) : Int) := by unfold wrap64; omega
 generalize ((u % 10 : Nat) : Int) = r at *
 generalize ((u / 10 : Nat) : Int) = q at *
 clear h hm ih
 generalize (u : Int) = n at *
 go_enter Tryz.func107, Tryz.ntmps107
 go_wp2_with fail
 refine H.mono ?_
 rintro e w1 ⟨v, rfl, ho, hg⟩
 obtain ⟨nq, hnq⟩ : ∃ z, z = (numI q).length := ⟨_, rfl⟩
 rw [← hnq] at ho hl
 have hlen : Hid ((numI q ++ [48 + r]).length = nq + 1) := by show _ = _; rw [List.length_append, ← hnq]; rfl
 clear hnq
 obtain ⟨a1, c1, rfl, _⟩ := ho.shape
 have hg2 := grown_alloc w1 (.cells #[.int .u8 (48 + r)] 5) none
 clear H
 go_wp2_with (at_builtin; refine wpList_appendB rfl _ _ rfl w.heap.size _ nq (numI q) rfl (ho.alloc _) _ 1 1 [48 + r] rfl (one_row w1 (48 + r) (by omega) (by omega)) (by simp) (by omega) (by have := hg.size; have := hg2.size; omega) ?_)
 intro v2 w2 ho2 hg3
 have hf : w.grownBy w2 none := grown_own hg hg2 (ho.alloc _) hg3
 clear hg hg2 hg3
 go_wp2_with fail
 go_ret
 rw [he.out, hlen.out]
 exact ⟨_, rfl, ho2, hf⟩

theorem dig_nat : ∀ (u : Nat), u < 9223372036854775808 → Dig u := by
 intro u
 induction u using Nat.strongRecOn with
 | _ u ih =>
  intro hu
  by_cases h : u < 10
  ·
   exact dig_small u h
  ·
   exact dig_big u h hu (ih (u / 10) (by omega) (by omega))

theorem dig_neg (n : Int) (h : n < 0) (hm : -9223372036854775808 < n) (ih : Dig (-n)) : Dig n := by
 intro w
 have hl := num_len (n := -n) (by omega) (by omega)
 have he : Hid (numI n = 45 :: numI (-n)) := num_neg h
 have H := ih (w.alloc (.cells #[.int .u8 45] 5))
 have ho : Own (w.alloc (.cells #[.int .u8 45] 5)) w.heap.size (.slice (some ⟨w.heap.size, 0, none⟩) 1 1) 1 [45] := own_of_block (l := [45]) (heap_alloc_new w _) (Nat.le_refl _) (by simp [maxLen]) (by simp)
 have yy := grown_alloc w (.cells #[.int .u8 45] 5) none
 have hw : wrap64 (-n) = -n := by unfold wrap64; omega
 clear ih
 go_enter Tryz.func107, Tryz.ntmps107
 go_wp2_with fail
 refine H.mono ?_
 rintro e w1 ⟨v, rfl, hod, hg⟩
 replace ho := ho.below (below_grown hg)
 generalize w.alloc (.cells #[.int .u8 45] 5) = wa at *
 obtain ⟨nq, hnq⟩ : ∃ z, z = (numI (-n)).length := ⟨_, rfl⟩
 rw [← hnq] at hod hl
 have hlen : Hid ((45 :: numI (-n)).length = 1 + nq) := by show _ = _; rw [List.length_cons, ← hnq]; omega
 clear hnq
 obtain ⟨a1, c1, rfl, hM⟩ := hod.made (below_grown hg)
 clear H
 go_wp2_with (at_builtin; refine wpList_appendB rfl _ _ rfl w.heap.size _ 1 [45] rfl ho a1 nq c1 (numI (-n)) rfl hM.row hM.nil (by omega) (by have := yy.size; have := hg.size; omega) ?_)
 intro v2 w2 ho2 hg3
 have hf : w.grownBy w2 none := grown_own yy hg ho hg3
 go_wp2_with fail
 go_ret
 rw [he.out, hlen.out]
 exact ⟨_, rfl, ho2, hf⟩

theorem dig (n : Int) (h0 : -9223372036854775808 < n) (h1 : n ≤ 9223372036854775807) : Dig n := by
 by_cases h : n < 0
 ·
  refine dig_neg n h h0 ?_
  have := dig_nat (-n).toNat (by omega)
  rwa [show (((-n).toNat : Nat) : Int) = -n by omega] at this
 ·
  have := dig_nat n.toNat (by omega)
  rwa [show ((n.toNat : Nat) : Int) = n by omega] at this

theorem l6opC (n : Int) (h : n = 0 ∨ n = 1 ∨ n = 2 ∨ n = 3 ∨ n = 4 ∨ n = 5) (w : World) :
  Calls Tryz.prog 180 #[.int .i64 n] w fun e w' => (∃ s, e = .returned (.string s) ∧ sI s = opI n) ∧ w.grownBy w' none := by
 have yy := grown_alloc w (.cells #[.string ⟨#[43]⟩, .string ⟨#[45]⟩, .string ⟨#[42]⟩, .string ⟨#[47]⟩, .string ⟨#[60]⟩, .string ⟨#[61]⟩] 9) none
 rcases h with rfl | rfl | rfl | rfl | rfl | rfl
 ·
  go_enter Tryz.func180, Tryz.ntmps180
  go_wp2_with fail
  go_ret
  exact ⟨⟨_, rfl, by decide⟩, yy⟩
 ·
  go_enter Tryz.func180, Tryz.ntmps180
  go_wp2_with fail
  go_ret
  exact ⟨⟨_, rfl, by decide⟩, yy⟩
 ·
  go_enter Tryz.func180, Tryz.ntmps180
  go_wp2_with fail
  go_ret
  exact ⟨⟨_, rfl, by decide⟩, yy⟩
 ·
  go_enter Tryz.func180, Tryz.ntmps180
  go_wp2_with fail
  go_ret
  exact ⟨⟨_, rfl, by decide⟩, yy⟩
 ·
  go_enter Tryz.func180, Tryz.ntmps180
  go_wp2_with fail
  go_ret
  exact ⟨⟨_, rfl, by decide⟩, yy⟩
 ·
  go_enter Tryz.func180, Tryz.ntmps180
  go_wp2_with fail
  go_ret
  exact ⟨⟨_, rfl, by decide⟩, yy⟩
end Go.Proofs.YtopnodadggohiaaGreatDoor

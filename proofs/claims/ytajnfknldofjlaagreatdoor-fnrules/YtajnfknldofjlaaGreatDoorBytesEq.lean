/- bytes.Equal and string(b): bytes are alike just if their strings are. -/
import Derived.Test.YtajnfknldofjlaaGreatDoorBase
import Derived.Laws.BytesArg
namespace Go.Proofs.YtajnfknldofjlaaGreatDoor
open Go.RowKit
set_option linter.unusedVariables false

theorem conv_bytes {w : World} {a : Option Addr} {n : Nat} {l : List Int} (c : Nat) (h : BRow w a n l) : (convert 22 9 (.slice a n c)).run Tryz.prog w = .ok (.string (strOfNums l)) w := by
  cases a with
  | none =>
    have hn : n = 0 := by
      rcases Nat.eq_zero_or_pos n with h0 | hp
      · exact h0
      · obtain ⟨b, off, e, _⟩ := h.2.2 hp; cases e
    have hl : l = [] := List.eq_nil_of_length_eq_zero (h.1.trans hn)
    rw [run_convert_bytes_nil (P := Tryz.prog) w 22 5 Tryz.underlying22 Tryz.underlying5 n c 9 Tryz.underlying9, hl]
    rfl
  | some ad =>
    rcases Nat.eq_zero_or_pos n with h0 | hp
    · have hl : l = [] := List.eq_nil_of_length_eq_zero (h.1.trans h0)
      subst h0
      rw [run_convert_bytes_string w 22 9 5 _ 0 c Tryz.underlying22 Tryz.underlying5 Tryz.underlying9, run_bytesToString w ad 0 c [] (by simpa using run_loadCells_list (P := Tryz.prog) w ad [] (by simp)), hl]
      rfl
    · obtain ⟨b, off, e, hc⟩ := h.2.2 hp
      cases e
      exact run_convert_bytes_arg (P := Tryz.prog) w 22 5 Tryz.underlying22 Tryz.underlying5 b off n c l h.1 (fun i hi => by rw [hc i hi]; simp [List.getD]) 9 Tryz.underlying9

theorem str_inj {l m : List Int} (hl : ∀ x ∈ l, 0 ≤ x ∧ x ≤ 255) (hm : ∀ x ∈ m, 0 ≤ x ∧ x ≤ 255) : strOfNums l = strOfNums m ↔ l = m := by
  refine ⟨fun h => ?_, fun h => by rw [h]⟩
  have e : l.map (fun n => UInt8.ofNat n.toNat) = m.map (fun n => UInt8.ofNat n.toNat) := by
    have := congrArg (fun s : ByteArray => s.data.toList) h
    simpa [strOfNums_data] using this
  have hlen : l.length = m.length := by simpa using congrArg List.length e
  apply List.ext_getElem hlen
  intro i h1 h2
  have := congrArg (fun s : List UInt8 => s[i]?) e
  simp only [List.getElem?_map, List.getElem?_eq_getElem h1, List.getElem?_eq_getElem h2, Option.map_some, Option.some.injEq] at this
  have b1 := hl _ (List.getElem_mem h1)
  have b2 := hm _ (List.getElem_mem h2)
  have t := congrArg UInt8.toNat this
  simp only [UInt8.toNat_ofNat'] at t
  omega

theorem str_beq {l m : List Int} (hl : ∀ x ∈ l, 0 ≤ x ∧ x ≤ 255) (hm : ∀ x ∈ m, 0 ≤ x ∧ x ≤ 255) : ((strOfNums l).toList == (strOfNums m).toList) = decide (l = m) := by
  rw [ByteArray.toList_eq, ByteArray.toList_eq]
  have h := str_inj hl hm
  by_cases e : l = m
  · subst e; simp
  · rw [decide_eq_false e]
    have : (strOfNums l).data.toList ≠ (strOfNums m).data.toList := fun k => e (h.1 (by
      cases hx : strOfNums l; cases hy : strOfNums m; rw [hx, hy] at k; simpa using k))
    simpa using this

theorem bytesEqualM (a1 : Option Addr) (n1 c1 : Nat) (l1 : List Int) (a2 : Option Addr) (n2 c2 : Nat) (l2 : List Int) (w : World) (h1 : BRow w a1 n1 l1) (h2 : BRow w a2 n2 l2) :
    Calls Tryz.prog 39 #[.slice a1 n1 c1, .slice a2 n2 c2] w fun e w' => e = .returned (.bool (decide (l1 = l2))) ∧ w' = w := by
  have k1 := conv_bytes c1 h1
  have k2 := conv_bytes c2 h2
  have hi : Hid (((strOfNums l1).toList == (strOfNums l2).toList) = decide (l1 = l2)) := str_beq h1.2.1 h2.2.1
  clear h1 h2
  go_enter Tryz.func39, Tryz.ntmps39
  go_wp2
  go_ret
  exact ⟨ret_bool hi.out, rfl⟩
end Go.Proofs.YtajnfknldofjlaaGreatDoor

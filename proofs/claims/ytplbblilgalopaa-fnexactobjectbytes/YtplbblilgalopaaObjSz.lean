/- Contracts of the laws' own helpers that count how large exports and imports are. -/
import Derived.Test.YtplbblilgalopaaRec3b
import Derived.Deep.Cut
import Derived.Deep.CutRange
namespace Go.Proofs.Ytplbblilgalopaa
open Go.RowKit
set_option linter.unusedVariables false
set_option maxRecDepth 100000

def Fd.len : Fd → Nat
  | .b l => l.length
  | .n _ => 0
def D3.len (d : D3) : Nat := d.x.len + d.y.len + d.z.len
def dsum : List D3 → Nat
  | [] => 0
  | d :: l => d.len + dsum l

theorem dsum_append (l m : List D3) : dsum (l ++ m) = dsum l + dsum m := by
  induction l with
  | nil => simp [dsum]
  | cons x l ih => simp [dsum, ih]; omega

theorem dsum_next {ds : List D3} {k : Nat} {d : D3} (h : ds[k]? = some d) : dsum (ds.take (k + 1)) = dsum (ds.take k) + d.len := by
  obtain ⟨hk, rfl⟩ := List.getElem?_eq_some_iff.1 h
  rw [List.take_succ_eq_append_getElem hk, dsum_append]
  simp [dsum]

theorem dsum_take (ds : List D3) (k : Nat) : dsum (ds.take k) ≤ dsum ds := by
  have := dsum_append (ds.take k) (ds.drop k)
  rw [List.take_append_drop] at this
  omega

theorem len_le_dsum {ds : List D3} {d : D3} (h : d ∈ ds) : d.len ≤ dsum ds := by
  induction ds with
  | nil => simp at h
  | cons x l ih =>
    rcases List.mem_cons.1 h with rfl | h
    · simp [dsum]
    · have := ih h; simp [dsum]; omega

/-- What is left. -/
def szL (left : Int) (n : Nat) : Int := if (n : Int) ≤ left then left - (n : Int) else -1

theorem szL_yes {left : Int} {n : Nat} (h : (n : Int) ≤ left) : szL left n = left - (n : Int) := if_pos h
theorem szL_no {left : Int} {n : Nat} (h : ¬ (n : Int) ≤ left) : szL left n = -1 := if_neg h

theorem szByteM (a : Option Addr) (n c : Nat) (k : Int) (w : World) (hk : 0 ≤ k) (hk2 : k ≤ 1048576) (hn : n ≤ 9223372036854775807) :
    Calls Try.prog 21 #[.slice a n c, .int .i64 k] w fun e w' => e = .returned (.int .i64 (szL k n)) ∧ w' = w := by
  by_cases h : (n : Int) ≤ k
  · rw [szL_yes h]
    have h' : ¬ (k - (n : Int) < 0) := by omega
    go_enter Try.func21, Try.ntmps21
    go_wp2
    go_ret
    exact ⟨rfl, rfl⟩
  · rw [szL_no h]
    have h' : k - (n : Int) < 0 := by omega
    go_enter Try.func21, Try.ntmps21
    go_wp2
    go_ret
    exact ⟨rfl, rfl⟩

theorem szExportM (a : Option Addr) (n c : Nat) (p q k : Int) (w : World) (hk : 0 ≤ k) (hk2 : k ≤ 1048576) (hn : n ≤ 9223372036854775807) :
    Calls Try.prog 51 #[.agg #[.slice a n c, .int .i64 p, .int .i64 q], .int .i64 k] w fun e w' => e = .returned (.int .i64 (szL k n)) ∧ Below w.heap.size w w' := by
  have H := fun w => szByteM a n c k w hk hk2 hn
  have hB : Below w.heap.size w (w.alloc (.cells #[.slice a n c, .int .i64 p, .int .i64 q] 84 (0, 0))) := (Below.refl _ _).alloc (Nat.le_refl _) _
  by_cases h : (n : Int) ≤ k
  · simp only [szL_yes h] at H ⊢
    have h' : ¬ (k - (n : Int) < 0) := by omega
    go_enter Try.func51, Try.ntmps51
    go_wp2_with fail
    refine (H _).mono ?_
    rintro e w1 ⟨rfl, rfl⟩
    go_wp2_with fail
    go_ret
    exact ⟨rfl, hB⟩
  · simp only [szL_no h] at H ⊢
    go_enter Try.func51, Try.ntmps51
    go_wp2_with fail
    refine (H _).mono ?_
    rintro e w1 ⟨rfl, rfl⟩
    go_wp2_with fail
    go_ret
    exact ⟨rfl, hB⟩

theorem szImportM (a : Option Addr) (n c : Nat) (a2 : Option Addr) (n2 c2 : Nat) (p k : Int) (w : World) (hk : 0 ≤ k) (hk2 : k ≤ 1048576) (hn : n ≤ 9223372036854775807) (hn2 : n2 ≤ 9223372036854775807) :
    Calls Try.prog 52 #[.agg #[.slice a n c, .slice a2 n2 c2, .int .i64 p], .int .i64 k] w fun e w' => e = .returned (.int .i64 (szL k (n + n2))) ∧ Below w.heap.size w w' := by
  have H := fun w => szByteM a n c k w hk hk2 hn
  have hB : Below w.heap.size w (w.alloc (.cells #[.slice a n c, .slice a2 n2 c2, .int .i64 p] 86 (0, 0))) := (Below.refl _ _).alloc (Nat.le_refl _) _
  by_cases h : (n : Int) ≤ k
  · have H2 := fun w => szByteM a2 n2 c2 (k - (n : Int)) w (by omega) (by omega) hn2
    simp only [szL_yes h] at H
    have h' : ¬ (k - (n : Int) < 0) := by omega
    by_cases h2 : (n2 : Int) ≤ k - (n : Int)
    · rw [szL_yes (show ((n + n2 : Nat) : Int) ≤ k by omega)]
      simp only [szL_yes h2] at H2
      have h3 : ¬ (k - (n : Int) - (n2 : Int) < 0) := by omega
      have HE : Hid (k - (n : Int) - (n2 : Int) = k - ((n + n2 : Nat) : Int)) := by show _ = _; omega
      go_enter Try.func52, Try.ntmps52
      go_wp2_with fail
      refine (H _).mono ?_
      rintro e w1 ⟨rfl, rfl⟩
      go_wp2_with fail
      refine (H2 _).mono ?_
      rintro e w1 ⟨rfl, rfl⟩
      go_wp2_with fail
      go_ret
      exact ⟨ret_int HE.out, hB⟩
    · rw [szL_no (show ¬ ((n + n2 : Nat) : Int) ≤ k by omega)]
      simp only [szL_no h2] at H2
      go_enter Try.func52, Try.ntmps52
      go_wp2_with fail
      refine (H _).mono ?_
      rintro e w1 ⟨rfl, rfl⟩
      go_wp2_with fail
      refine (H2 _).mono ?_
      rintro e w1 ⟨rfl, rfl⟩
      go_wp2_with fail
      go_ret
      exact ⟨rfl, hB⟩
  · rw [szL_no (show ¬ ((n + n2 : Nat) : Int) ≤ k by omega)]
    simp only [szL_no h] at H
    go_enter Try.func52, Try.ntmps52
    go_wp2_with fail
    refine (H _).mono ?_
    rintro e w1 ⟨rfl, rfl⟩
    go_wp2_with fail
    go_ret
    exact ⟨rfl, hB⟩

set_option maxHeartbeats 4000000 in
theorem szExportsM (a : Option Addr) (n c : Nat) (ds : List D3) (k : Int) (w : World) (h : DRow w a n ds) (hk : 0 ≤ k) (hk2 : k ≤ 1048576) (hn : n ≤ 9223372036854775807) (hd : ∀ d ∈ ds, ∃ l p q, d = (⟨.b l, .n p, .n q⟩ : D3)) :
    Calls Try.prog 22 #[.slice a n c, .int .i64 k] w fun e w' => e = .returned (.int .i64 (szL k (n + dsum ds))) ∧ Below w.heap.size w w' := by
  by_cases hnk : (n : Int) ≤ k
  · have h' : ¬ (k - (n : Int) < 0) := by omega
    have Hd : Hid (ds.length = n) := h.1
    have H : Hid (DRow w a n ds) := h
    have HD : Hid (∀ d ∈ ds, ∃ l p q, d = (⟨.b l, .n p, .n q⟩ : D3)) := hd
    clear hd
    rcases Nat.eq_zero_or_pos n with h0 | hpos
    · subst h0
      have e0 : ds = [] := List.eq_nil_of_length_eq_zero Hd.out
      subst e0
      rw [szL_yes (by simpa [dsum] using hk)]
      clear h
      have h1 : ¬ (k < 0) := by omega
      go_enter Try.func22, Try.ntmps22
      go_wp2_with fail
      refine wp_loop_rounds 1 ?_
      rw [rounds_succ]
      go_wp2_with fail
      go_ret
      exact ⟨ret_int (by simp [dsum]), Below.refl _ _⟩
    · obtain ⟨b, off, rfl⟩ := h.addr hpos
      clear h
      go_enter Try.func22, Try.ntmps22
      go_wp2_with fail
      go_loopw [1, 5] (fun r i wr => ∃ j : Nat, j ≤ n ∧ i = .int .i64 j ∧ ∃ rr : Int, r = .int .i64 rr ∧ 0 ≤ rr ∧ rr ≤ k ∧ Hid (rr = k - (n : Int) - (dsum (ds.take j) : Int)) ∧ Below w.heap.size w wr) (fun _ i _ => n - (intOf i).toNat)
      case atStart => exact ⟨0, Nat.zero_le _, rfl, k - (n : Int), rfl, by omega, by omega, by show _ = _; simp [dsum], Below.refl _ _⟩
      case round =>
        obtain ⟨j, hj, rfl, rr, rfl, hr0, hrk, hrr, hbr⟩ := hrel
        by_cases hlt : j < n
        · obtain ⟨⟨rx, ry, rz⟩, d, hdk, hR, q0, q1, q2⟩ := DRow.el (DRow.below (show DRow w (some ⟨b, off, none⟩) n ds from H.out) hbr) hlt
          have hnext := dsum_next hdk
          have htot := dsum_take ds (j + 1)
          obtain ⟨ll, p, q, rfl⟩ := HD.out d (List.mem_of_getElem? hdk)
          obtain ⟨⟨ax, cx, rfl, hbx, hxc, hxm, _⟩, rfl, rfl⟩ := hR
          unfold maxLen at hxm
          have HN : Hid _ := hnext
          have HT : Hid _ := htot
          clear hdk hnext htot
          have HC := fun w => szExportM ax ll.length cx p q rr w hr0 (by omega) (by omega)
          by_cases hx : ((ll.length : Nat) : Int) ≤ rr
          · simp only [szL_yes hx] at HC
            have hx' : ¬ (rr - ((ll.length : Nat) : Int) < 0) := by omega
            go_wp2_with fail
            refine (HC _).mono ?_
            rintro e w2 ⟨rfl, hb2⟩
            have hbw : Below w.heap.size w w2 := hbr.trans (hb2.mono hbr.size)
            clear q0 q1 q2 HC hb2
            go_wp2_with fail
            go_roundw
            case rel => exact ⟨j + 1, by omega, by go_num, _, rfl, by omega, by omega, by show _ = _; have := hrr.out; rw [HN.out, this]; simp only [D3.len, Fd.len]; omega, hbw⟩
            case measure => simp [intOf]; omega
          · simp only [szL_no hx] at HC
            go_wp2_with fail
            refine (HC _).mono ?_
            rintro e w2 ⟨rfl, hb2⟩
            have hbw : Below w.heap.size w w2 := hbr.trans (hb2.mono hbr.size)
            clear q0 q1 q2 HC hb2
            go_wp2_with fail
            go_ret
            have h1 := HN.out
            have h2 := HT.out
            have h3 := hrr.out
            rw [h1] at h2
            simp only [D3.len, Fd.len] at h2
            have hno : ¬ ((n + dsum ds : Nat) : Int) ≤ k := by omega
            exact ⟨ret_int (szL_no hno).symm, hbw⟩
        · have : j = n := by omega
          subst this
          go_wp2_with fail
          go_ret
          refine ⟨?_, hbr⟩
          have h3 := hrr.out
          rw [List.take_of_length_le (by rw [Hd.out]; exact Nat.le_refl _)] at h3
          rw [szL_yes (by omega)]
          exact ret_int (by omega)
  · rw [szL_no (by omega)]
    have h' : k - (n : Int) < 0 := by omega
    clear h hd
    go_enter Try.func22, Try.ntmps22
    go_wp2
    go_ret
    exact ⟨rfl, Below.refl _ _⟩

set_option maxHeartbeats 4000000 in
theorem szImportsM (a : Option Addr) (n c : Nat) (ds : List D3) (k : Int) (w : World) (h : DRow w a n ds) (hk : 0 ≤ k) (hk2 : k ≤ 1048576) (hn : n ≤ 9223372036854775807) (hd : ∀ d ∈ ds, ∃ l l2 p, d = (⟨.b l, .b l2, .n p⟩ : D3)) :
    Calls Try.prog 23 #[.slice a n c, .int .i64 k] w fun e w' => e = .returned (.int .i64 (szL k (n + dsum ds))) ∧ Below w.heap.size w w' := by
  by_cases hnk : (n : Int) ≤ k
  · have h' : ¬ (k - (n : Int) < 0) := by omega
    have Hd : Hid (ds.length = n) := h.1
    have H : Hid (DRow w a n ds) := h
    have HD : Hid (∀ d ∈ ds, ∃ l l2 p, d = (⟨.b l, .b l2, .n p⟩ : D3)) := hd
    clear hd
    rcases Nat.eq_zero_or_pos n with h0 | hpos
    · subst h0
      have e0 : ds = [] := List.eq_nil_of_length_eq_zero Hd.out
      subst e0
      rw [szL_yes (by simpa [dsum] using hk)]
      clear h
      have h1 : ¬ (k < 0) := by omega
      go_enter Try.func23, Try.ntmps23
      go_wp2_with fail
      refine wp_loop_rounds 1 ?_
      rw [rounds_succ]
      go_wp2_with fail
      go_ret
      exact ⟨ret_int (by simp [dsum]), Below.refl _ _⟩
    · obtain ⟨b, off, rfl⟩ := h.addr hpos
      clear h
      go_enter Try.func23, Try.ntmps23
      go_wp2_with fail
      go_loopw [1, 5] (fun r i wr => ∃ j : Nat, j ≤ n ∧ i = .int .i64 j ∧ ∃ rr : Int, r = .int .i64 rr ∧ 0 ≤ rr ∧ rr ≤ k ∧ Hid (rr = k - (n : Int) - (dsum (ds.take j) : Int)) ∧ Below w.heap.size w wr) (fun _ i _ => n - (intOf i).toNat)
      case atStart => exact ⟨0, Nat.zero_le _, rfl, k - (n : Int), rfl, by omega, by omega, by show _ = _; simp [dsum], Below.refl _ _⟩
      case round =>
        obtain ⟨j, hj, rfl, rr, rfl, hr0, hrk, hrr, hbr⟩ := hrel
        by_cases hlt : j < n
        · obtain ⟨⟨rx, ry, rz⟩, d, hdk, hR, q0, q1, q2⟩ := DRow.el (DRow.below (show DRow w (some ⟨b, off, none⟩) n ds from H.out) hbr) hlt
          have hnext := dsum_next hdk
          have htot := dsum_take ds (j + 1)
          obtain ⟨ll, ll2, p, rfl⟩ := HD.out d (List.mem_of_getElem? hdk)
          obtain ⟨⟨ax, cx, rfl, hbx, hxc, hxm, _⟩, ⟨ay, cy, rfl, hby, hyc, hym, _⟩, rfl⟩ := hR
          unfold maxLen at hxm hym
          have HN : Hid _ := hnext
          have HT : Hid _ := htot
          clear hdk hnext htot
          have HC := fun w => szImportM ax ll.length cx ay ll2.length cy p rr w hr0 (by omega) (by omega) (by omega)
          by_cases hx : ((ll.length + ll2.length : Nat) : Int) ≤ rr
          · simp only [szL_yes hx] at HC
            have hx' : ¬ (rr - ((ll.length + ll2.length : Nat) : Int) < 0) := by omega
            go_wp2_with fail
            refine (HC _).mono ?_
            rintro e w2 ⟨rfl, hb2⟩
            have hbw : Below w.heap.size w w2 := hbr.trans (hb2.mono hbr.size)
            clear q0 q1 q2 HC hb2
            go_wp2_with fail
            go_roundw
            case rel => exact ⟨j + 1, by omega, by go_num, _, rfl, by omega, by omega, by show _ = _; have := hrr.out; rw [HN.out, this]; simp only [D3.len, Fd.len]; omega, hbw⟩
            case measure => simp [intOf]; omega
          · simp only [szL_no hx] at HC
            go_wp2_with fail
            refine (HC _).mono ?_
            rintro e w2 ⟨rfl, hb2⟩
            have hbw : Below w.heap.size w w2 := hbr.trans (hb2.mono hbr.size)
            clear q0 q1 q2 HC hb2
            go_wp2_with fail
            go_ret
            have h1 := HN.out
            have h2 := HT.out
            have h3 := hrr.out
            rw [h1] at h2
            simp only [D3.len, Fd.len] at h2
            have hno : ¬ ((n + dsum ds : Nat) : Int) ≤ k := by omega
            exact ⟨ret_int (szL_no hno).symm, hbw⟩
        · have : j = n := by omega
          subst this
          go_wp2_with fail
          go_ret
          refine ⟨?_, hbr⟩
          have h3 := hrr.out
          rw [List.take_of_length_le (by rw [Hd.out]; exact Nat.le_refl _)] at h3
          rw [szL_yes (by omega)]
          exact ret_int (by omega)
  · rw [szL_no (by omega)]
    have h' : k - (n : Int) < 0 := by omega
    clear h hd
    go_enter Try.func23, Try.ntmps23
    go_wp2
    go_ret
    exact ⟨rfl, Below.refl _ _⟩

end Go.Proofs.Ytplbblilgalopaa

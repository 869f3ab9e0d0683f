/- Whether a module is one of those: by the specification, by the program. -/
import Derived.Test.YtpkbeeicffoaoaaBkApp
namespace Go.Proofs.Ytpkbeeicffoaoaa
open Go.RowKit
set_option linter.unusedVariables false
set_option linter.unusedSimpArgs false
set_option maxRecDepth 100000

theorem wild_cell {w : World} {a : Option Addr} {c n : Nat} {l : List Bool} {i : Int} (h : LRow w a c 1 (tfs l)) (hn : l.length = n) (h0 : 0 ≤ i) (h1 : i < n) : ∃ b off, a = some ⟨b, off, none⟩ ∧ ∃ k : Nat, i = k ∧ w.cell? ⟨b, off + k, none⟩ = some (.bool (wildAt l i)) := by
  obtain ⟨k, rfl⟩ : ∃ k : Nat, i = k := ⟨i.toNat, by omega⟩
  have hk : k < l.length := by omega
  obtain ⟨b, off, rfl⟩ := h.addr (by rw [tfs_len]; omega)
  refine ⟨b, off, rfl, k, rfl, ?_⟩
  obtain ⟨vs, hvs, hcl⟩ := (h.el (i := k) (r := [.t l[k]]) (by simp [tfs, hk])).vals
  obtain ⟨y0, _, rfl, rfl, rfl⟩ := hvs
  have := hcl 0 _ rfl
  have e : wildAt l (k : Int) = l[k] := by
    unfold wildAt
    simp [hk]
  rw [e]
  simpa using this
theorem wild_no {l : List Bool} {i : Int} (h : ¬ (0 ≤ i ∧ i < (l.length : Int))) : wildAt l i = false := by
  unfold wildAt
  by_cases h0 : 0 ≤ i
  · simp [show ¬ (i < (l.length : Int)) from fun h1 => h ⟨h0, h1⟩]
  · simp [h0]

theorem inRangeC (n lo hi : Int) (w : World) : Calls Try.prog 23 #[.int .i64 n, .int .i64 lo, .int .i64 hi] w fun e w' => e = .returned (.bool (decide (lo ≤ n) && decide (n ≤ hi))) ∧ w' = w := by
  by_cases h1 : lo ≤ n
  · by_cases h2 : n ≤ hi
    · have e1 : decide (lo ≤ n) = true := by simpa using h1
      have e2 : decide (n ≤ hi) = true := by simpa using h2
      rw [e1, e2]
      go_enter Try.func23, Try.ntmps23
      go_wp2
      go_ret
      exact ⟨rfl, rfl⟩
    · have e1 : decide (lo ≤ n) = true := by simpa using h1
      have e2 : decide (n ≤ hi) = false := by simpa using h2
      rw [e1, e2]
      go_enter Try.func23, Try.ntmps23
      go_wp2
      go_ret
      exact ⟨rfl, rfl⟩
  · have e1 : decide (lo ≤ n) = false := by simpa using h1
    rw [e1]
    go_enter Try.func23, Try.ntmps23
    go_wp2
    go_ret
    exact ⟨rfl, rfl⟩

theorem l12wildC (l : List Bool) (a : Option Addr) (n c : Nat) (i : Int) (w : World) (h : LRow w a c 1 (tfs l)) (hn : l.length = n) (h9 : n ≤ 9223372036854775807) :
    Calls Try.prog 19 #[.slice a n c, .int .i64 i] w fun e w' => e = .returned (.bool (wildAt l i)) ∧ w' = w := by
  by_cases h0 : 0 ≤ i
  · by_cases h1 : i < (n : Int)
    · obtain ⟨b, off, rfl, k, rfl, hc⟩ := wild_cell h hn h0 h1
      generalize wildAt l (k : Int) = t at *
      clear h hn
      have e1 : decide ((k : Int) < (n : Int)) = true := by simpa using h1
      cases t <;> (go_enter Try.func19, Try.ntmps19; go_wp2; go_ret; exact ⟨rfl, rfl⟩)
    · rw [wild_no (l := l) (i := i) (by omega)]
      clear h hn
      have e1 : decide (i < (n : Int)) = false := by simpa using h1
      go_enter Try.func19, Try.ntmps19
      go_wp2
      go_ret
      exact ⟨rfl, rfl⟩
  · rw [wild_no (l := l) (i := i) (by omega)]
    clear h hn
    have e1 : decide (i ≥ 0) = false := by simp; omega
    go_enter Try.func19, Try.ntmps19
    go_wp2
    go_ret
    exact ⟨rfl, rfl⟩

theorem isAmongC (l : List Bool) (a : Option Addr) (n c : Nat) (i : Int) (w : World) (h : LRow w a c 1 (tfs l)) (hn : l.length = n) (h9 : n ≤ 9223372036854775807) :
    Calls Try.prog 48 #[.slice a n c, .int .i64 i] w fun e w' => e = .returned (.bool (wildAt l i)) ∧ w' = w := by
  have hw : IntKind.i64.wrap ((n : Int) - 1) = (n : Int) - 1 := by rw [IntKind.wrap_i64]; omega
  have HR := inRangeC i 0 ((n : Int) - 1) w
  by_cases h0 : 0 ≤ i ∧ i < (n : Int)
  · obtain ⟨b, off, rfl, k, rfl, hc⟩ := wild_cell h hn h0.1 h0.2
    have e1 : (decide ((0 : Int) ≤ (k : Int)) && decide ((k : Int) ≤ (n : Int) - 1)) = true := by simp; omega
    rw [e1] at HR
    generalize wildAt l (k : Int) = t at *
    have h1 := h0.2
    clear h hn h0 e1
    cases t <;> (go_enter Try.func48, Try.ntmps48; go_wp2_with fail; refine HR.mono ?_; rintro e w' ⟨rfl, rfl⟩; go_wp2_with fail; go_ret; exact ⟨rfl, rfl⟩)
  · rw [wild_no (l := l) (i := i) (by omega)]
    have e1 : (decide ((0 : Int) ≤ i) && decide (i ≤ (n : Int) - 1)) = false := by simp; omega
    rw [e1] at HR
    clear h hn h0 e1
    go_enter Try.func48, Try.ntmps48
    go_wp2_with fail
    refine HR.mono ?_
    rintro e w' ⟨rfl, rfl⟩
    go_wp2_with fail
    go_ret
    exact ⟨rfl, rfl⟩
end Go.Proofs.Ytpkbeeicffoaoaa

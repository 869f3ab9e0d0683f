/- The law of Decode returns true at every slice of bytes and every place, and writes nothing that was there. -/
import Derived.Test.YtcidckmocmdijaaDoorDecImpl
import Derived.Test.YtcidckmocmdijaaDoorInsLaw
import Derived.Test.YtcidckmocmdijaaDoorBytes
namespace Go.Proofs.YtcidckmocmdijaaDoor
open Go.RowKit Go.WideShapes Go.ChangeShapes
set_option linter.unusedVariables false
set_option linter.unusedSimpArgs false
set_option maxRecDepth 100000

theorem open_bytes {H : Type} {enc : TypeId × Value → H} {w : World} {b0 : Nat} {v : Value} {d : DataW H} {ps : List MemPlace}
    (hv : Value.okWide Tryd.prog w .any b0 22 v) (h : DataW.Trod enc Tryd.prog w 0 (fun _ => true) true 22 v d ps) : ∃ a n c zs, v = .slice a n c ∧ RowIn .u8 w a n c zs := by
  obtain ⟨a, n, c, rfl⟩ := okWide_slice Tryd.underlying22 hv
  obtain ⟨fuel, hf⟩ := h
  rcases open_ints Tryd.underlying22 Tryd.underlying5 (by kernel_rfl) hf with ⟨hcs, _⟩ | ⟨x, l, c, zs, hcs, _, hl, hm, hz, _, hcell, hwz⟩
  · simp [Value.cells] at hcs
    obtain ⟨rfl, rfl, rfl⟩ := hcs
    exact ⟨_, _, _, [], rfl, .inl ⟨rfl, rfl, rfl, rfl⟩⟩
  · simp [Value.cells] at hcs
    obtain ⟨rfl, rfl, rfl⟩ := hcs
    exact ⟨_, _, _, zs, rfl, .inr ⟨_, rfl, hl, hm, by simpa using hz, hcell, hwz⟩⟩

def bt (l : List Int) (k : Int) (i : Nat) : Int := l[12 * k.toNat + i]?.getD 0
def decOk (l : List Int) (n : Nat) (k : Int) : Bool := (decide (0 ≤ k) && decide (k < (n : Int) / 12)) && insB (bt l k 0) (bt l k 1) (bt l k 2) (bt l k 3) (num4 (bt l k 4) (bt l k 5) (bt l k 6) (bt l k 7)) (num4 (bt l k 8) (bt l k 9) (bt l k 10) (bt l k 11))
def decN (l : List Int) (n : Nat) (k : Int) : Int := sel (decOk l n k) (num4 (bt l k 4) (bt l k 5) (bt l k 6) (bt l k 7))
def decM (l : List Int) (n : Nat) (k : Int) : Int := sel (decOk l n k) (num4 (bt l k 8) (bt l k 9) (bt l k 10) (bt l k 11))

theorem bytes_at {l : List Int} (h : ∀ x ∈ l, 0 ≤ x ∧ x ≤ 255) (k : Int) : Bytes12 (bt l k 0) (bt l k 1) (bt l k 2) (bt l k 3) (bt l k 4) (bt l k 5) (bt l k 6) (bt l k 7) (bt l k 8) (bt l k 9) (bt l k 10) (bt l k 11) :=
  ⟨byte_at h _, byte_at h _, byte_at h _, byte_at h _, byte_at h _, byte_at h _, byte_at h _, byte_at h _, byte_at h _, byte_at h _, byte_at h _, byte_at h _⟩

theorem twelve_at {w : World} {b off n k : Nat} {l : List Int} (hc : ∀ i, i < n → w.cell? ⟨b, off + i, none⟩ = some (.int .u8 (l[i]?.getD 0))) (hk : 12 * k + 12 ≤ n) :
    Twelve w b (off + 12 * k) (bt l k 0) (bt l k 1) (bt l k 2) (bt l k 3) (bt l k 4) (bt l k 5) (bt l k 6) (bt l k 7) (bt l k 8) (bt l k 9) (bt l k 10) (bt l k 11) :=
  ⟨hc (12 * k) (by omega), hc (12 * k + 1) (by omega), hc (12 * k + 2) (by omega), hc (12 * k + 3) (by omega), hc (12 * k + 4) (by omega), hc (12 * k + 5) (by omega), hc (12 * k + 6) (by omega), hc (12 * k + 7) (by omega), hc (12 * k + 8) (by omega), hc (12 * k + 9) (by omega), hc (12 * k + 10) (by omega), hc (12 * k + 11) (by omega)⟩

theorem dec_no {l : List Int} {n : Nat} {k : Int} (h : ¬ (0 ≤ k ∧ k < (n : Int) / 12)) : decOk l n k = false := by
  have : (decide (0 ≤ k) && decide (k < (n : Int) / 12)) = false := by
    rw [Bool.and_eq_false_iff]
    by_cases h0 : 0 ≤ k
    · right; simp only [decide_eq_false_iff_not]; exact fun h1 => h ⟨h0, h1⟩
    · left; simpa using h0
  rw [decOk, this, Bool.false_and]

theorem dec_yes {l : List Int} {n : Nat} {k : Int} (h : 0 ≤ k ∧ k < (n : Int) / 12) : decOk l n k = insB (bt l k 0) (bt l k 1) (bt l k 2) (bt l k 3) (num4 (bt l k 4) (bt l k 5) (bt l k 6) (bt l k 7)) (num4 (bt l k 8) (bt l k 9) (bt l k 10) (bt l k 11)) := by
  rw [decOk]; simp only [h.1, h.2, decide_true, Bool.and_self, Bool.true_and]

set_option maxHeartbeats 4000000 in
theorem implDecodeM (a : Option Addr) (n c : Nat) (l : List Int) (k : Int) (w : World) (h : BRow w a n l) (hc : n ≤ c) (hm : c ≤ maxLen) (hO : Ops w) :
    Calls Tryd.prog 6 #[.slice a n c, .int .i64 k] w fun e w' => e = .returned (.tuple #[.agg #[.int .i64 (sel (decOk l n k) (bt l k 0)), .int .i64 (sel (decOk l n k) (bt l k 1)), .int .i64 (sel (decOk l n k) (bt l k 2)), .int .i64 (sel (decOk l n k) (bt l k 3)), .int .i64 (decN l n k), .int .i64 (decM l n k)], .bool (decOk l n k)]) ∧ Below w.heap.size w w' := by
  by_cases hk : 0 ≤ k ∧ k < (n : Int) / 12
  · obtain ⟨j, rfl⟩ := Int.eq_ofNat_of_zero_le hk.1
    have hj : 12 * j + 12 ≤ n := by omega
    obtain ⟨_, hby, hr⟩ := h
    obtain ⟨b, off, rfl, hd⟩ := hr (by omega)
    exact implDecode12 b off n c j _ _ _ _ _ _ _ _ _ _ _ _ w (twelve_at hd hj) (bytes_at hby _) hj hc hm hO _ (dec_yes hk).symm
  · have hno := dec_no (l := l) hk
    unfold decN decM
    rw [hno]
    simp only [sel, cond_false]
    clear hno h hO
    unfold maxLen at hm
    by_cases h0 : k < 0
    · clear hk
      go_enter Tryd.func6, Tryd.ntmps6
      go_wp2_with fail
      refine bodyPost_ret (v := .tuple #[.agg #[.int .i64 0, .int .i64 0, .int .i64 0, .int .i64 0, .int .i64 0, .int .i64 0], .bool false]) (by simp [results, Tryd.results6, go_sem]) rfl ⟨rfl, (by repeat (first | exact Below.refl _ _ | assumption | (refine below_drewN ?_ _) | apply Below.drew | (refine Below.alloc ?_ ?_ _) | (refine Below.setCell ?_ ?_ _) | omega | (simp; omega) | simp))⟩
    · have h1 : (n : Int) / 12 ≤ k := by omega
      have h2 : 0 ≤ k := by omega
      clear hk h0
      go_enter Tryd.func6, Tryd.ntmps6
      go_wp2_with fail
      refine bodyPost_ret (v := .tuple #[.agg #[.int .i64 0, .int .i64 0, .int .i64 0, .int .i64 0, .int .i64 0, .int .i64 0], .bool false]) (by simp [results, Tryd.results6, go_sem]) rfl ⟨rfl, (by repeat (first | exact Below.refl _ _ | assumption | (refine below_drewN ?_ _) | apply Below.drew | (refine Below.alloc ?_ ?_ _) | (refine Below.setCell ?_ ?_ _) | omega | (simp; omega) | simp))⟩

end Go.Proofs.YtcidckmocmdijaaDoor

/- spec.PutNum: the bytes of a number, behind what was there, in new memory. -/
import Derived.Test.YtplbblilgalopaaAppendB
import Derived.Test.YtplbblilgalopaaNum
namespace Go.Proofs.Ytplbblilgalopaa
open Go.RowKit

theorem num_next {m d : List Int} {n k : Nat} (h : d ++ num k = num n) (hk : ¬ k < 128) (e : m = d ++ [((k % 128 + 128 : Nat) : Int)]) : m ++ num (k / 128) = num n := by
  rw [e, List.append_assoc, List.singleton_append, ← num_ge hk]; exact h

set_option maxHeartbeats 1000000 in
theorem specPut (a : Option Addr) (n c : Nat) (l : List Int) (m : Nat) (w : World) (h : BRow w a n l) (hnil : a = none → c = 0) (hn : n ≤ 1073741824) (h1 : m ≤ 2147483647) :
    Calls Try.prog 64 #[.slice a n c, .int .i64 m] w fun e w' => ∃ v, e = .returned v ∧ Own w' w.heap.size v (n + (num m).length) (l ++ num m) ∧ Below w.heap.size w w' := by
  have hE := own_empty w
  have hBE := below_empty w
  have hrE := h.below hBE
  have h5 := num_len5 m h1
  clear h
  go_enter Try.func64, Try.ntmps64
  go_wp2_with (at_builtin; refine wpList_appendB rfl _ _ rfl w.heap.size _ 0 [] rfl hE a n c l rfl hrE hnil (by omega) (by simp) ?_)
  intro v1 w1 ho1 hg1
  have hb1 := hE.grown hg1 hBE (by simp)
  clear hE hBE hrE hnil hg1
  go_wp2
  go_loopw [1, 5] (fun mm out wr => ∃ (k : Nat) (d : List Int), k ≤ m ∧ mm = .int .i64 k ∧ Hid (d ++ num k = num m) ∧ Own wr w.heap.size out (n + d.length) (l ++ d) ∧ Below w.heap.size w wr) (fun mm _ _ => (intOf mm).toNat)
  case atStart => exact ⟨m, [], Nat.le_refl _, rfl, rfl, by simpa using ho1, hb1⟩
  case round =>
    rename_i out
    obtain ⟨k, d, hk, rfl, hd, ho, hb⟩ := hrel
    have hdl : d.length + (num k).length = (num m).length := by rw [← List.length_append, hd.out]
    have hB : w.heap.size ≤ wr.heap.size := hb.size
    clear ho1 hb1
    have hB1 : ∀ o : Obj, Below w.heap.size w (wr.alloc o) := fun o => hb.alloc hB o
    by_cases hlt : k < 128
    · go_wp2_with (at_builtin; refine wpList_appendB rfl _ _ rfl w.heap.size _ (n + d.length) (l ++ d) rfl (ho.alloc _) _ 1 1 _ rfl (one_row _ _ (by omega) (by omega)) (by intro hh; cases hh) (by omega) (by simp; omega) ?_)
      intro v2 w2 ho2 hg2
      have hb2 := (ho.alloc _).grown hg2 (hB1 _) (by simp; omega)
      have hfin : Hid (d ++ [(k : Int)] = num m) := by
        show d ++ [(k : Int)] = num m
        rw [← hd.out, num_lt hlt]
      clear hg2 ho hb hB1 hd
      go_wp2
      go_ret
      refine ⟨_, rfl, ?_, hb2⟩
      rw [← hfin.out, List.length_append]
      exact ho2
    · go_wp2_with (at_builtin; refine wpList_appendB rfl _ _ rfl w.heap.size _ (n + d.length) (l ++ d) rfl (ho.alloc _) _ 1 1 _ rfl (one_row _ _ (by omega) (by omega)) (by intro hh; cases hh) (by omega) (by simp; omega) ?_)
      intro v2 w2 ho2 hg2
      have hb2 := (ho.alloc _).grown hg2 (hB1 _) (by simp; omega)
      have hnext := num_next hd.out hlt rfl
      have HN : Hid _ := hnext
      clear hg2 ho hb hB1 hd hnext
      go_wp2
      go_roundw
      case rel => refine ⟨k / 128, d ++ [((k % 128 + 128 : Nat) : Int)], by omega, by go_num, HN, ?_, hb2⟩; rw [List.length_append]; simpa [Nat.add_assoc] using ho2
      case measure => simp [intOf]; omega
end Go.Proofs.Ytplbblilgalopaa

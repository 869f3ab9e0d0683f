/- The law of NameOk returns true at every slice of bytes, and writes nothing that was there. -/
import Derived.Test.YtlnpgpjmagkbmaaNameImpl
import Derived.Test.YtlnpgpjmagkbmaaBytes
namespace Go.Proofs.Ytlnpgpjmagkbmaa
open Go.RowKit

set_option maxHeartbeats 1000000 in
theorem name_walk (a0 : Option Addr) (len0 cap0 : Nat) (z0 : List Int) (a1 : Bool) (w : World) (w0 : RowIn .u8 w a0 len0 cap0 z0) :
    Calls Try.prog 3 #[.slice a0 len0 cap0, .bool a1] w fun e w' => e = .returned (.bool true) ∧ Below w.heap.size w w' := by
  obtain ⟨hr, hlc, hm⟩ := w0.row
  unfold maxLen at hm
  clear w0
  by_cases hbig : 1048576 < len0
  · clear hr
    go_enter Try.func3, Try.ntmps3
    go_wp2
    go_ret
    exact ⟨rfl, Below.refl _ _⟩
  · generalize z0.take len0 = l at hr
    have hsmall : len0 ≤ 1048576 := by omega
    go_enter Try.func3, Try.ntmps3
    go_wp2_with fail
    refine (copyB _ _ _ l _ hr hsmall).mono ?_
    rintro e w1 ⟨rfl, _, hr1, hb1, _⟩
    go_wp2_with fail
    refine (specNameOk _ _ _ l a1 _ hr1 (by omega)).mono ?_
    rintro e w1' ⟨rfl, rfl⟩
    go_wp2_with fail
    refine (copyB _ _ _ l _ (hr.below hb1) hsmall).mono ?_
    rintro e w2 ⟨rfl, _, hr2, hb2, _⟩
    go_wp2_with fail
    refine (implNameOk _ _ _ l a1 _ hr2 (by omega) (Nat.le_refl _)).mono ?_
    rintro e w2' ⟨rfl, rfl⟩
    generalize nameOk l a1 = v
    have hv : (v != v) = false := by cases v <;> rfl
    go_wp2_with fail
    refine (copyB _ _ _ l _ ((hr.below hb1).below hb2) hsmall).mono ?_
    rintro e w3 ⟨rfl, _, hr3, hb3, _⟩
    go_wp2_with fail
    refine (eqB _ _ _ l _ _ _ l _ (hr2.below hb3) hr3 (by omega)).mono ?_
    rintro e w4 ⟨rfl, d, rfl⟩
    rw [decide_eq_true rfl]
    go_wp2_with fail
    go_ret
    have s1 := hb1.size
    have s2 := hb2.size
    exact ⟨rfl, below_drewN ((hb1.trans (hb2.mono s1)).trans (hb3.mono (Nat.le_trans s1 s2))) d⟩
end Go.Proofs.Ytlnpgpjmagkbmaa

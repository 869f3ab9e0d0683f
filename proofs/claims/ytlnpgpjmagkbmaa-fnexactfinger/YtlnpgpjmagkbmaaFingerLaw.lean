/- The law of Finger returns true at every slice of bytes and of ints, and writes nothing that was there. -/
import Derived.Test.YtlnpgpjmagkbmaaFinger
namespace Go.Proofs.Ytlnpgpjmagkbmaa
open Go.RowKit

set_option maxHeartbeats 1000000 in
theorem finger_walk (a0 : Option Addr) (len0 cap0 : Nat) (z0 : List Int) (a1 : Option Addr) (len1 cap1 : Nat) (z1 : List Int) (w : World) (w0 : RowIn .u8 w a0 len0 cap0 z0) (w1 : RowIn .i64 w a1 len1 cap1 z1) :
    Calls Try.prog 4 #[.slice a0 len0 cap0, .slice a1 len1 cap1] w fun e w' => e = .returned (.bool true) ∧ Below w.heap.size w w' := by
  obtain ⟨hr, hlc, hm⟩ := w0.row
  obtain ⟨kr, klc, km⟩ := w1.rowI
  unfold maxLen at hm km
  clear w0 w1
  by_cases hbig : 1048576 < len0
  · clear hr kr
    go_enter Try.func4, Try.ntmps4
    go_wp2
    go_ret
    exact ⟨rfl, Below.refl _ _⟩
  by_cases hbig1 : 1048576 < len1
  · clear hr kr
    go_enter Try.func4, Try.ntmps4
    go_wp2
    go_ret
    exact ⟨rfl, Below.refl _ _⟩
  generalize z0.take len0 = l at hr
  generalize z1.take len1 = k at kr
  have hsmall : len0 ≤ 1048576 := by omega
  have ksmall : len1 ≤ 1048576 := by omega
  go_enter Try.func4, Try.ntmps4
  go_wp2_with fail
  refine (copyB _ _ _ l _ hr hsmall).mono ?_
  rintro e w1 ⟨rfl, _, hr1, hb1, _⟩
  go_wp2_with fail
  refine (copyI _ _ _ k _ (kr.below hb1) ksmall).mono ?_
  rintro e w2 ⟨rfl, _, kr2, hb2, _⟩
  have B2 := hb1.trans (hb2.mono hb1.size)
  go_wp2_with fail
  refine (specFinger _ _ _ l _ _ _ k _ (hr1.below hb2) (by simp) kr2 hsmall ksmall).mono ?_
  rintro e w3 ⟨rfl, hb3⟩
  have B3 := B2.trans (hb3.mono B2.size)
  clear hb1 hr1 hb2 kr2 hb3 B2
  go_wp2_with fail
  refine (copyB _ _ _ l _ (hr.below B3) hsmall).mono ?_
  rintro e w4 ⟨rfl, _, hr4, hb4, _⟩
  have B4 := B3.trans (hb4.mono B3.size)
  go_wp2_with fail
  refine (copyI _ _ _ k _ (kr.below B4) ksmall).mono ?_
  rintro e w5 ⟨rfl, _, kr5, hb5, _⟩
  have B5 := B4.trans (hb5.mono B4.size)
  have hr5 := hr4.below hb5
  clear hb4 hb5 B3 B4 hr4
  go_wp2_with fail
  refine (implFinger _ _ _ l _ _ _ k _ hr5 kr5 hsmall ksmall).mono ?_
  rintro e w6 ⟨rfl, hb6⟩
  have B6 := B5.trans (hb6.mono B5.size)
  have hr6 := hr5.below hb6
  have kr6 := kr5.below hb6
  clear hb6 B5 hr5 kr5
  generalize sumTo (l ++ kindsB k) (len0 + len1) = v
  have hv : (v != v) = false := by simp
  go_wp2_with fail
  refine (copyB _ _ _ l _ (hr.below B6) hsmall).mono ?_
  rintro e w7 ⟨rfl, _, hr7, hb7, _⟩
  have B7 := B6.trans (hb7.mono B6.size)
  go_wp2_with fail
  refine (eqB _ _ _ l _ _ _ l _ (hr6.below hb7) hr7 (by omega)).mono ?_
  rintro e w8 ⟨rfl, d, rfl⟩
  rw [decide_eq_true rfl]
  have B8 := below_drewN B7 d
  have kr8 : IRow (w7.drewN d) _ _ k := kr6.below (below_drewN hb7 d)
  generalize w7.drewN d = w8 at *
  clear hb7 B6 B7 hr6 hr7 kr6
  go_wp2_with fail
  refine (copyI _ _ _ k _ (kr.below B8) ksmall).mono ?_
  rintro e w9 ⟨rfl, _, kr9, hb9, _⟩
  have B9 := B8.trans (hb9.mono B8.size)
  go_wp2_with fail
  refine (eqI _ _ _ k _ _ _ k _ (kr8.below hb9) kr9 (by omega)).mono ?_
  rintro e w10 ⟨rfl, d2, rfl⟩
  rw [decide_eq_true rfl]
  go_wp2_with fail
  go_ret
  exact ⟨rfl, below_drewN B9 d2⟩
end Go.Proofs.Ytlnpgpjmagkbmaa

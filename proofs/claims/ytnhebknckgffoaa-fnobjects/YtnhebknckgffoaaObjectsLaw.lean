/- FnObjects: a drawn object comes back from its bytes; whatever bytes are read as one are just its bytes. -/
import Derived.Test.YtnhebknckgffoaaPackM
import Derived.Test.YtnhebknckgffoaaObjBytes
import Derived.Test.YtnhebknckgffoaaPackL
import Derived.Test.YtnhebknckgffoaaObjRound
import Derived.Test.YtnhebknckgffoaaSame
namespace Go.Proofs.Ytnhebknckgffoaa
open Go.RowKit
set_option linter.unusedVariables false
set_option linter.unusedSimpArgs false
set_option maxRecDepth 100000

theorem objB_most {b : Ob} (h : objOk b = true) : (objB b).length ≤ 100000 := by
  obtain ⟨l1, l2, l3⟩ := objOk_lens h
  have h1 := objB2_len b l1
  have h2 := listB_len imB_len b.im
  have h3 := putL_len b.data
  have h4 := putL_len (b.code.length : Int)
  unfold objB
  simp only [List.length_append]
  omega

set_option maxHeartbeats 16000000 in
theorem objects_walk (a0 : Option Addr) (len0 cap0 : Nat) (z0 : List Int) (w : World) (w0 : RowIn .u8 w a0 len0 cap0 z0) :
    Calls Try.prog 3 #[.slice a0 len0 cap0] w fun e w' => e = .returned (.bool true) ∧ Below w.heap.size w w' := by
  obtain ⟨hr, hlc, hm⟩ := w0.row
  unfold maxLen at hm
  clear w0
  generalize z0.take len0 = l at hr
  have hn : len0 ≤ 9223372036854775807 := by omega
  have HR : Hid (BRow w a0 len0 l) := hr
  clear hr
  have H1 := drawObjectBytesM a0 len0 cap0 l w HR.out hn
  go_enter Try.func3, Try.ntmps3
  go_wp2_with fail
  refine H1.mono ?_
  rintro e w1 ⟨o, rfl, ⟨b, hO, hs⟩, hb1⟩
  obtain ⟨u1, uc1, u2, uc2, u3, uc3, u4, uc4, eo⟩ := hO.shape
  subst eo
  simp only
  have g2 := B5.new w1 26 ⟨.slice u1 b.name.length uc1, .slice u2 b.ex.length uc2, .slice u3 b.im.length uc3, .int .i64 b.data, .slice u4 b.code.length uc4⟩
  have b2 : Below w1.heap.size w1 (w1.alloc (.cells #[.slice u1 b.name.length uc1, .slice u2 b.ex.length uc2, .slice u3 b.im.length uc3, .int .i64 b.data, .slice u4 b.code.length uc4] 26 (0, 0))) := (Below.refl _ _).alloc (Nat.le_refl _) _
  have R2 : Hid (ORead (w1.alloc (.cells #[.slice u1 b.name.length uc1, .slice u2 b.ex.length uc2, .slice u3 b.im.length uc3, .int .i64 b.data, .slice u4 b.code.length uc4] 26 (0, 0))) ⟨.slice u1 b.name.length uc1, .slice u2 b.ex.length uc2, .slice u3 b.im.length uc3, .int .i64 b.data, .slice u4 b.code.length uc4⟩ b) := hO.below b2
  have y2 : Below w.heap.size w (w1.alloc (.cells #[.slice u1 b.name.length uc1, .slice u2 b.ex.length uc2, .slice u3 b.im.length uc3, .int .i64 b.data, .slice u4 b.code.length uc4] 26 (0, 0))) := hb1.trans (b2.mono hb1.size)
  simp only at g2
  clear H1 hO b2
  go_upto_region 2 with fail
  generalize w1.alloc (.cells #[.slice u1 b.name.length uc1, .slice u2 b.ex.length uc2, .slice u3 b.im.length uc3, .int .i64 b.data, .slice u4 b.code.length uc4] 26 (0, 0)) = w2 at *
  clear hb1
  generalize w1.heap.size = gO at *
  obtain ⟨q0, q1, q2, q3, q4⟩ := g2.facts
  simp only at q0 q1 q2 q3 q4
  have H2 := implObjectBytesM ⟨.slice u1 b.name.length uc1, .slice u2 b.ex.length uc2, .slice u3 b.im.length uc3, .int .i64 b.data, .slice u4 b.code.length uc4⟩ b w2 R2.out hs
  simp only at H2
  go_wp2_with fail
  refine H2.mono ?_
  rintro e w3 ⟨aB, cB, rfl, m3⟩
  have g3 := g2.below m3.below g2.lt
  have R3 : Hid (ORead w3 ⟨.slice u1 b.name.length uc1, .slice u2 b.ex.length uc2, .slice u3 b.im.length uc3, .int .i64 b.data, .slice u4 b.code.length uc4⟩ b) := R2.out.below m3.below
  have y3 : Below w.heap.size w w3 := y2.trans (m3.below.mono y2.size)
  have M3 : Hid (BRow w3 aB (obR b).length (obR b)) := m3.row
  have hcB := m3.cap
  have HMB : Hid (cB ≤ maxLen) := m3.most
  have hnB := m3.nil
  clear H2 q0 q1 q2 q3 q4 g2 R2 y2 m3
  obtain ⟨q0, q1, q2, q3, q4⟩ := g3.facts
  simp only at q0 q1 q2 q3 q4
  have H3 := specObjectOkM ⟨.slice u1 b.name.length uc1, .slice u2 b.ex.length uc2, .slice u3 b.im.length uc3, .int .i64 b.data, .slice u4 b.code.length uc4⟩ b w3 R3.out hs
  simp only at H3
  have hbb : (objOk b != objOk b) = false := by cases objOk b <;> rfl
  go_wp2_with fail
  refine H3.mono ?_
  rintro e w4 ⟨rfl, hb4⟩
  have g4 := g3.below hb4 g3.lt
  have R4 : Hid (ORead w4 ⟨.slice u1 b.name.length uc1, .slice u2 b.ex.length uc2, .slice u3 b.im.length uc3, .int .i64 b.data, .slice u4 b.code.length uc4⟩ b) := R3.out.below hb4
  have y4 : Below w.heap.size w w4 := y3.trans (hb4.mono y3.size)
  have M4 : Hid (BRow w4 aB (obR b).length (obR b)) := M3.out.below hb4
  clear H3 q0 q1 q2 q3 q4 g3 R3 y3 M3 hb4
  obtain ⟨q0, q1, q2, q3, q4⟩ := g4.facts
  simp only at q0 q1 q2 q3 q4
  have H4 := implObjectOkM ⟨.slice u1 b.name.length uc1, .slice u2 b.ex.length uc2, .slice u3 b.im.length uc3, .int .i64 b.data, .slice u4 b.code.length uc4⟩ b w4 R4.out hs
  simp only at H4
  go_wp2_with fail
  refine H4.mono ?_
  rintro e w5 ⟨rfl, hb5⟩
  have g5 := g4.below hb5 g4.lt
  have R5 : Hid (ORead w5 ⟨.slice u1 b.name.length uc1, .slice u2 b.ex.length uc2, .slice u3 b.im.length uc3, .int .i64 b.data, .slice u4 b.code.length uc4⟩ b) := R4.out.below hb5
  have y5 : Below w.heap.size w w5 := y4.trans (hb5.mono y4.size)
  have M5 : Hid (BRow w5 aB (obR b).length (obR b)) := M4.out.below hb5
  clear H4 q0 q1 q2 q3 q4 g4 R4 y4 M4 hb5
  cases hk : objOk b
  · have hR : obR b = [] := by unfold obR; rw [hk]; rfl
    clear hk M5 R5 g5 hcB HMB hnB hR hbb
    have H40 := drawObjectReadM a0 len0 cap0 l w5 (HR.out.below y5) hn
    go_wp2_with fail
    refine H40.mono ?_
    rintro e w40 ⟨a5, n5, c5, l5, rfl, r5, hc5, hm5, hnil5, hn5, hb5⟩
    have y40 : Below w.heap.size w w40 := y5.trans (hb5.mono y5.size)
    have H41 := implObjectReadM a5 n5 c5 l5 w40 r5 (by omega) hc5 hm5 hnil5
    have R40 : Hid (BRow w40 a5 n5 l5) := r5
    have hby5 : ∀ x ∈ l5, 0 ≤ x ∧ x ≤ 255 := r5.2.1
    have hs5 : osz (rdR l5) ≤ 1048576 := rdR_size hby5
    have HEX : Hid (∀ d ∈ (rdR l5).ex, isE d) := rdR_exs l5
    have HIM : Hid (∀ d ∈ (rdR l5).im, isM d) := rdR_ims l5
    have HEN : Hid (rdOk l5 = true → objOk (rdR l5) = true ∧ objB (rdR l5) = l5) := fun h => enc_rd hby5 h
    clear H40 hb5 r5 hby5 hm5
    go_wp2_with fail
    refine H41.mono ?_
    rintro e w41 ⟨o5, rfl, ⟨lE5, lI5, hO5⟩, hb41⟩
    have R41 := hO5.read HEX.out HIM.out
    obtain ⟨p1, pc1, p2, pc2, p3, pc3, p4, pc4, ep⟩ := R41.shape
    subst ep
    simp only
    have g42 := B5.new w41 26 ⟨.slice p1 (rdR l5).name.length pc1, .slice p2 (rdR l5).ex.length pc2, .slice p3 (rdR l5).im.length pc3, .int .i64 (rdR l5).data, .slice p4 (rdR l5).code.length pc4⟩
    have b42 : Below w41.heap.size w41 (w41.alloc (.cells #[.slice p1 (rdR l5).name.length pc1, .slice p2 (rdR l5).ex.length pc2, .slice p3 (rdR l5).im.length pc3, .int .i64 (rdR l5).data, .slice p4 (rdR l5).code.length pc4] 26 (0, 0))) := (Below.refl _ _).alloc (Nat.le_refl _) _
    have R42 : Hid (ORead (w41.alloc (.cells #[.slice p1 (rdR l5).name.length pc1, .slice p2 (rdR l5).ex.length pc2, .slice p3 (rdR l5).im.length pc3, .int .i64 (rdR l5).data, .slice p4 (rdR l5).code.length pc4] 26 (0, 0))) ⟨.slice p1 (rdR l5).name.length pc1, .slice p2 (rdR l5).ex.length pc2, .slice p3 (rdR l5).im.length pc3, .int .i64 (rdR l5).data, .slice p4 (rdR l5).code.length pc4⟩ (rdR l5)) := R41.below b42
    have z42 : Below w40.heap.size w40 (w41.alloc (.cells #[.slice p1 (rdR l5).name.length pc1, .slice p2 (rdR l5).ex.length pc2, .slice p3 (rdR l5).im.length pc3, .int .i64 (rdR l5).data, .slice p4 (rdR l5).code.length pc4] 26 (0, 0))) := hb41.trans (b42.mono hb41.size)
    simp only at g42
    clear H41 hO5 hb41 R41 b42
    go_upto_region 12 with fail
    generalize w41.alloc (.cells #[.slice p1 (rdR l5).name.length pc1, .slice p2 (rdR l5).ex.length pc2, .slice p3 (rdR l5).im.length pc3, .int .i64 (rdR l5).data, .slice p4 (rdR l5).code.length pc4] 26 (0, 0)) = w42 at *
    generalize w41.heap.size = gY at *
    obtain ⟨q0, q1, q2, q3, q4⟩ := g42.facts
    simp only at q0 q1 q2 q3 q4
    have H42 := implObjectBytesM ⟨.slice p1 (rdR l5).name.length pc1, .slice p2 (rdR l5).ex.length pc2, .slice p3 (rdR l5).im.length pc3, .int .i64 (rdR l5).data, .slice p4 (rdR l5).code.length pc4⟩ (rdR l5) w42 R42.out hs5
    simp only at H42
    go_wp2_with fail
    refine H42.mono ?_
    rintro e w43 ⟨a6, c6, rfl, m6⟩
    have z43 : Below w40.heap.size w40 w43 := z42.trans (m6.below.mono z42.size)
    have M6 : Hid (BRow w43 a6 (obR (rdR l5)).length (obR (rdR l5))) := m6.row
    have y43 : Below w.heap.size w w43 := y40.trans (z43.mono y40.size)
    clear H42 q0 q1 q2 q3 q4 g42 z42 m6 R42
    cases hf : rdOk l5
    · clear hf
      go_wp2_with fail
      go_ret
      exact ⟨rfl, y43⟩
    · obtain ⟨k1, k2⟩ := HEN.out hf
      have k3 : obR (rdR l5) = l5 := by unfold obR; rw [k1, if_pos rfl, k2]
      have H43 := sameM a6 l5.length c6 l5 a5 n5 c5 l5 w43 (by have := M6.out; rw [k3] at this; exact this) (R40.out.below z43)
      rw [decide_eq_true rfl] at H43
      rw [k1, k3]
      clear hf k1 k2 k3 M6 HEN
      go_wp2_with fail
      refine H43.mono ?_
      rintro e w44 ⟨rfl, rfl⟩
      go_wp2_with fail
      go_ret
      exact ⟨rfl, y43⟩
  · have hR : obR b = objB b := by unfold obR; rw [hk]; rfl
    have hL := objB_most hk
    obtain ⟨e1, e2⟩ := rd_enc hk
    have M6 : Hid (BRow w5 aB (objB b).length (objB b)) := by have := M5.out; rw [hR] at this; exact this
    rw [hR] at hcB ⊢
    have H5 := implObjectReadM aB (objB b).length cB (objB b) w5 M6.out (by omega) hcB HMB.out hnB
    rw [e1, e2] at H5
    have HOK : Hid (objOk b = true) := hk
    have HEX : Hid (∀ d ∈ b.ex, isE d) := R5.out.exs
    have HIM : Hid (∀ d ∈ b.im, isM d) := R5.out.ims
    clear hk e1 e2 M5 hR hbb
    go_wp2_with fail
    refine H5.mono ?_
    rintro e w6 ⟨o6, rfl, ⟨lE6, lI6, hO6⟩, hb6⟩
    have R6x := hO6.read HEX.out HIM.out
    obtain ⟨v1, vc1, v2, vc2, v3, vc3, v4, vc4, eo⟩ := R6x.shape
    subst eo
    simp only
    have x7 := B5.new w6 26 ⟨.slice v1 b.name.length vc1, .slice v2 b.ex.length vc2, .slice v3 b.im.length vc3, .int .i64 b.data, .slice v4 b.code.length vc4⟩
    have b7 : Below w6.heap.size w6 (w6.alloc (.cells #[.slice v1 b.name.length vc1, .slice v2 b.ex.length vc2, .slice v3 b.im.length vc3, .int .i64 b.data, .slice v4 b.code.length vc4] 26 (0, 0))) := (Below.refl _ _).alloc (Nat.le_refl _) _
    have RX : Hid (ORead (w6.alloc (.cells #[.slice v1 b.name.length vc1, .slice v2 b.ex.length vc2, .slice v3 b.im.length vc3, .int .i64 b.data, .slice v4 b.code.length vc4] 26 (0, 0))) ⟨.slice v1 b.name.length vc1, .slice v2 b.ex.length vc2, .slice v3 b.im.length vc3, .int .i64 b.data, .slice v4 b.code.length vc4⟩ b) := R6x.below b7
    have z7 : Below w5.heap.size w5 (w6.alloc (.cells #[.slice v1 b.name.length vc1, .slice v2 b.ex.length vc2, .slice v3 b.im.length vc3, .int .i64 b.data, .slice v4 b.code.length vc4] 26 (0, 0))) := hb6.trans (b7.mono hb6.size)
    simp only at x7
    clear H5 hO6 hb6 R6x b7
    go_upto_region 7 with fail
    generalize w6.alloc (.cells #[.slice v1 b.name.length vc1, .slice v2 b.ex.length vc2, .slice v3 b.im.length vc3, .int .i64 b.data, .slice v4 b.code.length vc4] 26 (0, 0)) = w7 at *
    generalize w6.heap.size = gX at *
    obtain ⟨q0, q1, q2, q3, q4⟩ := x7.facts
    simp only at q0 q1 q2 q3 q4
    have H7 := implObjectBytesM ⟨.slice v1 b.name.length vc1, .slice v2 b.ex.length vc2, .slice v3 b.im.length vc3, .int .i64 b.data, .slice v4 b.code.length vc4⟩ b w7 RX.out hs
    simp only at H7
    rw [HOK.out, show obR b = objB b from by unfold obR; rw [HOK.out]; rfl] at H7
    go_wp2_with fail
    refine H7.mono ?_
    rintro e w8 ⟨aC, cC, rfl, m8⟩
    have z8 : Below w5.heap.size w5 w8 := z7.trans (m8.below.mono z7.size)
    have x8 := x7.below m8.below x7.lt
    have g8 := g5.below z8 g5.lt
    have RX8 : Hid (ORead w8 ⟨.slice v1 b.name.length vc1, .slice v2 b.ex.length vc2, .slice v3 b.im.length vc3, .int .i64 b.data, .slice v4 b.code.length vc4⟩ b) := RX.out.below m8.below
    have RO8 : Hid (ORead w8 ⟨.slice u1 b.name.length uc1, .slice u2 b.ex.length uc2, .slice u3 b.im.length uc3, .int .i64 b.data, .slice u4 b.code.length uc4⟩ b) := R5.out.below z8
    have MB8 : Hid (BRow w8 aB (objB b).length (objB b)) := M6.out.below z8
    have MC8 : Hid (BRow w8 aC (objB b).length (objB b)) := m8.row
    have y8 : Below w.heap.size w w8 := y5.trans (z8.mono y5.size)
    clear H7 q0 q1 q2 q3 q4 x7 z7 RX m8 g5 R5 M6 z8 y5
    have H8 := sameM aB (objB b).length cB (objB b) aC (objB b).length cC (objB b) w8 MB8.out MC8.out
    rw [decide_eq_true rfl] at H8
    obtain ⟨q0, q1, q2, q3, q4⟩ := x8.facts
    obtain ⟨j0, j1, j2, j3, j4⟩ := g8.facts
    simp only at q0 q1 q2 q3 q4 j0 j1 j2 j3 j4
    have hll : ((b.ex.length : Int) != (b.ex.length : Int)) = false := by simp
    have HC : Hid (BRow w8 v4 b.code.length b.code ∧ BRow w8 u4 b.code.length b.code) := by
      obtain ⟨aa, cc, e, hr, _⟩ := RX8.out.cd
      obtain ⟨ab, cb, e', hr', _⟩ := RO8.out.cd
      simp only [Value.slice.injEq, true_and] at e e'
      rw [e.1, e'.1]
      exact ⟨hr, hr'⟩
    have H9 := sameM v4 b.code.length vc4 b.code u4 b.code.length uc4 b.code w8 HC.out.1 HC.out.2
    rw [decide_eq_true rfl] at H9
    clear RX8 RO8 MB8 MC8 HC x8 g8
    go_wp2_with fail
    refine H8.mono ?_
    rintro e w8' ⟨rfl, rfl⟩
    go_wp2_with fail
    refine H9.mono ?_
    rintro e w8'' ⟨rfl, rfl⟩
    clear H8 H9
    go_upto_region 10 with fail
    clear q0 q1 q2 q3 q4 j0 j1 j2 j3 j4
    have H40 := drawObjectReadM a0 len0 cap0 l _ (HR.out.below y8) hn
    go_wp2_with fail
    refine H40.mono ?_
    rintro e w40 ⟨a5, n5, c5, l5, rfl, r5, hc5, hm5, hnil5, hn5, hb5⟩
    have y40 : Below w.heap.size w w40 := y8.trans (hb5.mono y8.size)
    have H41 := implObjectReadM a5 n5 c5 l5 w40 r5 (by omega) hc5 hm5 hnil5
    have R40 : Hid (BRow w40 a5 n5 l5) := r5
    have hby5 : ∀ x ∈ l5, 0 ≤ x ∧ x ≤ 255 := r5.2.1
    have hs5 : osz (rdR l5) ≤ 1048576 := rdR_size hby5
    have HEX : Hid (∀ d ∈ (rdR l5).ex, isE d) := rdR_exs l5
    have HIM : Hid (∀ d ∈ (rdR l5).im, isM d) := rdR_ims l5
    have HEN : Hid (rdOk l5 = true → objOk (rdR l5) = true ∧ objB (rdR l5) = l5) := fun h => enc_rd hby5 h
    clear H40 hb5 r5 hby5 hm5
    go_wp2_with fail
    refine H41.mono ?_
    rintro e w41 ⟨o5, rfl, ⟨lE5, lI5, hO5⟩, hb41⟩
    have R41 := hO5.read HEX.out HIM.out
    obtain ⟨p1, pc1, p2, pc2, p3, pc3, p4, pc4, ep⟩ := R41.shape
    subst ep
    simp only
    have g42 := B5.new w41 26 ⟨.slice p1 (rdR l5).name.length pc1, .slice p2 (rdR l5).ex.length pc2, .slice p3 (rdR l5).im.length pc3, .int .i64 (rdR l5).data, .slice p4 (rdR l5).code.length pc4⟩
    have b42 : Below w41.heap.size w41 (w41.alloc (.cells #[.slice p1 (rdR l5).name.length pc1, .slice p2 (rdR l5).ex.length pc2, .slice p3 (rdR l5).im.length pc3, .int .i64 (rdR l5).data, .slice p4 (rdR l5).code.length pc4] 26 (0, 0))) := (Below.refl _ _).alloc (Nat.le_refl _) _
    have R42 : Hid (ORead (w41.alloc (.cells #[.slice p1 (rdR l5).name.length pc1, .slice p2 (rdR l5).ex.length pc2, .slice p3 (rdR l5).im.length pc3, .int .i64 (rdR l5).data, .slice p4 (rdR l5).code.length pc4] 26 (0, 0))) ⟨.slice p1 (rdR l5).name.length pc1, .slice p2 (rdR l5).ex.length pc2, .slice p3 (rdR l5).im.length pc3, .int .i64 (rdR l5).data, .slice p4 (rdR l5).code.length pc4⟩ (rdR l5)) := R41.below b42
    have z42 : Below w40.heap.size w40 (w41.alloc (.cells #[.slice p1 (rdR l5).name.length pc1, .slice p2 (rdR l5).ex.length pc2, .slice p3 (rdR l5).im.length pc3, .int .i64 (rdR l5).data, .slice p4 (rdR l5).code.length pc4] 26 (0, 0))) := hb41.trans (b42.mono hb41.size)
    simp only at g42
    clear H41 hO5 hb41 R41 b42
    go_upto_region 12 with fail
    generalize w41.alloc (.cells #[.slice p1 (rdR l5).name.length pc1, .slice p2 (rdR l5).ex.length pc2, .slice p3 (rdR l5).im.length pc3, .int .i64 (rdR l5).data, .slice p4 (rdR l5).code.length pc4] 26 (0, 0)) = w42 at *
    generalize w41.heap.size = gY at *
    obtain ⟨q0, q1, q2, q3, q4⟩ := g42.facts
    simp only at q0 q1 q2 q3 q4
    have H42 := implObjectBytesM ⟨.slice p1 (rdR l5).name.length pc1, .slice p2 (rdR l5).ex.length pc2, .slice p3 (rdR l5).im.length pc3, .int .i64 (rdR l5).data, .slice p4 (rdR l5).code.length pc4⟩ (rdR l5) w42 R42.out hs5
    simp only at H42
    go_wp2_with fail
    refine H42.mono ?_
    rintro e w43 ⟨a6, c6, rfl, m6⟩
    have z43 : Below w40.heap.size w40 w43 := z42.trans (m6.below.mono z42.size)
    have M6 : Hid (BRow w43 a6 (obR (rdR l5)).length (obR (rdR l5))) := m6.row
    have y43 : Below w.heap.size w w43 := y40.trans (z43.mono y40.size)
    clear H42 q0 q1 q2 q3 q4 g42 z42 m6 R42
    cases hf : rdOk l5
    · clear hf
      go_wp2_with fail
      go_ret
      exact ⟨rfl, y43⟩
    · obtain ⟨k1, k2⟩ := HEN.out hf
      have k3 : obR (rdR l5) = l5 := by unfold obR; rw [k1, if_pos rfl, k2]
      have H43 := sameM a6 l5.length c6 l5 a5 n5 c5 l5 w43 (by have := M6.out; rw [k3] at this; exact this) (R40.out.below z43)
      rw [decide_eq_true rfl] at H43
      rw [k1, k3]
      clear hf k1 k2 k3 M6 HEN
      go_wp2_with fail
      refine H43.mono ?_
      rintro e w44 ⟨rfl, rfl⟩
      go_wp2_with fail
      go_ret
      exact ⟨rfl, y43⟩
end Go.Proofs.Ytnhebknckgffoaa

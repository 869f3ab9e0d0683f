/- The law of ObjectRead returns true at every slice of bytes, and writes nothing that was there. -/
import Derived.Test.YthfknedokkccaaaReadSpec
import Derived.Test.YthfknedokkccaaaReadImpl
import Derived.Test.YthfknedokkccaaaHeld
namespace Go.Proofs.Ythfknedokkccaaa
open Go.RowKit
set_option linter.unusedVariables false
set_option linter.unusedSimpArgs false
set_option maxRecDepth 100000

theorem markL_isE {ds : List D3} (h : ∀ d ∈ ds, isE d) (k : Nat) : ∀ d ∈ markL k ds, isE d := by
  induction ds generalizing k with
  | nil => intro d hd; cases hd
  | cons x ds ih =>
    intro d hd
    rcases List.mem_cons.1 (show d ∈ x.mark k :: markL (k + x.wt) ds from hd) with e | e
    · obtain ⟨ll, p, q, rfl⟩ := h x (by simp)
      rw [e]
      exact ⟨_, _, _, rfl⟩
    · exact ih (fun y hy => h y (by simp [hy])) _ d e
theorem markL_isM {ds : List D3} (h : ∀ d ∈ ds, isM d) (k : Nat) : ∀ d ∈ markL k ds, isM d := by
  induction ds generalizing k with
  | nil => intro d hd; cases hd
  | cons x ds ih =>
    intro d hd
    rcases List.mem_cons.1 (show d ∈ x.mark k :: markL (k + x.wt) ds from hd) with e | e
    · obtain ⟨ll, p, q, rfl⟩ := h x (by simp)
      rw [e]
      exact ⟨_, _, _, rfl⟩
    · exact ih (fun y hy => h y (by simp [hy])) _ d e
theorem OOwn.ownsLt {w : World} {base : Nat} {o : O5} {b : Ob} {lE lI : List R3} (h : OOwn w base o b lE lI) : ∀ g, some g ∈ ownsO o lE lI → base ≤ g ∧ g < w.heap.size := h.bk.1

set_option maxHeartbeats 16000000 in
theorem read_walk (a0 : Option Addr) (len0 cap0 : Nat) (z0 : List Int) (w : World) (w0 : RowIn .u8 w a0 len0 cap0 z0) :
    Calls Try.prog 3 #[.slice a0 len0 cap0] w fun e w' => e = .returned (.bool true) ∧ Below w.heap.size w w' := by
  obtain ⟨hr, hlc, hm⟩ := w0.row
  unfold maxLen at hm
  clear w0
  by_cases hbig : 1048576 < len0
  · clear hr
    go_enter Try.func3, Try.ntmps3
    go_wp2
    go_ret
    exact ⟨rfl, Below.refl _ _⟩
  generalize z0.take len0 = l at hr
  have hsmall : len0 ≤ 1048576 := by omega
  have hs : osz (rdR l) ≤ 1048576 := rdR_size hr.2.1
  have HEX : Hid (∀ d ∈ (rdR l).ex, isE d) := rdR_exs l
  have HIM : Hid (∀ d ∈ (rdR l).im, isM d) := rdR_ims l
  have HR : Hid (BRow w a0 len0 l) := hr
  have hmx : len0 ≤ maxLen := by unfold maxLen; omega
  have hok : (rdOk l != rdOk l) = false := by cases rdOk l <;> rfl
  clear hr hbig
  go_enter Try.func3, Try.ntmps3
  have H1 := copyB a0 len0 cap0 l w HR.out hsmall
  go_wp2_with fail
  refine H1.mono ?_
  rintro e w1 ⟨rfl, _, hr1, hb1, _⟩
  have H2 := specObjectReadM _ len0 len0 l w1 hr1 hsmall (Nat.le_refl _) hmx (by intro e; cases e)
  clear H1
  go_wp2_with fail
  refine H2.mono ?_
  rintro e w2 ⟨oW, rfl, hOW, hb2⟩
  obtain ⟨u1, uc1, u2, uc2, u3, uc3, u4, uc4, eW⟩ := hOW.shape
  subst eW
  simp only at hOW ⊢
  have y2 : Below w.heap.size w w2 := hb1.trans (hb2.mono hb1.size)
  clear H2 hr1 hb1 hb2
  have k3 := B5.new w2 26 ⟨.slice u1 (rdR l).name.length uc1, .slice u2 (rdR l).ex.length uc2, .slice u3 (rdR l).im.length uc3, .int .i64 (rdR l).data, .slice u4 (rdR l).code.length uc4⟩
  have b3 : Below w2.heap.size w2 (w2.alloc (.cells #[.slice u1 (rdR l).name.length uc1, .slice u2 (rdR l).ex.length uc2, .slice u3 (rdR l).im.length uc3, .int .i64 (rdR l).data, .slice u4 (rdR l).code.length uc4] 26 (0, 0))) := (Below.refl _ _).alloc (Nat.le_refl _) _
  have R3w : Hid (ORead (w2.alloc (.cells #[.slice u1 (rdR l).name.length uc1, .slice u2 (rdR l).ex.length uc2, .slice u3 (rdR l).im.length uc3, .int .i64 (rdR l).data, .slice u4 (rdR l).code.length uc4] 26 (0, 0))) ⟨.slice u1 (rdR l).name.length uc1, .slice u2 (rdR l).ex.length uc2, .slice u3 (rdR l).im.length uc3, .int .i64 (rdR l).data, .slice u4 (rdR l).code.length uc4⟩ (rdR l)) := hOW.below b3
  have y3 : Below w.heap.size w (w2.alloc (.cells #[.slice u1 (rdR l).name.length uc1, .slice u2 (rdR l).ex.length uc2, .slice u3 (rdR l).im.length uc3, .int .i64 (rdR l).data, .slice u4 (rdR l).code.length uc4] 26 (0, 0))) := y2.trans (b3.mono y2.size)
  simp only at k3
  go_upto_region 4 with fail
  generalize (w2.alloc (.cells #[.slice u1 (rdR l).name.length uc1, .slice u2 (rdR l).ex.length uc2, .slice u3 (rdR l).im.length uc3, .int .i64 (rdR l).data, .slice u4 (rdR l).code.length uc4] 26 (0, 0))) = w3 at *
  clear hOW y2 b3
  generalize w2.heap.size = gW at *
  have hgW : gW < w3.heap.size := k3.lt
  have H3 := copyB a0 len0 cap0 l w3 (BRow.below HR.out y3) hsmall
  go_wp2_with fail
  refine H3.mono ?_
  rintro e w4 ⟨rfl, o4, hr4, hb4, hz4⟩
  have T4 : Below w3.heap.size w3 w4 := hb4
  have X4 : Hid (Own w4 w3.heap.size (.slice (some ⟨w3.heap.size, 0, none⟩) len0 len0) len0 l) := o4
  have H4 := implObjectReadM _ len0 len0 l w4 hr4 hsmall (Nat.le_refl _) hmx (by intro e; cases e)
  clear H3 hb4 o4
  go_wp2_with fail
  refine H4.mono ?_
  rintro e w5 ⟨oG, rfl, ⟨lE, lI, hO⟩, hb5⟩
  have R5 := hO.read HEX.out HIM.out
  obtain ⟨g1, gc1, g2, gc2, g3, gc3, g4, gc4, eG⟩ := R5.shape
  subst eG
  simp only
  have T5 : Below w3.heap.size w3 w5 := T4.trans (hb5.mono T4.size)
  have X5 : Hid (Own w5 w3.heap.size (.slice (some ⟨w3.heap.size, 0, none⟩) len0 len0) len0 l) := X4.out.below hb5
  have HLO : Hid (∀ g, some g ∈ ownsO ⟨.slice g1 (rdR l).name.length gc1, .slice g2 (rdR l).ex.length gc2, .slice g3 (rdR l).im.length gc3, .int .i64 (rdR l).data, .slice g4 (rdR l).code.length gc4⟩ lE lI → w4.heap.size ≤ g ∧ g < w5.heap.size) := hO.ownsLt
  have hz5 : w4.heap.size ≤ w5.heap.size := hb5.size
  have O5 : Hid (OOwn w5 w4.heap.size ⟨.slice g1 (rdR l).name.length gc1, .slice g2 (rdR l).ex.length gc2, .slice g3 (rdR l).im.length gc3, .int .i64 (rdR l).data, .slice g4 (rdR l).code.length gc4⟩ (rdR l) lE lI) := hO
  clear H4 hr4 hb5 T4 X4 hO R5
  have g6 := B5.new w5 26 ⟨.slice g1 (rdR l).name.length gc1, .slice g2 (rdR l).ex.length gc2, .slice g3 (rdR l).im.length gc3, .int .i64 (rdR l).data, .slice g4 (rdR l).code.length gc4⟩
  have b6 : Below w5.heap.size w5 (w5.alloc (.cells #[.slice g1 (rdR l).name.length gc1, .slice g2 (rdR l).ex.length gc2, .slice g3 (rdR l).im.length gc3, .int .i64 (rdR l).data, .slice g4 (rdR l).code.length gc4] 26 (0, 0))) := (Below.refl _ _).alloc (Nat.le_refl _) _
  have O6 : Hid (OOwn (w5.alloc (.cells #[.slice g1 (rdR l).name.length gc1, .slice g2 (rdR l).ex.length gc2, .slice g3 (rdR l).im.length gc3, .int .i64 (rdR l).data, .slice g4 (rdR l).code.length gc4] 26 (0, 0))) w4.heap.size ⟨.slice g1 (rdR l).name.length gc1, .slice g2 (rdR l).ex.length gc2, .slice g3 (rdR l).im.length gc3, .int .i64 (rdR l).data, .slice g4 (rdR l).code.length gc4⟩ (rdR l) lE lI) := O5.out.below b6
  have X6 : Hid (Own (w5.alloc (.cells #[.slice g1 (rdR l).name.length gc1, .slice g2 (rdR l).ex.length gc2, .slice g3 (rdR l).im.length gc3, .int .i64 (rdR l).data, .slice g4 (rdR l).code.length gc4] 26 (0, 0))) w3.heap.size (.slice (some ⟨w3.heap.size, 0, none⟩) len0 len0) len0 l) := X5.out.below b6
  have T6 : Below w3.heap.size w3 (w5.alloc (.cells #[.slice g1 (rdR l).name.length gc1, .slice g2 (rdR l).ex.length gc2, .slice g3 (rdR l).im.length gc3, .int .i64 (rdR l).data, .slice g4 (rdR l).code.length gc4] 26 (0, 0))) := T5.trans (b6.mono T5.size)
  simp only at g6
  go_upto_region 6 with fail
  generalize (w5.alloc (.cells #[.slice g1 (rdR l).name.length gc1, .slice g2 (rdR l).ex.length gc2, .slice g3 (rdR l).im.length gc3, .int .i64 (rdR l).data, .slice g4 (rdR l).code.length gc4] 26 (0, 0))) = w6 at *
  clear O5 X5 T5 b6
  generalize w5.heap.size = gG at *
  have k6 := k3.below T6 hgW
  obtain ⟨p0, p1, p2, p3, p4⟩ := k6.facts
  obtain ⟨q0, q1, q2, q3, q4⟩ := g6.facts
  simp only at p0 p1 p2 p3 p4 q0 q1 q2 q3 q4
  have H6 := eqObjectM ⟨.slice g1 (rdR l).name.length gc1, .slice g2 (rdR l).ex.length gc2, .slice g3 (rdR l).im.length gc3, .int .i64 (rdR l).data, .slice g4 (rdR l).code.length gc4⟩ ⟨.slice u1 (rdR l).name.length uc1, .slice u2 (rdR l).ex.length uc2, .slice u3 (rdR l).im.length uc3, .int .i64 (rdR l).data, .slice u4 (rdR l).code.length uc4⟩ (rdR l) w6 (O6.out.read HEX.out HIM.out) (R3w.out.below T6) hs
  simp only at H6
  go_wp2_with fail
  refine H6.mono ?_
  rintro e w7 ⟨rfl, hb7⟩
  have T7 : Below w3.heap.size w3 w7 := T6.trans (hb7.mono T6.size)
  have O7 : Hid (OOwn w7 w4.heap.size ⟨.slice g1 (rdR l).name.length gc1, .slice g2 (rdR l).ex.length gc2, .slice g3 (rdR l).im.length gc3, .int .i64 (rdR l).data, .slice g4 (rdR l).code.length gc4⟩ (rdR l) lE lI) := O6.out.below hb7
  have X7 : Hid (Own w7 w3.heap.size (.slice (some ⟨w3.heap.size, 0, none⟩) len0 len0) len0 l) := X6.out.below hb7
  have g7 := g6.below hb7 g6.lt
  have y7 : Below w.heap.size w w7 := y3.trans (T7.mono y3.size)
  clear H6 p0 p1 p2 p3 p4 q0 q1 q2 q3 q4 k6 g6 T6 O6 X6 hb7
  have H7 := copyB a0 len0 cap0 l w7 (BRow.below HR.out y7) hsmall
  go_wp2_with fail
  refine H7.mono ?_
  rintro e w8 ⟨rfl, _, hr8, hb8, _⟩
  have H8 := eqT _ len0 len0 l _ len0 len0 w8 (X7.out.row.below hb8) hr8 (by omega)
  clear H7
  go_wp2_with fail
  refine H8.mono ?_
  rintro e w9 ⟨rfl, hb9⟩
  have hb79 : Below w7.heap.size w7 w9 := hb8.trans (hb9.mono hb8.size)
  have T9 : Below w3.heap.size w3 w9 := T7.trans (hb79.mono T7.size)
  have O9 : Hid (OOwn w9 w4.heap.size ⟨.slice g1 (rdR l).name.length gc1, .slice g2 (rdR l).ex.length gc2, .slice g3 (rdR l).im.length gc3, .int .i64 (rdR l).data, .slice g4 (rdR l).code.length gc4⟩ (rdR l) lE lI) := O7.out.below hb79
  have X9 : Hid (Own w9 w3.heap.size (.slice (some ⟨w3.heap.size, 0, none⟩) len0 len0) len0 l) := X7.out.below hb79
  have g9 := g7.below hb79 g7.lt
  clear H8 hr8 hb8 hb9 T7 O7 X7 g7 y7 hb79
  have H9 := markM w3.heap.size (.slice (some ⟨w3.heap.size, 0, none⟩) len0 len0) len0 l 1 w9 X9.out (by omega) (by omega) (by omega)
  go_wp2_with fail
  refine H9.mono ?_
  rintro e w10 ⟨rfl, _, gr10⟩
  have K10 : KeepO [some w3.heap.size] w9 w10 := KeepO.of gr10 (by simp [Value.ownBlock])
  have T10 : Below w3.heap.size w3 w10 := T9.trans (K10.below (fun k hk => by simp at hk; omega) T9.size)
  have O10 : Hid (OOwn w10 w4.heap.size ⟨.slice g1 (rdR l).name.length gc1, .slice g2 (rdR l).ex.length gc2, .slice g3 (rdR l).im.length gc3, .int .i64 (rdR l).data, .slice g4 (rdR l).code.length gc4⟩ (rdR l) lE lI) := O9.out.same (K10.same hz4)
  have g10 := B5.keep g9 K10 (by simp; omega)
  have k10 := k3.below T10 hgW
  clear H9 T9 O9 X9 g9 gr10 K10
  obtain ⟨p0, p1, p2, p3, p4⟩ := k10.facts
  obtain ⟨q0, q1, q2, q3, q4⟩ := g10.facts
  simp only at p0 p1 p2 p3 p4 q0 q1 q2 q3 q4
  have H10 := eqObjectM ⟨.slice g1 (rdR l).name.length gc1, .slice g2 (rdR l).ex.length gc2, .slice g3 (rdR l).im.length gc3, .int .i64 (rdR l).data, .slice g4 (rdR l).code.length gc4⟩ ⟨.slice u1 (rdR l).name.length uc1, .slice u2 (rdR l).ex.length uc2, .slice u3 (rdR l).im.length uc3, .int .i64 (rdR l).data, .slice u4 (rdR l).code.length uc4⟩ (rdR l) w10 (O10.out.read HEX.out HIM.out) (R3w.out.below T10) hs
  simp only at H10
  have hneg : ¬ ((1 : Int) + (len0 : Int) < 0) := by omega
  go_wp2_with fail
  refine H10.mono ?_
  rintro e w11 ⟨rfl, hb11⟩
  have T11 : Below w3.heap.size w3 w11 := T10.trans (hb11.mono T10.size)
  have O11 : Hid (OOwn w11 w4.heap.size ⟨.slice g1 (rdR l).name.length gc1, .slice g2 (rdR l).ex.length gc2, .slice g3 (rdR l).im.length gc3, .int .i64 (rdR l).data, .slice g4 (rdR l).code.length gc4⟩ (rdR l) lE lI) := O10.out.below hb11
  have g11 := g10.below hb11 g10.lt
  clear H10 p0 p1 p2 p3 p4 q0 q1 q2 q3 q4 k10 g10 T10 O10 hb11
  obtain ⟨q0, q1, q2, q3, q4⟩ := g11.facts
  simp only at q0 q1 q2 q3 q4
  have H11 := markObjectM w4.heap.size ⟨.slice g1 (rdR l).name.length gc1, .slice g2 (rdR l).ex.length gc2, .slice g3 (rdR l).im.length gc3, .int .i64 (rdR l).data, .slice g4 (rdR l).code.length gc4⟩ (rdR l) lE lI w11 O11.out hs HEX.out HIM.out
  simp only at H11
  go_wp2_with fail
  refine H11.mono ?_
  rintro e w12 ⟨lE2, lI2, rfl, hO12, K12⟩
  have hnot : ∀ g, some g ∈ ownsO ⟨.slice g1 (rdR l).name.length gc1, .slice g2 (rdR l).ex.length gc2, .slice g3 (rdR l).im.length gc3, .int .i64 (rdR l).data, .slice g4 (rdR l).code.length gc4⟩ lE lI → w4.heap.size ≤ g ∧ g < gG := HLO.out
  have g12 := B5.keep g11 K12 (fun hm => by have := hnot _ hm; omega)
  have T12 : Below w3.heap.size w3 w12 := T11.trans (K12.below (fun k hk => by have := hnot k hk; omega) T11.size)
  have R12 : Hid (ORead w12 ⟨.slice g1 (rdR l).name.length gc1, .slice g2 (rdR l).ex.length gc2, .slice g3 (rdR l).im.length gc3, .int .i64 (rdR l).data, .slice g4 (rdR l).code.length gc4⟩ (markOb 1 (rdR l))) := hO12.read (markL_isE HEX.out _) (markL_isM HIM.out _)
  clear H11 q0 q1 q2 q3 q4 g11 T11 O11 hO12 K12 HLO hnot
  have hwt : wtO (rdR l) ≤ 4194304 := Nat.le_trans (wtO_le _) (by omega)
  have HH := fun (wx : World) (h : Below w12.heap.size w12 wx) => heldObjectM ⟨.slice g1 (rdR l).name.length gc1, .slice g2 (rdR l).ex.length gc2, .slice g3 (rdR l).im.length gc3, .int .i64 (rdR l).data, .slice g4 (rdR l).code.length gc4⟩ (rdR l) wx (R12.out.below h) hs HEX.out HIM.out
  simp only at HH
  generalize wtO (rdR l) = M at *
  have hM : ¬ (((1 + M : Nat) : Int) < 0) := by omega
  have hMM : (((1 + M : Nat) : Int) != ((1 + M : Nat) : Int)) = false := by simp
  obtain ⟨q0, q1, q2, q3, q4⟩ := g12.facts
  simp only at q0 q1 q2 q3 q4
  go_wp2_with fail
  refine (HH w12 (Below.refl _ _)).mono ?_
  rintro e w13 ⟨rfl, hb13⟩
  have T13 : Below w3.heap.size w3 w13 := T12.trans (hb13.mono T12.size)
  have y13 : Below w.heap.size w w13 := y3.trans (T13.mono y3.size)
  have H13 := copyB a0 len0 cap0 l w13 (BRow.below HR.out y13) hsmall
  clear q0 q1 q2 q3 q4
  go_wp2_with fail
  refine H13.mono ?_
  rintro e w14 ⟨rfl, _, hr14, hb14, _⟩
  have H14 := implObjectReadM _ len0 len0 l w14 hr14 hsmall (Nat.le_refl _) hmx (by intro e; cases e)
  clear H13
  go_wp2_with fail
  refine H14.mono ?_
  rintro e w15 ⟨oH, rfl, ⟨lEh, lIh, hOH⟩, hb15⟩
  have RH := hOH.read HEX.out HIM.out
  obtain ⟨h1, hc1, h2, hc2, h3, hc3, h4, hc4, eH⟩ := RH.shape
  subst eH
  simp only
  have b1215 : Below w12.heap.size w12 w15 := (hb13.trans (hb14.mono hb13.size)).trans (hb15.mono (Nat.le_trans hb13.size hb14.size))
  have RH15 : Hid (ORead w15 ⟨.slice h1 (rdR l).name.length hc1, .slice h2 (rdR l).ex.length hc2, .slice h3 (rdR l).im.length hc3, .int .i64 (rdR l).data, .slice h4 (rdR l).code.length hc4⟩ (rdR l)) := RH
  clear H14 hr14 hb14 hb15 hOH RH hb13 T13 y13
  have h16 := B5.new w15 26 ⟨.slice h1 (rdR l).name.length hc1, .slice h2 (rdR l).ex.length hc2, .slice h3 (rdR l).im.length hc3, .int .i64 (rdR l).data, .slice h4 (rdR l).code.length hc4⟩
  have b16 : Below w15.heap.size w15 (w15.alloc (.cells #[.slice h1 (rdR l).name.length hc1, .slice h2 (rdR l).ex.length hc2, .slice h3 (rdR l).im.length hc3, .int .i64 (rdR l).data, .slice h4 (rdR l).code.length hc4] 26 (0, 0))) := (Below.refl _ _).alloc (Nat.le_refl _) _
  have b1216 : Below w12.heap.size w12 (w15.alloc (.cells #[.slice h1 (rdR l).name.length hc1, .slice h2 (rdR l).ex.length hc2, .slice h3 (rdR l).im.length hc3, .int .i64 (rdR l).data, .slice h4 (rdR l).code.length hc4] 26 (0, 0))) := b1215.trans (b16.mono b1215.size)
  have RH16 : Hid (ORead (w15.alloc (.cells #[.slice h1 (rdR l).name.length hc1, .slice h2 (rdR l).ex.length hc2, .slice h3 (rdR l).im.length hc3, .int .i64 (rdR l).data, .slice h4 (rdR l).code.length hc4] 26 (0, 0))) ⟨.slice h1 (rdR l).name.length hc1, .slice h2 (rdR l).ex.length hc2, .slice h3 (rdR l).im.length hc3, .int .i64 (rdR l).data, .slice h4 (rdR l).code.length hc4⟩ (rdR l)) := RH15.out.below b16
  simp only at h16
  go_upto_region 23 with fail
  generalize (w15.alloc (.cells #[.slice h1 (rdR l).name.length hc1, .slice h2 (rdR l).ex.length hc2, .slice h3 (rdR l).im.length hc3, .int .i64 (rdR l).data, .slice h4 (rdR l).code.length hc4] 26 (0, 0))) = w16 at *
  clear b1215 b16 RH15
  generalize w15.heap.size = gH at *
  have T16 : Below w3.heap.size w3 w16 := T12.trans (b1216.mono T12.size)
  have k16 := k3.below T16 hgW
  obtain ⟨p0, p1, p2, p3, p4⟩ := k16.facts
  obtain ⟨q0, q1, q2, q3, q4⟩ := h16.facts
  simp only at p0 p1 p2 p3 p4 q0 q1 q2 q3 q4
  have H16 := eqObjectM ⟨.slice h1 (rdR l).name.length hc1, .slice h2 (rdR l).ex.length hc2, .slice h3 (rdR l).im.length hc3, .int .i64 (rdR l).data, .slice h4 (rdR l).code.length hc4⟩ ⟨.slice u1 (rdR l).name.length uc1, .slice u2 (rdR l).ex.length uc2, .slice u3 (rdR l).im.length uc3, .int .i64 (rdR l).data, .slice u4 (rdR l).code.length uc4⟩ (rdR l) w16 RH16.out (R3w.out.below T16) hs
  simp only at H16
  go_wp2_with fail
  refine H16.mono ?_
  rintro e w17 ⟨rfl, hb17⟩
  have b1217 : Below w12.heap.size w12 w17 := b1216.trans (hb17.mono b1216.size)
  have T17 : Below w3.heap.size w3 w17 := T12.trans (b1217.mono T12.size)
  have g17 := g12.below b1217 g12.lt
  clear H16 p0 p1 p2 p3 p4 q0 q1 q2 q3 q4 k16 h16 T16 b1216 RH16 hb17
  obtain ⟨q0, q1, q2, q3, q4⟩ := g17.facts
  simp only at q0 q1 q2 q3 q4
  go_wp2_with fail
  refine (HH w17 b1217).mono ?_
  rintro e w18 ⟨rfl, hb18⟩
  have T18 : Below w3.heap.size w3 w18 := T17.trans (hb18.mono T17.size)
  go_wp2_with fail
  go_ret
  exact ⟨rfl, y3.trans (T18.mono y3.size)⟩
end Go.Proofs.Ythfknedokkccaaa

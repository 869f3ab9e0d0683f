/- Decode as it is built, where there are twelve bytes at the place. -/
import Derived.Test.YtcidckmocmdijaaDoorDecBody
namespace Go.Proofs.YtcidckmocmdijaaDoor
open Go.RowKit
set_option linter.unusedVariables false
set_option linter.unusedSimpArgs false
set_option maxRecDepth 100000

set_option maxHeartbeats 8000000 in
theorem implDecode12 (b off n c k : Nat) (x0 x1 x2 x3 x4 x5 x6 x7 x8 x9 x10 x11 : Int) (w : World) (h : Twelve w b (off + 12 * k) x0 x1 x2 x3 x4 x5 x6 x7 x8 x9 x10 x11) (hx : Bytes12 x0 x1 x2 x3 x4 x5 x6 x7 x8 x9 x10 x11) (hk : 12 * k + 12 ≤ n) (hc : n ≤ c) (hm : c ≤ maxLen) (hO : Ops w) (ok : Bool) (hok : insB x0 x1 x2 x3 (num4 x4 x5 x6 x7) (num4 x8 x9 x10 x11) = ok) :
    Calls Tryd.prog 6 #[.slice (some ⟨b, off, none⟩) n c, .int .i64 k] w fun e w' => e = .returned (.tuple #[.agg #[.int .i64 (sel ok x0), .int .i64 (sel ok x1), .int .i64 (sel ok x2), .int .i64 (sel ok x3), .int .i64 (sel ok (num4 x4 x5 x6 x7)), .int .i64 (sel ok (num4 x8 x9 x10 x11))], .bool ok]) ∧ Below w.heap.size w w' := by
  have HBy := fun w => insBytesM b off n c k w hk hc hm
  unfold maxLen at hm
  have HO := insOfM b (off + 12 * k) 12 x0 x1 x2 x3 x4 x5 x6 x7 x8 x9 x10 x11
  have hb : Below w.heap.size w (w.alloc (.cells #[.int .i64 0, .int .i64 0, .int .i64 0, .int .i64 0, .int .i64 0, .int .i64 0] 26)) := (Below.refl _ _).alloc (Nat.le_refl _) _
  have hz := heap_new w #[.int .i64 0, .int .i64 0, .int .i64 0, .int .i64 0, .int .i64 0, .int .i64 0] 26
  have ht := h.below hb
  have HI := implInsOkM x0 x1 x2 x3 (num4 x4 x5 x6 x7) (num4 x8 x9 x10 x11)
  rw [hok] at HI
  have HOf := fun w h => HO w h hx
  generalize num4 x4 x5 x6 x7 = n1 at *
  generalize num4 x8 x9 x10 x11 = m1 at *
  have hgs : w.heap.size < (w.alloc (.cells #[.int .i64 0, .int .i64 0, .int .i64 0, .int .i64 0, .int .i64 0, .int .i64 0] 26)).heap.size := by simp
  have HOp : Hid (Ops w) := hO
  clear hok h hx HO hO
  go_enter Tryd.func6, Tryd.ntmps6
  go_upto_region 3 with fail
  generalize w.alloc (.cells #[.int .i64 0, .int .i64 0, .int .i64 0, .int .i64 0, .int .i64 0, .int .i64 0] 26) = w1 at *
  have HZ : Hid _ := hz
  have HB : Hid _ := hb
  have HT : Hid (Twelve w1 b (off + 12 * k) x0 x1 x2 x3 x4 x5 x6 x7 x8 x9 x10 x11) := ht
  clear hz hb ht
  generalize hg : w.heap.size = g at *
  have HG : Hid (w.heap.size = g) := hg
  clear hg
  go_wp2_with fail
  refine (HBy _).mono ?_
  rintro e w2 ⟨rfl, rfl⟩
  go_wp2_with fail
  refine (HOf _ HT.out).mono ?_
  rintro e w3 ⟨rfl, hb3⟩
  have Hb3 : Hid _ := hb3
  clear hb3
  go_upto_region 4 with fail
  have hAl := heap_new w3 #[.int .i64 x0, .int .i64 x1, .int .i64 x2, .int .i64 x3, .int .i64 n1, .int .i64 m1] 26
  have hw3 : Below w2.heap.size w2 (w3.alloc (.cells #[.int .i64 x0, .int .i64 x1, .int .i64 x2, .int .i64 x3, .int .i64 n1, .int .i64 m1] 26)) := Hb3.out.alloc Hb3.out.size _
  have hz := (hw3.block g hgs).trans HZ.out
  have hb := HB.out.trans (hw3.mono (Nat.le_of_lt hgs))
  have hlt : w3.heap.size < (w3.alloc (.cells #[.int .i64 x0, .int .i64 x1, .int .i64 x2, .int .i64 x3, .int .i64 n1, .int .i64 m1] 26)).heap.size := by simp
  have hgc : g < (w3.alloc (.cells #[.int .i64 x0, .int .i64 x1, .int .i64 x2, .int .i64 x3, .int .i64 n1, .int .i64 m1] 26)).heap.size := Nat.lt_of_lt_of_le hgs hw3.size
  generalize w3.alloc (.cells #[.int .i64 x0, .int .i64 x1, .int .i64 x2, .int .i64 x3, .int .i64 n1, .int .i64 m1] 26) = w4 at *
  generalize w3.heap.size = gA at *
  clear Hb3 hw3 HZ HB HT HBy HOf
  obtain ⟨a0, a1, a2, a3, a4, a5, _⟩ := row6 hAl
  have HA : Hid _ := hAl
  have Hz : Hid _ := hz
  have Hb : Hid _ := hb
  clear hAl hz hb
  go_wp2_with fail
  refine (HI _ (HOp.out.below (by rw [HG.out]; exact Hb.out))).mono ?_
  rintro e w5 ⟨rfl, hb5⟩
  have hz := (hb5.block g hgc).trans Hz.out
  have hA := (hb5.block gA hlt).trans HA.out
  have hb := Hb.out.trans (hb5.mono (Nat.le_of_lt hgc))
  clear HA Hz Hb hb5 a0 a1 a2 a3 a4 a5 HI hgs hgc hlt
  obtain ⟨z0, z1, z2, z3, z4, z5, y0, y1, y2, y3, y4, y5⟩ := row6 hz
  obtain ⟨a0, a1, a2, a3, a4, a5, _⟩ := row6 hA
  have HZ : Hid _ := hz
  have HB : Hid _ := hb
  clear hz hb hA
  cases ok
  · go_wp2_with fail
    have hb3 := put6_block (.int .i64 0) (.int .i64 0) (.int .i64 0) (.int .i64 0) (.int .i64 0) (.int .i64 0) HZ.out
    have hd3 := put6_below HB.out (Nat.le_refl g) (.int .i64 0) (.int .i64 0) (.int .i64 0) (.int .i64 0) (.int .i64 0) (.int .i64 0)
    show bodyPost _ _ _ _ _ (put6 w5 g (.int .i64 0) (.int .i64 0) (.int .i64 0) (.int .i64 0) (.int .i64 0) (.int .i64 0))
    generalize put6 w5 g (.int .i64 0) (.int .i64 0) (.int .i64 0) (.int .i64 0) (.int .i64 0) (.int .i64 0) = W at hb3 hd3 ⊢
    obtain ⟨d0, d1, d2, d3, d4, d5, _⟩ := row6 hb3
    refine bodyPost_ret (v := .tuple #[.agg #[.int .i64 0, .int .i64 0, .int .i64 0, .int .i64 0, .int .i64 0, .int .i64 0], .bool false]) (by simp [results, Tryd.results6, go_sem, d0, d1, d2, d3, d4, d5]) rfl ⟨rfl, by rw [HG.out]; exact hd3⟩
  · go_wp2_with fail
    have hb3 := put6_block (.int .i64 x0) (.int .i64 x1) (.int .i64 x2) (.int .i64 x3) (.int .i64 n1) (.int .i64 m1) HZ.out
    have hd3 := put6_below HB.out (Nat.le_refl g) (.int .i64 x0) (.int .i64 x1) (.int .i64 x2) (.int .i64 x3) (.int .i64 n1) (.int .i64 m1)
    show bodyPost _ _ _ _ _ (put6 w5 g (.int .i64 x0) (.int .i64 x1) (.int .i64 x2) (.int .i64 x3) (.int .i64 n1) (.int .i64 m1))
    generalize put6 w5 g (.int .i64 x0) (.int .i64 x1) (.int .i64 x2) (.int .i64 x3) (.int .i64 n1) (.int .i64 m1) = W at hb3 hd3 ⊢
    obtain ⟨d0, d1, d2, d3, d4, d5, _⟩ := row6 hb3
    refine bodyPost_ret (v := .tuple #[.agg #[.int .i64 x0, .int .i64 x1, .int .i64 x2, .int .i64 x3, .int .i64 n1, .int .i64 m1], .bool true]) (by simp [results, Tryd.results6, go_sem, d0, d1, d2, d3, d4, d5]) rfl ⟨rfl, by rw [HG.out]; exact hd3⟩
end Go.Proofs.YtcidckmocmdijaaDoor

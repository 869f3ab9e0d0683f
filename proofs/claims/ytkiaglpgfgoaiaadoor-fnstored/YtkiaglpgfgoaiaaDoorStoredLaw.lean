/- The law of stores: whatever the bytes, what is stored through a drawn word is loaded through it, all else stays; where it is refused nothing changes. -/
import Derived.Test.YtkiaglpgfgoaiaaDoorStoredPure
import Derived.Deep.Cut
namespace Go.Proofs.YtkiaglpgfgoaiaaDoor
open Go.RowKit Go.WideShapes Go.ChangeShapes
set_option linter.unusedVariables false
set_option linter.unusedSimpArgs false
set_option maxRecDepth 100000

theorem open_bytes {H : Type} {enc : TypeId × Value → H} {w : World} {b0 : Nat} {v : Value} {d : DataW H} {ps : List MemPlace}
    (hv : Value.okWide Tryd.prog w .any b0 22 v) (h : DataW.Trod enc Tryd.prog w 0 (fun _ => true) true 22 v d ps) : ∃ a n c zs, v = .slice a n c ∧ RowIn .u8 w a n c zs := by
  obtain ⟨a, n, c, rfl⟩ := okWide_slice Tryd.underlying22 hv
  obtain ⟨fuel, hf⟩ := h
  rcases open_ints Tryd.underlying22 Tryd.underlying5 (by kernel_rfl) hf with ⟨hcs, _⟩ | ⟨x, l, c, zs, hcs, _, hl, hm, hz, _, hcell, hwz⟩
  · simp [Value.cells] at hcs
    obtain ⟨rfl, rfl, rfl⟩ := hcs
    exact ⟨_, _, _, [], rfl, .inl ⟨rfl, rfl, rfl, rfl⟩⟩
  · simp [Value.cells] at hcs
    obtain ⟨rfl, rfl, rfl⟩ := hcs
    exact ⟨_, _, _, zs, rfl, .inr ⟨_, rfl, hl, hm, by simpa using hz, hcell, hwz⟩⟩

set_option maxHeartbeats 16000000 in
theorem stored_walk (w : World) (p t b : Addr) (hs : Sents w p t b) (ar : Option Addr) (nr cr : Nat) (zs : List Int) (w0 : RowIn .u8 w ar nr cr zs) :
    Calls Tryd.prog 3 #[.slice ar nr cr] w fun e w' => e = .returned (.bool true) ∧ Below w.heap.size w w' := by
  obtain ⟨hr, hlc, hm⟩ := w0.row
  unfold maxLen at hm
  have HSN : Hid (Sents w p t b) := hs
  clear hs w0
  go_enter Tryd.func3, Tryd.ntmps3
  go_wp2_with fail
  refine (drawStoreM ar nr cr _ _ hr (by omega)).mono ?_
  rintro e w1 ⟨a, n, c, l, xt, xn, xl, xh, xa, xp, xs, by_, yt, yn, yl, yh, ya, yp, ys, rfl, hxs, hys, hby, hmd, hb1⟩
  clear hr
  have HXS : Hid (In64 xs) := hxs
  have HYS : Hid (In64 ys) := hys
  have HBY : Hid (InInt by_) := hby
  have HL : Hid (l.length = n) := hmd.1
  have hn40 : n ≤ 40 := hmd.2.1
  have hn : n ≤ 1048576 := by omega
  have HF : Hid (∀ x ∈ l, In64 x.s) := hmd.2.2.2
  have hM1 : WRow w1 a n l := ⟨hmd.1, fun hp => by
    obtain ⟨gb, e, hw, _⟩ := hmd.2.2.1 hp
    exact ⟨gb, 0, e, by obtain ⟨b', o', e', hc⟩ := (hw.row hmd.1).2 hp; cases e'; exact hc⟩⟩
  have HM1 : Hid (WRow w1 a n l) := hM1
  have HB1 : Hid (Below w.heap.size w w1) := hb1
  clear hxs hys hby hmd hM1 hb1
  go_upto_region 2 with fail
  have H2 : Hid ((((w1.alloc (.cells #[.slice a n c] 25)).alloc (.cells #[.bool xt, .int .i64 xn, .int .i64 xl, .int .i64 xh, .int .i64 xa, .int .i64 xp, .int .i64 xs] 27)).alloc (.cells #[.bool yt, .int .i64 yn, .int .i64 yl, .int .i64 yh, .int .i64 ya, .int .i64 yp, .int .i64 ys] 27)).heap[w1.heap.size]? = some (.cells #[.slice a n c] 25 (0, 0)) ∧ (((w1.alloc (.cells #[.slice a n c] 25)).alloc (.cells #[.bool xt, .int .i64 xn, .int .i64 xl, .int .i64 xh, .int .i64 xa, .int .i64 xp, .int .i64 xs] 27)).alloc (.cells #[.bool yt, .int .i64 yn, .int .i64 yl, .int .i64 yh, .int .i64 ya, .int .i64 yp, .int .i64 ys] 27)).heap[w1.heap.size + 1]? = some (.cells #[.bool xt, .int .i64 xn, .int .i64 xl, .int .i64 xh, .int .i64 xa, .int .i64 xp, .int .i64 xs] 27 (0, 0)) ∧ (((w1.alloc (.cells #[.slice a n c] 25)).alloc (.cells #[.bool xt, .int .i64 xn, .int .i64 xl, .int .i64 xh, .int .i64 xa, .int .i64 xp, .int .i64 xs] 27)).alloc (.cells #[.bool yt, .int .i64 yn, .int .i64 yl, .int .i64 yh, .int .i64 ya, .int .i64 yp, .int .i64 ys] 27)).heap[w1.heap.size + 2]? = some (.cells #[.bool yt, .int .i64 yn, .int .i64 yl, .int .i64 yh, .int .i64 ya, .int .i64 yp, .int .i64 ys] 27 (0, 0)) ∧ Below w.heap.size w (((w1.alloc (.cells #[.slice a n c] 25)).alloc (.cells #[.bool xt, .int .i64 xn, .int .i64 xl, .int .i64 xh, .int .i64 xa, .int .i64 xp, .int .i64 xs] 27)).alloc (.cells #[.bool yt, .int .i64 yn, .int .i64 yl, .int .i64 yh, .int .i64 ya, .int .i64 yp, .int .i64 ys] 27))) := by
    refine ⟨?_, ?_, ?_, ((HB1.out.alloc HB1.out.size _).alloc (by have := HB1.out.size; simp; omega) _).alloc (by have := HB1.out.size; simp; omega) _⟩
    · rw [alloc_block (by simp; omega), alloc_block (by simp)]; exact heap_alloc_new w1 _
    · rw [alloc_block (by simp)]
      have := heap_alloc_new (w1.alloc (.cells #[.slice a n c] 25)) (.cells #[.bool xt, .int .i64 xn, .int .i64 xl, .int .i64 xh, .int .i64 xa, .int .i64 xp, .int .i64 xs] 27)
      simpa using this
    · have := heap_alloc_new ((w1.alloc (.cells #[.slice a n c] 25)).alloc (.cells #[.bool xt, .int .i64 xn, .int .i64 xl, .int .i64 xh, .int .i64 xa, .int .i64 xp, .int .i64 xs] 27)) (.cells #[.bool yt, .int .i64 yn, .int .i64 yl, .int .i64 yh, .int .i64 ya, .int .i64 yp, .int .i64 ys] 27)
      simpa using this
  have HM2 : Hid (WRow (((w1.alloc (.cells #[.slice a n c] 25)).alloc (.cells #[.bool xt, .int .i64 xn, .int .i64 xl, .int .i64 xh, .int .i64 xa, .int .i64 xp, .int .i64 xs] 27)).alloc (.cells #[.bool yt, .int .i64 yn, .int .i64 yl, .int .i64 yh, .int .i64 ya, .int .i64 yp, .int .i64 ys] 27)) a n l) := HM1.out.below ((((Below.refl _ _).alloc (Nat.le_refl _) _).alloc (by simp) _).alloc (by simp; omega) _)
  clear HM1 HB1
  generalize ((w1.alloc (.cells #[.slice a n c] 25)).alloc (.cells #[.bool xt, .int .i64 xn, .int .i64 xl, .int .i64 xh, .int .i64 xa, .int .i64 xp, .int .i64 xs] 27)).alloc (.cells #[.bool yt, .int .i64 yn, .int .i64 yl, .int .i64 yh, .int .i64 ya, .int .i64 yp, .int .i64 ys] 27) = w2 at *
  generalize w1.heap.size = gs at *
  rw [show gs + 1 + 1 = gs + 2 from rfl]
  obtain ⟨m0, _⟩ := one_facts H2.out.1
  obtain ⟨x0, x1, x2, x3, x4, x5, x6, _⟩ := row_facts H2.out.2.1
  obtain ⟨y0, y1, y2, y3, y4, y5, y6, _⟩ := row_facts H2.out.2.2.1
  go_wp2_with fail
  cases hok : (memB l && (okB xt xn xl xh xa xp xs && okB yt yn yl yh ya yp ys))
  · have HA := fun w h => implStoreNo a n c l xt xn xl xh xa xp xs by_ yt yn yl yh ya yp ys w h hn HF.out HXS.out HYS.out hok
    refine (HA _ HM2.out).mono ?_
    rintro e w3 ⟨rfl, hb3⟩
    go_upto_region 3 with fail
    have V : Hid (VS w (w3.alloc (.cells #[.slice none 0 0] 25)) gs w3.heap.size a n c (.slice none 0 0) l (.bool xt) (.int .i64 xn) (.int .i64 xl) (.int .i64 xh) (.int .i64 xa) (.int .i64 xp) (.int .i64 xs) (.bool yt) (.int .i64 yn) (.int .i64 yl) (.int .i64 yh) (.int .i64 ya) (.int .i64 yp) (.int .i64 ys)) := by
      have hb4 : Below w2.heap.size w2 (w3.alloc (.cells #[.slice none 0 0] 25)) := hb3.alloc hb3.size _
      obtain ⟨q0, q1, q2, qb⟩ := H2.out
      exact ⟨(hb4.block _ (Array.getElem?_eq_some_iff.1 q0).1).trans q0, (hb4.block _ (Array.getElem?_eq_some_iff.1 q1).1).trans q1, (hb4.block _ (Array.getElem?_eq_some_iff.1 q2).1).trans q2, heap_alloc_new w3 _, HM2.out.below hb4, qb.trans (hb4.mono qb.size)⟩
    clear HA hb3 H2 HM2 HSN x0 x1 x2 x3 x4 x5 x6 y0 y1 y2 y3 y4 y5 y6 m0
    generalize w3.alloc (.cells #[.slice none 0 0] 25) = w4 at *
    generalize w3.heap.size = gx at *
    have H1 := fun w h => specMemM a n c l w h hn
    have H2 := specOkB xt xn xl xh xa xp xs
    have H3 := specOkB yt yn yl yh ya yp ys
    generalize memB l = b1 at *
    generalize okB xt xn xl xh xa xp xs = b2 at *
    generalize okB yt yn yl yh ya yp ys = b3 at *
    obtain ⟨m0, _⟩ := one_facts V.out.mb
    obtain ⟨x0, x1, x2, x3, x4, x5, x6, _⟩ := row_facts V.out.xb
    obtain ⟨y0, y1, y2, y3, y4, y5, y6, _⟩ := row_facts V.out.yb
    obtain ⟨z0, _⟩ := one_facts V.out.zb
    go_wp2_with fail
    refine (H1 _ V.out.mem).mono ?_
    rintro e w5 ⟨rfl, hb⟩
    have V' : Hid (VS w w5 gs gx a n c (.slice none 0 0) l (.bool xt) (.int .i64 xn) (.int .i64 xl) (.int .i64 xh) (.int .i64 xa) (.int .i64 xp) (.int .i64 xs) (.bool yt) (.int .i64 yn) (.int .i64 yl) (.int .i64 yh) (.int .i64 ya) (.int .i64 yp) (.int .i64 ys)) := V.out.below hb
    clear V hb m0 x0 x1 x2 x3 x4 x5 x6 y0 y1 y2 y3 y4 y5 y6 z0
    have V : Hid (VS w w5 gs gx a n c (.slice none 0 0) l (.bool xt) (.int .i64 xn) (.int .i64 xl) (.int .i64 xh) (.int .i64 xa) (.int .i64 xp) (.int .i64 xs) (.bool yt) (.int .i64 yn) (.int .i64 yl) (.int .i64 yh) (.int .i64 ya) (.int .i64 yp) (.int .i64 ys)) := V'
    clear V'
    cases b1
    · obtain ⟨m0, _⟩ := one_facts V.out.mb
      obtain ⟨x0, x1, x2, x3, x4, x5, x6, _⟩ := row_facts V.out.xb
      obtain ⟨y0, y1, y2, y3, y4, y5, y6, _⟩ := row_facts V.out.yb
      obtain ⟨z0, _⟩ := one_facts V.out.zb
      go_wp2_with fail
      go_ret
      exact ⟨rfl, V.out.bl⟩
    · obtain ⟨m0, _⟩ := one_facts V.out.mb
      obtain ⟨x0, x1, x2, x3, x4, x5, x6, _⟩ := row_facts V.out.xb
      obtain ⟨y0, y1, y2, y3, y4, y5, y6, _⟩ := row_facts V.out.yb
      obtain ⟨z0, _⟩ := one_facts V.out.zb
      go_wp2_with fail
      refine (H2 _).mono ?_
      rintro e w6 ⟨rfl, hb⟩
      have V' : Hid (VS w w6 gs gx a n c (.slice none 0 0) l (.bool xt) (.int .i64 xn) (.int .i64 xl) (.int .i64 xh) (.int .i64 xa) (.int .i64 xp) (.int .i64 xs) (.bool yt) (.int .i64 yn) (.int .i64 yl) (.int .i64 yh) (.int .i64 ya) (.int .i64 yp) (.int .i64 ys)) := V.out.below hb
      clear V hb m0 x0 x1 x2 x3 x4 x5 x6 y0 y1 y2 y3 y4 y5 y6 z0
      have V : Hid (VS w w6 gs gx a n c (.slice none 0 0) l (.bool xt) (.int .i64 xn) (.int .i64 xl) (.int .i64 xh) (.int .i64 xa) (.int .i64 xp) (.int .i64 xs) (.bool yt) (.int .i64 yn) (.int .i64 yl) (.int .i64 yh) (.int .i64 ya) (.int .i64 yp) (.int .i64 ys)) := V'
      clear V'
      cases b2
      · obtain ⟨m0, _⟩ := one_facts V.out.mb
        obtain ⟨x0, x1, x2, x3, x4, x5, x6, _⟩ := row_facts V.out.xb
        obtain ⟨y0, y1, y2, y3, y4, y5, y6, _⟩ := row_facts V.out.yb
        obtain ⟨z0, _⟩ := one_facts V.out.zb
        go_wp2_with fail
        go_ret
        exact ⟨rfl, V.out.bl⟩
      · obtain ⟨m0, _⟩ := one_facts V.out.mb
        obtain ⟨x0, x1, x2, x3, x4, x5, x6, _⟩ := row_facts V.out.xb
        obtain ⟨y0, y1, y2, y3, y4, y5, y6, _⟩ := row_facts V.out.yb
        obtain ⟨z0, _⟩ := one_facts V.out.zb
        go_wp2_with fail
        refine (H3 _).mono ?_
        rintro e w7 ⟨rfl, hb⟩
        have V' : Hid (VS w w7 gs gx a n c (.slice none 0 0) l (.bool xt) (.int .i64 xn) (.int .i64 xl) (.int .i64 xh) (.int .i64 xa) (.int .i64 xp) (.int .i64 xs) (.bool yt) (.int .i64 yn) (.int .i64 yl) (.int .i64 yh) (.int .i64 ya) (.int .i64 yp) (.int .i64 ys)) := V.out.below hb
        clear V hb m0 x0 x1 x2 x3 x4 x5 x6 y0 y1 y2 y3 y4 y5 y6 z0
        have V : Hid (VS w w7 gs gx a n c (.slice none 0 0) l (.bool xt) (.int .i64 xn) (.int .i64 xl) (.int .i64 xh) (.int .i64 xa) (.int .i64 xp) (.int .i64 xs) (.bool yt) (.int .i64 yn) (.int .i64 yl) (.int .i64 yh) (.int .i64 ya) (.int .i64 yp) (.int .i64 ys)) := V'
        clear V'
        cases b3
        · obtain ⟨m0, _⟩ := one_facts V.out.mb
          obtain ⟨x0, x1, x2, x3, x4, x5, x6, _⟩ := row_facts V.out.xb
          obtain ⟨y0, y1, y2, y3, y4, y5, y6, _⟩ := row_facts V.out.yb
          obtain ⟨z0, _⟩ := one_facts V.out.zb
          go_wp2_with fail
          go_ret
          exact ⟨rfl, V.out.bl⟩
        · simp at hok
  · obtain ⟨okm, okx, oky⟩ : memB l = true ∧ okB xt xn xl xh xa xp xs = true ∧ okB yt yn yl yh ya yp ys = true := by
      simp only [Bool.and_eq_true] at hok
      exact hok
    clear hok
    have HA := fun w h hs => implStoreYes a n c l xt xn xl xh xa xp xs by_ yt yn yl yh ya yp ys w h hn HF.out HXS.out HYS.out p t b hs okm okx oky
    have HOX : Hid (okB xt xn xl xh xa xp xs = true) := okx
    have HT : Hid (storeJ n xt xn xl xh xa xp xs by_ yt yp = storeJ n xt xn xl xh xa xp xs by_ yt yp) := rfl
    obtain ⟨L, hL⟩ : ∃ L, L = storeK l xt xn xl xh xa xp xs by_ ⟨yt, yn, yl, yh, ya, yp, ys⟩ := ⟨_, rfl⟩
    obtain ⟨tr, htr⟩ : ∃ tr, tr = storeJ n xt xn xl xh xa xp xs by_ yt yp := ⟨_, rfl⟩
    rw [← hL, ← htr] at HA
    have HLL : Hid (L = storeK l xt xn xl xh xa xp xs by_ ⟨yt, yn, yl, yh, ya, yp, ys⟩) := hL
    have HTR : Hid (tr = storeJ n xt xn xl xh xa xp xs by_ yt yp) := htr
    have HLn : Hid (L.length = n) := by show _ = _; rw [hL, storeK_len]; exact HL.out
    clear hL htr HT
    refine (HA _ HM2.out (HSN.out.below H2.out.2.2.2)).mono ?_
    rintro e w3 ⟨g', rfl, hgg, hW3, hb3⟩
    go_upto_region 3 with fail
    have V : Hid (VS w (w3.alloc (.cells #[.slice (some ⟨g', 0, none⟩) n n] 25)) gs w3.heap.size a n c (.slice (some ⟨g', 0, none⟩) n n) l (.bool xt) (.int .i64 xn) (.int .i64 xl) (.int .i64 xh) (.int .i64 xa) (.int .i64 xp) (.int .i64 xs) (.bool yt) (.int .i64 yn) (.int .i64 yl) (.int .i64 yh) (.int .i64 ya) (.int .i64 yp) (.int .i64 ys)) := by
      have hb4 : Below w2.heap.size w2 (w3.alloc (.cells #[.slice (some ⟨g', 0, none⟩) n n] 25)) := hb3.alloc hb3.size _
      obtain ⟨q0, q1, q2, qb⟩ := H2.out
      exact ⟨(hb4.block _ (Array.getElem?_eq_some_iff.1 q0).1).trans q0, (hb4.block _ (Array.getElem?_eq_some_iff.1 q1).1).trans q1, (hb4.block _ (Array.getElem?_eq_some_iff.1 q2).1).trans q2, heap_alloc_new w3 _, HM2.out.below hb4, qb.trans (hb4.mono qb.size)⟩
    have HW : Hid (WB (w3.alloc (.cells #[.slice (some ⟨g', 0, none⟩) n n] 25)) g' L) := (alloc_block (Array.getElem?_eq_some_iff.1 hW3).1).trans hW3
    clear HA hb3 hW3 H2 HM2 hgg x0 x1 x2 x3 x4 x5 x6 y0 y1 y2 y3 y4 y5 y6 m0
    generalize w3.alloc (.cells #[.slice (some ⟨g', 0, none⟩) n n] 25) = w4 at *
    generalize w3.heap.size = gx at *
    have H1 := fun w h => specMemM a n c l w h hn
    have H2 := specOkB xt xn xl xh xa xp xs
    have H3 := specOkB yt yn yl yh ya yp ys
    rw [okm] at H1
    rw [okx] at H2
    rw [oky] at H3
    clear okm okx oky
    obtain ⟨m0, _⟩ := one_facts V.out.mb
    obtain ⟨x0, x1, x2, x3, x4, x5, x6, _⟩ := row_facts V.out.xb
    obtain ⟨y0, y1, y2, y3, y4, y5, y6, _⟩ := row_facts V.out.yb
    obtain ⟨z0, _⟩ := one_facts V.out.zb
    go_wp2_with fail
    refine (H1 _ V.out.mem).mono ?_
    rintro e w5 ⟨rfl, hb⟩
    have V' : Hid (VS w w5 gs gx a n c (.slice (some ⟨g', 0, none⟩) n n) l (.bool xt) (.int .i64 xn) (.int .i64 xl) (.int .i64 xh) (.int .i64 xa) (.int .i64 xp) (.int .i64 xs) (.bool yt) (.int .i64 yn) (.int .i64 yl) (.int .i64 yh) (.int .i64 ya) (.int .i64 yp) (.int .i64 ys)) := V.out.below hb
    have HW' : Hid (WB w5 g' L) := HW.out.below hb (Array.getElem?_eq_some_iff.1 HW.out).1
    clear V HW hb m0 x0 x1 x2 x3 x4 x5 x6 y0 y1 y2 y3 y4 y5 y6 z0
    have V : Hid (VS w w5 gs gx a n c (.slice (some ⟨g', 0, none⟩) n n) l (.bool xt) (.int .i64 xn) (.int .i64 xl) (.int .i64 xh) (.int .i64 xa) (.int .i64 xp) (.int .i64 xs) (.bool yt) (.int .i64 yn) (.int .i64 yl) (.int .i64 yh) (.int .i64 ya) (.int .i64 yp) (.int .i64 ys)) := V'
    have HW : Hid (WB w5 g' L) := HW'
    clear V' HW'
    obtain ⟨m0, _⟩ := one_facts V.out.mb
    obtain ⟨x0, x1, x2, x3, x4, x5, x6, _⟩ := row_facts V.out.xb
    obtain ⟨y0, y1, y2, y3, y4, y5, y6, _⟩ := row_facts V.out.yb
    obtain ⟨z0, _⟩ := one_facts V.out.zb
    go_wp2_with fail
    refine (H2 _).mono ?_
    rintro e w6 ⟨rfl, hb⟩
    have V' : Hid (VS w w6 gs gx a n c (.slice (some ⟨g', 0, none⟩) n n) l (.bool xt) (.int .i64 xn) (.int .i64 xl) (.int .i64 xh) (.int .i64 xa) (.int .i64 xp) (.int .i64 xs) (.bool yt) (.int .i64 yn) (.int .i64 yl) (.int .i64 yh) (.int .i64 ya) (.int .i64 yp) (.int .i64 ys)) := V.out.below hb
    have HW' : Hid (WB w6 g' L) := HW.out.below hb (Array.getElem?_eq_some_iff.1 HW.out).1
    clear V HW hb m0 x0 x1 x2 x3 x4 x5 x6 y0 y1 y2 y3 y4 y5 y6 z0
    have V : Hid (VS w w6 gs gx a n c (.slice (some ⟨g', 0, none⟩) n n) l (.bool xt) (.int .i64 xn) (.int .i64 xl) (.int .i64 xh) (.int .i64 xa) (.int .i64 xp) (.int .i64 xs) (.bool yt) (.int .i64 yn) (.int .i64 yl) (.int .i64 yh) (.int .i64 ya) (.int .i64 yp) (.int .i64 ys)) := V'
    have HW : Hid (WB w6 g' L) := HW'
    clear V' HW'
    obtain ⟨m0, _⟩ := one_facts V.out.mb
    obtain ⟨x0, x1, x2, x3, x4, x5, x6, _⟩ := row_facts V.out.xb
    obtain ⟨y0, y1, y2, y3, y4, y5, y6, _⟩ := row_facts V.out.yb
    obtain ⟨z0, _⟩ := one_facts V.out.zb
    go_wp2_with fail
    refine (H3 _).mono ?_
    rintro e w7 ⟨rfl, hb⟩
    have V' : Hid (VS w w7 gs gx a n c (.slice (some ⟨g', 0, none⟩) n n) l (.bool xt) (.int .i64 xn) (.int .i64 xl) (.int .i64 xh) (.int .i64 xa) (.int .i64 xp) (.int .i64 xs) (.bool yt) (.int .i64 yn) (.int .i64 yl) (.int .i64 yh) (.int .i64 ya) (.int .i64 yp) (.int .i64 ys)) := V.out.below hb
    have HW' : Hid (WB w7 g' L) := HW.out.below hb (Array.getElem?_eq_some_iff.1 HW.out).1
    clear V HW hb m0 x0 x1 x2 x3 x4 x5 x6 y0 y1 y2 y3 y4 y5 y6 z0
    have V : Hid (VS w w7 gs gx a n c (.slice (some ⟨g', 0, none⟩) n n) l (.bool xt) (.int .i64 xn) (.int .i64 xl) (.int .i64 xh) (.int .i64 xa) (.int .i64 xp) (.int .i64 xs) (.bool yt) (.int .i64 yn) (.int .i64 yl) (.int .i64 yh) (.int .i64 ya) (.int .i64 yp) (.int .i64 ys)) := V'
    have HW : Hid (WB w7 g' L) := HW'
    clear V' HW'
    obtain ⟨m0, _⟩ := one_facts V.out.mb
    obtain ⟨x0, x1, x2, x3, x4, x5, x6, _⟩ := row_facts V.out.xb
    obtain ⟨y0, y1, y2, y3, y4, y5, y6, _⟩ := row_facts V.out.yb
    obtain ⟨z0, _⟩ := one_facts V.out.zb
    clear H1 H2 H3
    go_wp2_with fail
    clear m0 x0 x1 x2 x3 x4 x5 x6 y0 y1 y2 y3 y4 y5 y6 z0
    go_loopw [9, 10] (fun ch i wr => ∃ k q : Nat, k ≤ n ∧ i = .int .i64 k ∧ ch = .int .i64 q ∧ q ≤ k ∧ Hid (tr ≠ 0 → q = 0) ∧ Hid (VS w wr gs gx a n c (.slice (some ⟨g', 0, none⟩) n n) l (.bool xt) (.int .i64 xn) (.int .i64 xl) (.int .i64 xh) (.int .i64 xa) (.int .i64 xp) (.int .i64 xs) (.bool yt) (.int .i64 yn) (.int .i64 yl) (.int .i64 yh) (.int .i64 ya) (.int .i64 yp) (.int .i64 ys)) ∧ Hid (WB wr g' L)) (fun _ i _ => n - (intOf i).toNat)
    case atStart => exact ⟨0, 0, Nat.zero_le _, rfl, rfl, Nat.le_refl _, fun _ => rfl, V, HW⟩
    case round =>
      obtain ⟨k, q, hk, rfl, rfl, hqk, hq0, V2, HW2⟩ := hrel
      clear V HW
      have V : Hid (VS w wr gs gx a n c (.slice (some ⟨g', 0, none⟩) n n) l (.bool xt) (.int .i64 xn) (.int .i64 xl) (.int .i64 xh) (.int .i64 xa) (.int .i64 xp) (.int .i64 xs) (.bool yt) (.int .i64 yn) (.int .i64 yl) (.int .i64 yh) (.int .i64 ya) (.int .i64 yp) (.int .i64 ys)) := V2
      have HW : Hid (WB wr g' L) := HW2
      clear V2 HW2
      by_cases hlt : k < n
      · obtain ⟨b0, off, rfl, _⟩ := V.out.mem.2 (Nat.lt_of_le_of_lt (Nat.zero_le _) hlt)
        obtain ⟨u, hu⟩ : ∃ u, L[k]? = some u := ⟨_, List.getElem?_eq_getElem (by rw [HLn.out]; exact hlt)⟩
        obtain ⟨v, hv, p0, p1, p2, p3, p4, p5, p6⟩ := WRow.el V.out.mem hlt
        obtain ⟨c0, c1, c2, c3, c4, c5, c6⟩ := HW.out.word hu
        have HD : Hid (u ≠ v → tr = 0 ∧ xa + by_ = (k : Int)) := by
          intro hne
          rw [HLL.out] at hu
          rw [HTR.out]
          exact store_diff _ _ _ _ _ _ _ HL.out hu hv hne
        have hq := fun w => word_neq u.t u.n u.l u.h u.a u.p u.s v.t v.n v.l v.h v.a v.p v.s w
        have HNE := @wd_ne u v
        generalize (!((u.t == v.t) && ((u.n == v.n) && ((u.l == v.l) && ((u.h == v.h) && ((u.a == v.a) && ((u.p == v.p) && (u.s == v.s)))))))) = ne at *
        clear hu hv
        obtain ⟨m0, _⟩ := one_facts V.out.mb
        obtain ⟨x0, x1, x2, x3, x4, x5, x6, _⟩ := row_facts V.out.xb
        obtain ⟨y0, y1, y2, y3, y4, y5, y6, _⟩ := row_facts V.out.yb
        obtain ⟨z0, _⟩ := one_facts V.out.zb
        cases ne
        · clear HNE HD
          go_wp2_with fail
          go_quiet (fail)
          go_wp2_with fail
          go_roundw
          case rel => exact ⟨k + 1, q, by omega, by go_num, rfl, by omega, hq0, V.out.below (below_drewN (Below.refl _ _) _), HW.out⟩
          case measure => simp [intOf]; omega
        · obtain ⟨ht0, hA⟩ := HD.out (HNE rfl)
          have HT0 : Hid (tr = 0) := ht0
          obtain ⟨hway, _, hhit, _, _, h1, h2, _, _, _⟩ := store_done _ _ _ _ _ _ _ (HTR.out.symm.trans ht0)
          have hd1 : decide ((k : Int) < xl) = false := by simp; omega
          have hd2 : decide (xh ≤ (k : Int)) = false := by simp; omega
          have hby : -16000 ≤ by_ ∧ by_ ≤ 16000 := by
            simp only [hitB, inR, Bool.and_eq_true, decide_eq_true_eq] at hhit
            exact hhit.1
          obtain ⟨hby0, hby1⟩ := hby
          have hxa : -4000 ≤ xa ∧ xa ≤ 8000 := by
            simp only [wayB, inR, Bool.and_eq_true, decide_eq_true_eq] at hway
            exact hway.2.2.2.2.2
          obtain ⟨hxa0, hxa1⟩ := hxa
          clear HNE HD hway hhit h1 h2 ht0
          go_wp2_with fail
          go_quiet (fail)
          go_wp2_with fail
          go_roundw
          case rel => exact ⟨k + 1, q + 1, by omega, by go_num, by go_num, by omega, fun h => absurd HT0.out h, V.out.below (below_drewN (Below.refl _ _) _), HW.out⟩
          case measure => simp [intOf]; omega
      · have hkn : n = k := by omega
        subst hkn
        clear hlt
        by_cases ht0 : tr = 0
        · subst ht0
          have hst : storeJ n xt xn xl xh xa xp xs by_ yt yp = 0 := HTR.out.symm
          obtain ⟨hway, _, hhit, hbar, h0, h1, h2, h3, hp0, hp1⟩ := store_done _ _ _ _ _ _ _ hst
          have hLs : L = l.set (xa + by_).toNat ⟨yt, yn, yl, yh, ya, yp, ys⟩ := by
            rw [HLL.out, storeK, HL.out]
            rw [show storeJ n xt xn xl xh xa xp xs by_ (⟨yt, yn, yl, yh, ya, yp, ys⟩ : Wd).t (⟨yt, yn, yl, yh, ya, yp, ys⟩ : Wd).p = 0 from hst]
            rfl
          obtain ⟨hno, hyes⟩ := load_behind xt xn xl xh xa xp xs yt yn yl yh ya yp ys HL.out HOX.out hst
          rw [← hLs] at hno hyes
          have hj0 : (xa + by_).toNat < l.length := by rw [HL.out]; omega
          have HJ0 : Hid (L[(xa + by_).toNat]? = some ⟨yt, yn, yl, yh, ya, yp, ys⟩) := by show _ = _; rw [hLs, List.getElem?_set_self hj0]
          have h64 : ∀ x ∈ L, In64 x.s := by
            intro x hx
            rw [hLs] at hx
            rcases List.mem_or_eq_of_mem_set hx with hx | rfl
            · exact HF.out x hx
            · exact HYS.out
          have HLOC : Hid ((yt && (bits .and .i64 yp 16 == 0)) = true → 0 < bits .and .i64 xp 8) := by
            intro hl'
            rw [Bool.and_eq_true] at hl'
            rw [barB, hl'.1, hl'.2, Bool.true_and, Bool.true_and, Bool.or_eq_false_iff] at hbar
            rcases bit8 xp hp0 hp1 with hb | hb
            · rw [hb] at hbar
              exact absurd hbar.2 (by decide)
            · exact hb
          obtain ⟨j, hj⟩ := Int.eq_ofNat_of_zero_le h0
          have HJ : Hid (L[j]? = some ⟨yt, yn, yl, yh, ya, yp, ys⟩) := by
            show _ = _
            have := HJ0.out
            rw [hj] at this
            simpa using this
          have hjn : j < n := by omega
          have hby : -16000 ≤ by_ ∧ by_ ≤ 16000 := by
            simp only [hitB, inR, Bool.and_eq_true, decide_eq_true_eq] at hhit
            exact hhit.1
          obtain ⟨hby0, hby1⟩ := hby
          have hxa : -4000 ≤ xa ∧ xa ≤ 8000 := by
            simp only [wayB, inR, Bool.and_eq_true, decide_eq_true_eq] at hway
            exact hway.2.2.2.2.2
          obtain ⟨hxa0, hxa1⟩ := hxa
          have hA : xa + by_ = (j : Int) := hj
          have HLd := fun w h hs => implLoadM (some ⟨g', 0, none⟩) n n L xt xn xl xh xa xp xs by_ p t b w h h64 hs hn
          have HMB0 := fun w h => specMemM (some ⟨g', 0, none⟩) n n L w h hn
          have hqy := fun w => (word_eq yt yn yl yh ya yp ys yt yn yl yh ya yp ys w)
          simp only [beq_self_eq_true, Bool.and_self] at hqy
          generalize fullT L xt xn xl xh xa xp xs by_ = T at *
          generalize fullV L xt xn xl xh xa xp xs by_ = U at *
          clear hst hway hhit hbar h0 h1 h2 h3 hp0 hp1 hLs hj0 HJ0 h64 hj hq0 hqk HTR HLL
          obtain ⟨m0, _⟩ := one_facts V.out.mb
          obtain ⟨x0, x1, x2, x3, x4, x5, x6, _⟩ := row_facts V.out.xb
          obtain ⟨y0, y1, y2, y3, y4, y5, y6, _⟩ := row_facts V.out.yb
          obtain ⟨z0, _⟩ := one_facts V.out.zb
          go_wp2_with fail
          refine (HLd _ (HW.out.row HLn.out) (HSN.out.below V.out.bl)).mono ?_
          rintro e w8 ⟨rfl, hb8⟩
          go_upto_region 16 with fail
          have hb9 : Below wr.heap.size wr (w8.alloc (.cells #[.bool U.t, .int .i64 U.n, .int .i64 U.l, .int .i64 U.h, .int .i64 U.a, .int .i64 U.p, .int .i64 U.s] 27)) := hb8.alloc hb8.size _
          have V9 : Hid (VS w (w8.alloc (.cells #[.bool U.t, .int .i64 U.n, .int .i64 U.l, .int .i64 U.h, .int .i64 U.a, .int .i64 U.p, .int .i64 U.s] 27)) gs gx a n c (.slice (some ⟨g', 0, none⟩) n n) l (.bool xt) (.int .i64 xn) (.int .i64 xl) (.int .i64 xh) (.int .i64 xa) (.int .i64 xp) (.int .i64 xs) (.bool yt) (.int .i64 yn) (.int .i64 yl) (.int .i64 yh) (.int .i64 ya) (.int .i64 yp) (.int .i64 ys)) := V.out.below hb9
          have HW9 : Hid (WB (w8.alloc (.cells #[.bool U.t, .int .i64 U.n, .int .i64 U.l, .int .i64 U.h, .int .i64 U.a, .int .i64 U.p, .int .i64 U.s] 27)) g' L) := HW.out.below hb9 (Array.getElem?_eq_some_iff.1 HW.out).1
          have HU : Hid ((w8.alloc (.cells #[.bool U.t, .int .i64 U.n, .int .i64 U.l, .int .i64 U.h, .int .i64 U.a, .int .i64 U.p, .int .i64 U.s] 27)).heap[w8.heap.size]? = some (.cells #[.bool U.t, .int .i64 U.n, .int .i64 U.l, .int .i64 U.h, .int .i64 U.a, .int .i64 U.p, .int .i64 U.s] 27 (0, 0))) := heap_alloc_new w8 _
          clear V HW hb8 hb9 HLd m0 x0 x1 x2 x3 x4 x5 x6 y0 y1 y2 y3 y4 y5 y6 z0
          generalize w8.alloc (.cells #[.bool U.t, .int .i64 U.n, .int .i64 U.l, .int .i64 U.h, .int .i64 U.a, .int .i64 U.p, .int .i64 U.s] 27) = W9 at *
          generalize w8.heap.size = gy at *
          have V : Hid (VS w W9 gs gx a n c (.slice (some ⟨g', 0, none⟩) n n) l (.bool xt) (.int .i64 xn) (.int .i64 xl) (.int .i64 xh) (.int .i64 xa) (.int .i64 xp) (.int .i64 xs) (.bool yt) (.int .i64 yn) (.int .i64 yl) (.int .i64 yh) (.int .i64 ya) (.int .i64 yp) (.int .i64 ys)) := V9
          have HW : Hid (WB W9 g' L) := HW9
          clear V9 HW9
          cases hmb : memB L
          · obtain rfl := hno hmb
            have HMB : ∀ w, WB w g' L → Calls Tryd.prog 6 #[.agg #[.slice (some ⟨g', 0, none⟩) n n]] w fun e w' => e = .returned (.bool false) ∧ Below w.heap.size w w' := by
              intro w h
              have := HMB0 w (h.row HLn.out)
              rw [hmb] at this
              exact this
            have hWr : IntKind.i64.wrap (xa + by_) = (j : Int) := by rw [IntKind.wrap_i64]; omega
            clear hno hyes hmb HMB0 hA
            cases yt
            · obtain ⟨m0, _⟩ := one_facts V.out.mb
              obtain ⟨x0, x1, x2, x3, x4, x5, x6, _⟩ := row_facts V.out.xb
              obtain ⟨y0, y1, y2, y3, y4, y5, y6, _⟩ := row_facts V.out.yb
              obtain ⟨z0, _⟩ := one_facts V.out.zb
              go_upto_region 17 with fail
              clear m0 x0 x1 x2 x3 x4 x5 x6 y0 y1 y2 y3 y4 y5 y6 z0
              obtain ⟨m0, _⟩ := one_facts V.out.mb
              obtain ⟨x0, x1, x2, x3, x4, x5, x6, _⟩ := row_facts V.out.xb
              obtain ⟨y0, y1, y2, y3, y4, y5, y6, _⟩ := row_facts V.out.yb
              obtain ⟨z0, _⟩ := one_facts V.out.zb
              obtain ⟨c0, c1, c2, c3, c4, c5, c6⟩ := HW.out.word HJ.out
              go_upto_region 17 with fail
              have HSS : Hid (∀ {wx : World}, Below W9.heap.size W9 wx → wx.cell? ⟨gx, 0, none⟩ = some (.slice (some ⟨g', 0, none⟩) n n) ∧ wx.cell? ⟨gs + 1, 4, none⟩ = some (.int .i64 xa) ∧ wx.cell? ⟨gs + 1, 5, none⟩ = some (.int .i64 xp) ∧ (wx.cell? ⟨g', j * 7, none⟩ = some (.bool false) ∧ wx.cell? ⟨g', j * 7 + 1, none⟩ = some (.int .i64 yn) ∧ wx.cell? ⟨g', j * 7 + 2, none⟩ = some (.int .i64 yl) ∧ wx.cell? ⟨g', j * 7 + 3, none⟩ = some (.int .i64 yh) ∧ wx.cell? ⟨g', j * 7 + 4, none⟩ = some (.int .i64 ya) ∧ wx.cell? ⟨g', j * 7 + 5, none⟩ = some (.int .i64 yp) ∧ wx.cell? ⟨g', j * 7 + 6, none⟩ = some (.int .i64 ys)) ∧ wx.cell? ⟨gs + 2, 0, none⟩ = some (.bool false) ∧ wx.cell? ⟨gs + 2, 1, none⟩ = some (.int .i64 yn) ∧ wx.cell? ⟨gs + 2, 2, none⟩ = some (.int .i64 yl) ∧ wx.cell? ⟨gs + 2, 3, none⟩ = some (.int .i64 yh) ∧ wx.cell? ⟨gs + 2, 4, none⟩ = some (.int .i64 ya) ∧ wx.cell? ⟨gs + 2, 5, none⟩ = some (.int .i64 yp) ∧ wx.cell? ⟨gs + 2, 6, none⟩ = some (.int .i64 ys)) := by
                intro wx hbx
                have V3 := V.out.below hbx
                have HW3 : WB wx g' L := HW.out.below hbx (Array.getElem?_eq_some_iff.1 HW.out).1
                obtain ⟨x0, x1, x2, x3, x4, x5, x6, _⟩ := row_facts V3.xb
                obtain ⟨y0, y1, y2, y3, y4, y5, y6, _⟩ := row_facts V3.yb
                exact ⟨(one_facts V3.zb).1, x4, x5, HW3.word HJ.out, y0, y1, y2, y3, y4, y5, y6⟩
              clear m0 x0 x1 x2 x3 x4 x5 x6 y0 y1 y2 y3 y4 y5 y6 z0 c0 c1 c2 c3 c4 c5 c6
              have VD : Hid (VS w W9.drew gs gx a n c (.slice (some ⟨g', 0, none⟩) n n) l (.bool xt) (.int .i64 xn) (.int .i64 xl) (.int .i64 xh) (.int .i64 xa) (.int .i64 xp) (.int .i64 xs) (.bool false) (.int .i64 yn) (.int .i64 yl) (.int .i64 yh) (.int .i64 ya) (.int .i64 yp) (.int .i64 ys)) := V.out.below (Below.refl _ _).drew
              have BD : Hid (Below W9.heap.size W9 W9.drew) := (Below.refl _ _).drew
              have HWD : Hid (WB W9.drew g' L) := HW.out
              refine wp_region_held_drew (S := fun wx => wx.cell? ⟨gx, 0, none⟩ = some (.slice (some ⟨g', 0, none⟩) n n) ∧ wx.cell? ⟨gs + 1, 4, none⟩ = some (.int .i64 xa) ∧ wx.cell? ⟨gs + 1, 5, none⟩ = some (.int .i64 xp) ∧ (wx.cell? ⟨g', j * 7, none⟩ = some (.bool false) ∧ wx.cell? ⟨g', j * 7 + 1, none⟩ = some (.int .i64 yn) ∧ wx.cell? ⟨g', j * 7 + 2, none⟩ = some (.int .i64 yl) ∧ wx.cell? ⟨g', j * 7 + 3, none⟩ = some (.int .i64 yh) ∧ wx.cell? ⟨g', j * 7 + 4, none⟩ = some (.int .i64 ya) ∧ wx.cell? ⟨g', j * 7 + 5, none⟩ = some (.int .i64 yp) ∧ wx.cell? ⟨g', j * 7 + 6, none⟩ = some (.int .i64 ys)) ∧ wx.cell? ⟨gs + 2, 0, none⟩ = some (.bool false) ∧ wx.cell? ⟨gs + 2, 1, none⟩ = some (.int .i64 yn) ∧ wx.cell? ⟨gs + 2, 2, none⟩ = some (.int .i64 yl) ∧ wx.cell? ⟨gs + 2, 3, none⟩ = some (.int .i64 yh) ∧ wx.cell? ⟨gs + 2, 4, none⟩ = some (.int .i64 ya) ∧ wx.cell? ⟨gs + 2, 5, none⟩ = some (.int .i64 yp) ∧ wx.cell? ⟨gs + 2, 6, none⟩ = some (.int .i64 ys)) (by kernel_rfl) (HSS.out BD.out) (fun hHeld => ?_)
              generalize W9.drew = wS at VD BD HWD hHeld ⊢
              refine wpAnyH_take (i := 0) (oi := ?o501) (v := ?v501) ?i501 (by kernel_rfl) (by kernel_rfl) (by kernel_rfl) ?q501 ?y501 (hHeld) ?r501
              case i501 => exact rfl
              case q501 => exact (fun _ _ _ h => h)
              case y501 =>
                refine Or.inl ⟨by rfl, ?_⟩
                intro w hSw
                (try dsimp only at hSw)
                go_simp
                first | done | rfl
              try simp only [Act.put, List.getElem_toArray, List.getElem_cons_zero, List.getElem_cons_succ, List.setIfInBounds_toArray, List.set_cons_zero, List.set_cons_succ]
              refine wpAnyH_take (i := 1) (oi := ?o502) (v := ?v502) ?i502 (by kernel_rfl) (by kernel_rfl) (by kernel_rfl) ?q502 ?y502 (hHeld) ?r502
              case i502 => exact rfl
              case q502 => exact (fun _ _ _ h => h)
              case y502 =>
                refine Or.inl ⟨by rfl, ?_⟩
                intro w hSw
                (try dsimp only at hSw)
                go_simp
                first | done | rfl
              try simp only [Act.put, List.getElem_toArray, List.getElem_cons_zero, List.getElem_cons_succ, List.setIfInBounds_toArray, List.set_cons_zero, List.set_cons_succ]
              refine wpAnyH_take (i := 2) (oi := ?o503) (v := ?v503) ?i503 (by kernel_rfl) (by kernel_rfl) (by kernel_rfl) ?q503 ?y503 (hHeld) ?r503
              case i503 => exact rfl
              case q503 => exact (fun _ _ _ h => h)
              case y503 =>
                refine Or.inl ⟨by rfl, ?_⟩
                intro w hSw
                (try dsimp only at hSw)
                go_simp
                first | done | rfl
              try simp only [Act.put, List.getElem_toArray, List.getElem_cons_zero, List.getElem_cons_succ, List.setIfInBounds_toArray, List.set_cons_zero, List.set_cons_succ]
              refine wpAnyH_take (i := 3) (oi := ?o504) (v := ?v504) ?i504 (by kernel_rfl) (by kernel_rfl) (by kernel_rfl) ?q504 ?y504 (hHeld) ?r504
              case i504 => exact rfl
              case q504 => exact (fun _ _ _ h => h)
              case y504 =>
                refine Or.inl ⟨by rfl, ?_⟩
                intro w hSw
                (try dsimp only at hSw)
                go_simp
                first | done | rfl
              try simp only [Act.put, List.getElem_toArray, List.getElem_cons_zero, List.getElem_cons_succ, List.setIfInBounds_toArray, List.set_cons_zero, List.set_cons_succ]
              refine wpAnyH_take (i := 4) (oi := ?o505) (v := ?v505) ?i505 (by kernel_rfl) (by kernel_rfl) (by kernel_rfl) ?q505 ?y505 (hHeld) ?r505
              case i505 => exact rfl
              case q505 => exact (fun _ _ _ h => h)
              case y505 =>
                refine Or.inl ⟨by rfl, ?_⟩
                intro w hSw
                (try dsimp only at hSw)
                go_simp
                first | done | rfl
              try simp only [Act.put, List.getElem_toArray, List.getElem_cons_zero, List.getElem_cons_succ, List.setIfInBounds_toArray, List.set_cons_zero, List.set_cons_succ]
              refine wpAnyH_take (i := 5) (oi := ?o506) (v := ?v506) ?i506 (by kernel_rfl) (by kernel_rfl) (by kernel_rfl) ?q506 ?y506 (hHeld) ?r506
              case i506 => exact rfl
              case q506 => exact (fun _ _ _ h => h)
              case y506 =>
                refine Or.inl ⟨by rfl, ?_⟩
                intro w hSw
                (try dsimp only at hSw)
                go_simp
                first | done | rfl
              try simp only [Act.put, List.getElem_toArray, List.getElem_cons_zero, List.getElem_cons_succ, List.setIfInBounds_toArray, List.set_cons_zero, List.set_cons_succ]
              refine wpAnyH_take (i := 6) (oi := ?o507) (v := ?v507) ?i507 (by kernel_rfl) (by kernel_rfl) (by kernel_rfl) ?q507 ?y507 (hHeld) ?r507
              case i507 => exact rfl
              case q507 => exact (fun _ _ _ h => h)
              case y507 =>
                refine Or.inl ⟨by rfl, ?_⟩
                intro w hSw
                (try dsimp only at hSw)
                go_simp
                first | done | rfl
              try simp only [Act.put, List.getElem_toArray, List.getElem_cons_zero, List.getElem_cons_succ, List.setIfInBounds_toArray, List.set_cons_zero, List.set_cons_succ]
              refine wpAnyH_take (i := 7) (oi := ?o508) (v := ?v508) ?i508 (by kernel_rfl) (by kernel_rfl) (by kernel_rfl) ?q508 ?y508 (hHeld) ?r508
              case i508 => exact rfl
              case q508 => exact (fun _ _ _ h => h)
              case y508 =>
                refine Or.inl ⟨by rfl, ?_⟩
                intro w hSw
                (try dsimp only at hSw)
                go_simp
                first | done | rfl
              try simp only [Act.put, List.getElem_toArray, List.getElem_cons_zero, List.getElem_cons_succ, List.setIfInBounds_toArray, List.set_cons_zero, List.set_cons_succ]
              refine wpAnyH_take (i := 8) (oi := ?o509) (v := ?v509) ?i509 (by kernel_rfl) (by kernel_rfl) (by kernel_rfl) ?q509 ?y509 (hHeld) ?r509
              case i509 => exact rfl
              case q509 => exact (fun _ _ _ h => h)
              case y509 =>
                refine Or.inl ⟨by rfl, ?_⟩
                intro w hSw
                (try dsimp only at hSw)
                go_simp
                first | done | rfl
              try simp only [Act.put, List.getElem_toArray, List.getElem_cons_zero, List.getElem_cons_succ, List.setIfInBounds_toArray, List.set_cons_zero, List.set_cons_succ]
              refine wpAnyH_take (i := 9) (oi := ?o510) (v := ?v510) ?i510 (by kernel_rfl) (by kernel_rfl) (by kernel_rfl) ?q510 ?y510 (hHeld) ?r510
              case i510 => exact rfl
              case q510 => exact (fun _ _ _ h => h)
              case y510 =>
                refine Or.inl ⟨by rfl, ?_⟩
                intro w hSw
                (try dsimp only at hSw)
                go_simp
                first | done | rfl
              try simp only [Act.put, List.getElem_toArray, List.getElem_cons_zero, List.getElem_cons_succ, List.setIfInBounds_toArray, List.set_cons_zero, List.set_cons_succ]
              refine wpAnyH_take (i := 10) (oi := ?o511) (v := ?v511) ?i511 (by kernel_rfl) (by kernel_rfl) (by kernel_rfl) ?q511 ?y511 (hHeld) ?r511
              case i511 => exact rfl
              case q511 => exact (fun _ _ _ h => h)
              case y511 =>
                refine Or.inl ⟨by rfl, ?_⟩
                intro w hSw
                (try dsimp only at hSw)
                go_simp
                first | done | rfl
              try simp only [Act.put, List.getElem_toArray, List.getElem_cons_zero, List.getElem_cons_succ, List.setIfInBounds_toArray, List.set_cons_zero, List.set_cons_succ]
              refine wpAnyH_take (i := 11) (oi := ?o512) (v := ?v512) ?i512 (by kernel_rfl) (by kernel_rfl) (by kernel_rfl) ?q512 ?y512 (hHeld) ?r512
              case i512 => exact rfl
              case q512 => exact (fun _ _ _ h => h)
              case y512 =>
                refine Or.inl ⟨by rfl, ?_⟩
                intro w hSw
                (try dsimp only at hSw)
                go_simp
                first | done | rfl
              try simp only [Act.put, List.getElem_toArray, List.getElem_cons_zero, List.getElem_cons_succ, List.setIfInBounds_toArray, List.set_cons_zero, List.set_cons_succ]
              refine wpAnyH_take (i := 12) (oi := ?o513) (v := ?v513) ?i513 (by kernel_rfl) (by kernel_rfl) (by kernel_rfl) ?q513 ?y513 (hHeld) ?r513
              case i513 => exact rfl
              case q513 => exact (fun _ _ _ h => h)
              case y513 =>
                refine Or.inl ⟨by rfl, ?_⟩
                intro w hSw
                (try dsimp only at hSw)
                go_simp
                first | done | rfl
              try simp only [Act.put, List.getElem_toArray, List.getElem_cons_zero, List.getElem_cons_succ, List.setIfInBounds_toArray, List.set_cons_zero, List.set_cons_succ]
              refine wpAnyH_take (i := 13) (oi := ?o514) (v := ?v514) ?i514 (by kernel_rfl) (by kernel_rfl) (by kernel_rfl) ?q514 ?y514 (hHeld) ?r514
              case i514 => exact rfl
              case q514 => exact (fun _ _ _ h => h)
              case y514 =>
                refine Or.inl ⟨by rfl, ?_⟩
                intro w hSw
                (try dsimp only at hSw)
                go_simp
                first | done | rfl
              try simp only [Act.put, List.getElem_toArray, List.getElem_cons_zero, List.getElem_cons_succ, List.setIfInBounds_toArray, List.set_cons_zero, List.set_cons_succ]
              refine wpAnyH_take (i := 14) (oi := ?o515) (v := undef) ?i515 (by kernel_rfl) (by kernel_rfl) (by kernel_rfl) ?q515 ?y515 (hHeld) ?r515
              case i515 => exact rfl
              case q515 => exact (fun _ _ _ h => h)
              case y515 => exact Or.inr ⟨by rfl, rfl⟩
              try simp only [Act.put, List.getElem_toArray, List.getElem_cons_zero, List.getElem_cons_succ, List.setIfInBounds_toArray, List.set_cons_zero, List.set_cons_succ]
              refine wpAnyH_take (i := 15) (oi := ?o516) (v := undef) ?i516 (by kernel_rfl) (by kernel_rfl) (by kernel_rfl) ?q516 ?y516 (hHeld) ?r516
              case i516 => exact rfl
              case q516 => exact (fun _ _ _ h => h)
              case y516 => exact Or.inr ⟨by rfl, rfl⟩
              try simp only [Act.put, List.getElem_toArray, List.getElem_cons_zero, List.getElem_cons_succ, List.setIfInBounds_toArray, List.set_cons_zero, List.set_cons_succ]
              refine wpAnyH_take (i := 16) (oi := ?o517) (v := undef) ?i517 (by kernel_rfl) (by kernel_rfl) (by kernel_rfl) ?q517 ?y517 (hHeld) ?r517
              case i517 => exact rfl
              case q517 => exact (fun _ _ _ h => h)
              case y517 => exact Or.inr ⟨by rfl, rfl⟩
              try simp only [Act.put, List.getElem_toArray, List.getElem_cons_zero, List.getElem_cons_succ, List.setIfInBounds_toArray, List.set_cons_zero, List.set_cons_succ]
              refine wpAnyH_take (i := 17) (oi := ?o518) (v := undef) ?i518 (by kernel_rfl) (by kernel_rfl) (by kernel_rfl) ?q518 ?y518 (hHeld) ?r518
              case i518 => exact rfl
              case q518 => exact (fun _ _ _ h => h)
              case y518 => exact Or.inr ⟨by rfl, rfl⟩
              try simp only [Act.put, List.getElem_toArray, List.getElem_cons_zero, List.getElem_cons_succ, List.setIfInBounds_toArray, List.set_cons_zero, List.set_cons_succ]
              refine wpAnyH_take (i := 18) (oi := ?o519) (v := undef) ?i519 (by kernel_rfl) (by kernel_rfl) (by kernel_rfl) ?q519 ?y519 (hHeld) ?r519
              case i519 => exact rfl
              case q519 => exact (fun _ _ _ h => h)
              case y519 => exact Or.inr ⟨by rfl, rfl⟩
              try simp only [Act.put, List.getElem_toArray, List.getElem_cons_zero, List.getElem_cons_succ, List.setIfInBounds_toArray, List.set_cons_zero, List.set_cons_succ]
              refine wpAnyH_take (i := 19) (oi := ?o520) (v := undef) ?i520 (by kernel_rfl) (by kernel_rfl) (by kernel_rfl) ?q520 ?y520 (hHeld) ?r520
              case i520 => exact rfl
              case q520 => exact (fun _ _ _ h => h)
              case y520 => exact Or.inr ⟨by rfl, rfl⟩
              try simp only [Act.put, List.getElem_toArray, List.getElem_cons_zero, List.getElem_cons_succ, List.setIfInBounds_toArray, List.set_cons_zero, List.set_cons_succ]
              refine wpAnyH_take (i := 20) (oi := ?o521) (v := undef) ?i521 (by kernel_rfl) (by kernel_rfl) (by kernel_rfl) ?q521 ?y521 (hHeld) ?r521
              case i521 => exact rfl
              case q521 => exact (fun _ _ _ h => h)
              case y521 => exact Or.inr ⟨by rfl, rfl⟩
              try simp only [Act.put, List.getElem_toArray, List.getElem_cons_zero, List.getElem_cons_succ, List.setIfInBounds_toArray, List.set_cons_zero, List.set_cons_succ]
              refine wpAnyH_take (i := 21) (oi := ?o522) (v := undef) ?i522 (by kernel_rfl) (by kernel_rfl) (by kernel_rfl) ?q522 ?y522 (hHeld) ?r522
              case i522 => exact rfl
              case q522 => exact (fun _ _ _ h => h)
              case y522 => exact Or.inr ⟨by rfl, rfl⟩
              try simp only [Act.put, List.getElem_toArray, List.getElem_cons_zero, List.getElem_cons_succ, List.setIfInBounds_toArray, List.set_cons_zero, List.set_cons_succ]
              refine wpAnyH_take (i := 22) (oi := ?o523) (v := undef) ?i523 (by kernel_rfl) (by kernel_rfl) (by kernel_rfl) ?q523 ?y523 (hHeld) ?r523
              case i523 => exact rfl
              case q523 => exact (fun _ _ _ h => h)
              case y523 => exact Or.inr ⟨by rfl, rfl⟩
              try simp only [Act.put, List.getElem_toArray, List.getElem_cons_zero, List.getElem_cons_succ, List.setIfInBounds_toArray, List.set_cons_zero, List.set_cons_succ]
              refine wpAnyH_take (i := 23) (oi := ?o524) (v := undef) ?i524 (by kernel_rfl) (by kernel_rfl) (by kernel_rfl) ?q524 ?y524 (hHeld) ?r524
              case i524 => exact rfl
              case q524 => exact (fun _ _ _ h => h)
              case y524 => exact Or.inr ⟨by rfl, rfl⟩
              try simp only [Act.put, List.getElem_toArray, List.getElem_cons_zero, List.getElem_cons_succ, List.setIfInBounds_toArray, List.set_cons_zero, List.set_cons_succ]
              refine wpAnyH_take (i := 24) (oi := ?o525) (v := undef) ?i525 (by kernel_rfl) (by kernel_rfl) (by kernel_rfl) ?q525 ?y525 (hHeld) ?r525
              case i525 => exact rfl
              case q525 => exact (fun _ _ _ h => h)
              case y525 => exact Or.inr ⟨by rfl, rfl⟩
              try simp only [Act.put, List.getElem_toArray, List.getElem_cons_zero, List.getElem_cons_succ, List.setIfInBounds_toArray, List.set_cons_zero, List.set_cons_succ]
              refine wpAnyH_take (i := 25) (oi := ?o526) (v := undef) ?i526 (by kernel_rfl) (by kernel_rfl) (by kernel_rfl) ?q526 ?y526 (hHeld) ?r526
              case i526 => exact rfl
              case q526 => exact (fun _ _ _ h => h)
              case y526 => exact Or.inr ⟨by rfl, rfl⟩
              try simp only [Act.put, List.getElem_toArray, List.getElem_cons_zero, List.getElem_cons_succ, List.setIfInBounds_toArray, List.set_cons_zero, List.set_cons_succ]
              refine wpAnyH_take (i := 26) (oi := ?o527) (v := undef) ?i527 (by kernel_rfl) (by kernel_rfl) (by kernel_rfl) ?q527 ?y527 (hHeld) ?r527
              case i527 => exact rfl
              case q527 => exact (fun _ _ _ h => h)
              case y527 => exact Or.inr ⟨by rfl, rfl⟩
              try simp only [Act.put, List.getElem_toArray, List.getElem_cons_zero, List.getElem_cons_succ, List.setIfInBounds_toArray, List.set_cons_zero, List.set_cons_succ]
              refine wpAnyH_take (i := 27) (oi := ?o528) (v := undef) ?i528 (by kernel_rfl) (by kernel_rfl) (by kernel_rfl) ?q528 ?y528 (hHeld) ?r528
              case i528 => exact rfl
              case q528 => exact (fun _ _ _ h => h)
              case y528 => exact Or.inr ⟨by rfl, rfl⟩
              try simp only [Act.put, List.getElem_toArray, List.getElem_cons_zero, List.getElem_cons_succ, List.setIfInBounds_toArray, List.set_cons_zero, List.set_cons_succ]
              refine wpAnyH_take (i := 28) (oi := ?o529) (v := ?v529) ?i529 (by kernel_rfl) (by kernel_rfl) (by kernel_rfl) ?q529 ?y529 (hHeld) ?r529
              case i529 => exact rfl
              case q529 => exact (fun _ _ _ h => h)
              case y529 =>
                refine Or.inl ⟨by rfl, ?_⟩
                intro w hSw
                (try dsimp only at hSw)
                go_simp
                first | done | rfl
              try simp only [Act.put, List.getElem_toArray, List.getElem_cons_zero, List.getElem_cons_succ, List.setIfInBounds_toArray, List.set_cons_zero, List.set_cons_succ]
              refine wpAnyH_take (i := 29) (oi := ?o530) (v := ?v530) ?i530 (by kernel_rfl) (by kernel_rfl) (by kernel_rfl) ?q530 ?y530 (hHeld) ?r530
              case i530 => exact rfl
              case q530 => exact (fun _ _ _ h => h)
              case y530 =>
                refine Or.inl ⟨by rfl, ?_⟩
                intro w hSw
                (try dsimp only at hSw)
                go_simp
                first | done | rfl
              try simp only [Act.put, List.getElem_toArray, List.getElem_cons_zero, List.getElem_cons_succ, List.setIfInBounds_toArray, List.set_cons_zero, List.set_cons_succ]
              refine wpAnyH_take (i := 30) (oi := ?o531) (v := ?v531) ?i531 (by kernel_rfl) (by kernel_rfl) (by kernel_rfl) ?q531 ?y531 (hHeld) ?r531
              case i531 => exact rfl
              case q531 => exact (fun _ _ _ h => h)
              case y531 =>
                refine Or.inl ⟨by rfl, ?_⟩
                intro w hSw
                (try dsimp only at hSw)
                go_simp
                first | done | rfl
              try simp only [Act.put, List.getElem_toArray, List.getElem_cons_zero, List.getElem_cons_succ, List.setIfInBounds_toArray, List.set_cons_zero, List.set_cons_succ]
              refine wpAnyH_take (i := 31) (oi := ?o532) (v := ?v532) ?i532 (by kernel_rfl) (by kernel_rfl) (by kernel_rfl) ?q532 ?y532 (hHeld) ?r532
              case i532 => exact rfl
              case q532 => exact (fun _ _ _ h => h)
              case y532 =>
                refine Or.inl ⟨by rfl, ?_⟩
                intro w hSw
                (try dsimp only at hSw)
                go_simp
                first | done | rfl
              try simp only [Act.put, List.getElem_toArray, List.getElem_cons_zero, List.getElem_cons_succ, List.setIfInBounds_toArray, List.set_cons_zero, List.set_cons_succ]
              refine wpAnyH_take (i := 32) (oi := ?o533) (v := ?v533) ?i533 (by kernel_rfl) (by kernel_rfl) (by kernel_rfl) ?q533 ?y533 (hHeld) ?r533
              case i533 => exact rfl
              case q533 => exact (fun _ _ _ h => h)
              case y533 =>
                refine Or.inl ⟨by rfl, ?_⟩
                intro w hSw
                (try dsimp only at hSw)
                go_simp
                first | done | rfl
              try simp only [Act.put, List.getElem_toArray, List.getElem_cons_zero, List.getElem_cons_succ, List.setIfInBounds_toArray, List.set_cons_zero, List.set_cons_succ]
              refine wpAnyH_take (i := 33) (oi := ?o534) (v := ?v534) ?i534 (by kernel_rfl) (by kernel_rfl) (by kernel_rfl) ?q534 ?y534 (hHeld) ?r534
              case i534 => exact rfl
              case q534 => exact (fun _ _ _ h => h)
              case y534 =>
                refine Or.inl ⟨by rfl, ?_⟩
                intro w hSw
                (try dsimp only at hSw)
                go_simp
                first | done | rfl
              try simp only [Act.put, List.getElem_toArray, List.getElem_cons_zero, List.getElem_cons_succ, List.setIfInBounds_toArray, List.set_cons_zero, List.set_cons_succ]
              refine wpAnyH_ready (rs := [34]) (by kernel_rfl) (by simp) ?_
              refine AllReadyH.cons (i := 34) (o := ?o535) ?i535 (fun K hK => ?_) AllReadyH.nil
              case i535 => exact rfl
              go_simp
              (with_reducible refine (HMB wS HWD.out).mono ?_)
              rintro e wT ⟨rfl, hbT⟩
              have BT : Hid (Below W9.heap.size W9 wT) := BD.out.trans (hbT.mono BD.out.size)
              have VT : Hid (Below w.heap.size w wT) := VD.out.bl.trans (hbT.mono VD.out.bl.size)
              clear hbT
              go_wp2_with fail
              refine hK.out _ _ (HSS.out BT.out) (fun hHeld => ?_)
              clear hK K
              try simp only [Act.put, List.getElem_toArray, List.getElem_cons_zero, List.getElem_cons_succ, List.setIfInBounds_toArray, List.set_cons_zero, List.set_cons_succ]
              refine wpAnyH_take (i := 35) (oi := ?o536) (v := ?v536) ?i536 (by kernel_rfl) (by kernel_rfl) (by kernel_rfl) ?q536 ?y536 (hHeld) ?r536
              case i536 => exact rfl
              case q536 => exact (fun _ _ _ h => h)
              case y536 =>
                refine Or.inl ⟨by rfl, ?_⟩
                intro w hSw
                (try dsimp only at hSw)
                go_simp
                first | done | rfl
              try simp only [Act.put, List.getElem_toArray, List.getElem_cons_zero, List.getElem_cons_succ, List.setIfInBounds_toArray, List.set_cons_zero, List.set_cons_succ]
              refine wpAnyH_take (i := 36) (oi := ?o537) (v := ?v537) ?i537 (by kernel_rfl) (by kernel_rfl) (by kernel_rfl) ?q537 ?y537 (hHeld) ?r537
              case i537 => exact rfl
              case q537 => exact (fun _ _ _ h => h)
              case y537 =>
                refine Or.inl ⟨by rfl, ?_⟩
                intro w hSw
                (try dsimp only at hSw)
                go_simp
                first | done | rfl
              try simp only [Act.put, List.getElem_toArray, List.getElem_cons_zero, List.getElem_cons_succ, List.setIfInBounds_toArray, List.set_cons_zero, List.set_cons_succ]
              refine wpAnyH_take (i := 37) (oi := ?o538) (v := ?v538) ?i538 (by kernel_rfl) (by kernel_rfl) (by kernel_rfl) ?q538 ?y538 (hHeld) ?r538
              case i538 => exact rfl
              case q538 => exact (fun _ _ _ h => h)
              case y538 =>
                refine Or.inl ⟨by rfl, ?_⟩
                intro w hSw
                (try dsimp only at hSw)
                go_simp
                first | done | rfl
              try simp only [Act.put, List.getElem_toArray, List.getElem_cons_zero, List.getElem_cons_succ, List.setIfInBounds_toArray, List.set_cons_zero, List.set_cons_succ]
              refine wpAnyH_take (i := 38) (oi := ?o539) (v := ?v539) ?i539 (by kernel_rfl) (by kernel_rfl) (by kernel_rfl) ?q539 ?y539 (hHeld) ?r539
              case i539 => exact rfl
              case q539 => exact (fun _ _ _ h => h)
              case y539 =>
                refine Or.inl ⟨by rfl, ?_⟩
                intro w hSw
                (try dsimp only at hSw)
                go_simp
                first | done | rfl
              try simp only [Act.put, List.getElem_toArray, List.getElem_cons_zero, List.getElem_cons_succ, List.setIfInBounds_toArray, List.set_cons_zero, List.set_cons_succ]
              refine wpAnyH_take (i := 39) (oi := ?o540) (v := undef) ?i540 (by kernel_rfl) (by kernel_rfl) (by kernel_rfl) ?q540 ?y540 (hHeld) ?r540
              case i540 => exact rfl
              case q540 => exact (fun _ _ _ h => h)
              case y540 => exact Or.inr ⟨by rfl, rfl⟩
              try simp only [Act.put, List.getElem_toArray, List.getElem_cons_zero, List.getElem_cons_succ, List.setIfInBounds_toArray, List.set_cons_zero, List.set_cons_succ]
              refine wpAnyH_take (i := 40) (oi := ?o541) (v := undef) ?i541 (by kernel_rfl) (by kernel_rfl) (by kernel_rfl) ?q541 ?y541 (hHeld) ?r541
              case i541 => exact rfl
              case q541 => exact (fun _ _ _ h => h)
              case y541 => exact Or.inr ⟨by rfl, rfl⟩
              try simp only [Act.put, List.getElem_toArray, List.getElem_cons_zero, List.getElem_cons_succ, List.setIfInBounds_toArray, List.set_cons_zero, List.set_cons_succ]
              refine wpAnyH_take (i := 41) (oi := ?o542) (v := undef) ?i542 (by kernel_rfl) (by kernel_rfl) (by kernel_rfl) ?q542 ?y542 (hHeld) ?r542
              case i542 => exact rfl
              case q542 => exact (fun _ _ _ h => h)
              case y542 => exact Or.inr ⟨by rfl, rfl⟩
              try simp only [Act.put, List.getElem_toArray, List.getElem_cons_zero, List.getElem_cons_succ, List.setIfInBounds_toArray, List.set_cons_zero, List.set_cons_succ]
              refine wpAnyH_take (i := 42) (oi := ?o543) (v := ?v543) ?i543 (by kernel_rfl) (by kernel_rfl) (by kernel_rfl) ?q543 ?y543 (hHeld) ?r543
              case i543 => exact rfl
              case q543 => exact (fun _ _ _ h => h)
              case y543 =>
                refine Or.inl ⟨by rfl, ?_⟩
                intro w hSw
                (try dsimp only at hSw)
                go_simp
                first | done | rfl
              try simp only [Act.put, List.getElem_toArray, List.getElem_cons_zero, List.getElem_cons_succ, List.setIfInBounds_toArray, List.set_cons_zero, List.set_cons_succ]
              refine wpAnyH_take (i := 43) (oi := ?o544) (v := ?v544) ?i544 (by kernel_rfl) (by kernel_rfl) (by kernel_rfl) ?q544 ?y544 (hHeld) ?r544
              case i544 => exact rfl
              case q544 => exact (fun _ _ _ h => h)
              case y544 =>
                refine Or.inl ⟨by rfl, ?_⟩
                intro w hSw
                (try dsimp only at hSw)
                go_simp
                first | done | rfl
              try simp only [Act.put, List.getElem_toArray, List.getElem_cons_zero, List.getElem_cons_succ, List.setIfInBounds_toArray, List.set_cons_zero, List.set_cons_succ]
              refine wpAnyH_take (i := 44) (oi := ?o545) (v := ?v545) ?i545 (by kernel_rfl) (by kernel_rfl) (by kernel_rfl) ?q545 ?y545 (hHeld) ?r545
              case i545 => exact rfl
              case q545 => exact (fun _ _ _ h => h)
              case y545 =>
                refine Or.inl ⟨by rfl, ?_⟩
                intro w hSw
                (try dsimp only at hSw)
                go_simp
                first | done | rfl
              try simp only [Act.put, List.getElem_toArray, List.getElem_cons_zero, List.getElem_cons_succ, List.setIfInBounds_toArray, List.set_cons_zero, List.set_cons_succ]
              refine wpAnyH_take (i := 45) (oi := ?o546) (v := ?v546) ?i546 (by kernel_rfl) (by kernel_rfl) (by kernel_rfl) ?q546 ?y546 (hHeld) ?r546
              case i546 => exact rfl
              case q546 => exact (fun _ _ _ h => h)
              case y546 =>
                refine Or.inl ⟨by rfl, ?_⟩
                intro w hSw
                (try dsimp only at hSw)
                go_simp
                first | done | rfl
              try simp only [Act.put, List.getElem_toArray, List.getElem_cons_zero, List.getElem_cons_succ, List.setIfInBounds_toArray, List.set_cons_zero, List.set_cons_succ]
              refine wpAnyH_take (i := 46) (oi := ?o547) (v := ?v547) ?i547 (by kernel_rfl) (by kernel_rfl) (by kernel_rfl) ?q547 ?y547 (hHeld) ?r547
              case i547 => exact rfl
              case q547 => exact (fun _ _ _ h => h)
              case y547 =>
                refine Or.inl ⟨by rfl, ?_⟩
                intro w hSw
                (try dsimp only at hSw)
                go_simp
                first | done | rfl
              try simp only [Act.put, List.getElem_toArray, List.getElem_cons_zero, List.getElem_cons_succ, List.setIfInBounds_toArray, List.set_cons_zero, List.set_cons_succ]
              refine wpAnyH_take (i := 47) (oi := ?o548) (v := ?v548) ?i548 (by kernel_rfl) (by kernel_rfl) (by kernel_rfl) ?q548 ?y548 (hHeld) ?r548
              case i548 => exact rfl
              case q548 => exact (fun _ _ _ h => h)
              case y548 =>
                refine Or.inl ⟨by rfl, ?_⟩
                intro w hSw
                (try dsimp only at hSw)
                go_simp
                first | done | rfl
              try simp only [Act.put, List.getElem_toArray, List.getElem_cons_zero, List.getElem_cons_succ, List.setIfInBounds_toArray, List.set_cons_zero, List.set_cons_succ]
              refine wpAnyH_take (i := 48) (oi := ?o549) (v := undef) ?i549 (by kernel_rfl) (by kernel_rfl) (by kernel_rfl) ?q549 ?y549 (hHeld) ?r549
              case i549 => exact rfl
              case q549 => exact (fun _ _ _ h => h)
              case y549 => exact Or.inr ⟨by rfl, rfl⟩
              try simp only [Act.put, List.getElem_toArray, List.getElem_cons_zero, List.getElem_cons_succ, List.setIfInBounds_toArray, List.set_cons_zero, List.set_cons_succ]
              refine wpAnyH_take (i := 49) (oi := ?o550) (v := undef) ?i550 (by kernel_rfl) (by kernel_rfl) (by kernel_rfl) ?q550 ?y550 (hHeld) ?r550
              case i550 => exact rfl
              case q550 => exact (fun _ _ _ h => h)
              case y550 => exact Or.inr ⟨by rfl, rfl⟩
              try simp only [Act.put, List.getElem_toArray, List.getElem_cons_zero, List.getElem_cons_succ, List.setIfInBounds_toArray, List.set_cons_zero, List.set_cons_succ]
              refine wpAnyH_take (i := 50) (oi := ?o551) (v := undef) ?i551 (by kernel_rfl) (by kernel_rfl) (by kernel_rfl) ?q551 ?y551 (hHeld) ?r551
              case i551 => exact rfl
              case q551 => exact (fun _ _ _ h => h)
              case y551 => exact Or.inr ⟨by rfl, rfl⟩
              try simp only [Act.put, List.getElem_toArray, List.getElem_cons_zero, List.getElem_cons_succ, List.setIfInBounds_toArray, List.set_cons_zero, List.set_cons_succ]
              refine wpAnyH_take (i := 51) (oi := ?o552) (v := undef) ?i552 (by kernel_rfl) (by kernel_rfl) (by kernel_rfl) ?q552 ?y552 (hHeld) ?r552
              case i552 => exact rfl
              case q552 => exact (fun _ _ _ h => h)
              case y552 => exact Or.inr ⟨by rfl, rfl⟩
              try simp only [Act.put, List.getElem_toArray, List.getElem_cons_zero, List.getElem_cons_succ, List.setIfInBounds_toArray, List.set_cons_zero, List.set_cons_succ]
              refine wpAnyH_take (i := 52) (oi := ?o553) (v := ?v553) ?i553 (by kernel_rfl) (by kernel_rfl) (by kernel_rfl) ?q553 ?y553 (hHeld) ?r553
              case i553 => exact rfl
              case q553 => exact (fun _ _ _ h => h)
              case y553 =>
                refine Or.inl ⟨by rfl, ?_⟩
                intro w hSw
                (try dsimp only at hSw)
                go_simp
                first | done | rfl
              try simp only [Act.put, List.getElem_toArray, List.getElem_cons_zero, List.getElem_cons_succ, List.setIfInBounds_toArray, List.set_cons_zero, List.set_cons_succ]
              refine wpAnyH_take (i := 53) (oi := ?o554) (v := ?v554) ?i554 (by kernel_rfl) (by kernel_rfl) (by kernel_rfl) ?q554 ?y554 (hHeld) ?r554
              case i554 => exact rfl
              case q554 => exact (fun _ _ _ h => h)
              case y554 =>
                refine Or.inl ⟨by rfl, ?_⟩
                intro w hSw
                (try dsimp only at hSw)
                go_simp
                first | done | rfl
              try simp only [Act.put, List.getElem_toArray, List.getElem_cons_zero, List.getElem_cons_succ, List.setIfInBounds_toArray, List.set_cons_zero, List.set_cons_succ]
              refine wpAnyH_take (i := 54) (oi := ?o555) (v := ?v555) ?i555 (by kernel_rfl) (by kernel_rfl) (by kernel_rfl) ?q555 ?y555 (hHeld) ?r555
              case i555 => exact rfl
              case q555 => exact (fun _ _ _ h => h)
              case y555 =>
                refine Or.inl ⟨by rfl, ?_⟩
                intro w hSw
                (try dsimp only at hSw)
                go_simp
                first | done | rfl
              try simp only [Act.put, List.getElem_toArray, List.getElem_cons_zero, List.getElem_cons_succ, List.setIfInBounds_toArray, List.set_cons_zero, List.set_cons_succ]
              refine wpAnyH_done (by kernel_rfl) ?_ _
              go_wp2_with fail
              go_ret
              exact ⟨rfl, VT.out⟩
            · generalize hyp : (bits .and .i64 yp 16 == 0) = bl at *
              cases bl
              · obtain ⟨m0, _⟩ := one_facts V.out.mb
                obtain ⟨x0, x1, x2, x3, x4, x5, x6, _⟩ := row_facts V.out.xb
                obtain ⟨y0, y1, y2, y3, y4, y5, y6, _⟩ := row_facts V.out.yb
                obtain ⟨z0, _⟩ := one_facts V.out.zb
                go_upto_region 17 with fail
                clear m0 x0 x1 x2 x3 x4 x5 x6 y0 y1 y2 y3 y4 y5 y6 z0
                obtain ⟨m0, _⟩ := one_facts V.out.mb
                obtain ⟨x0, x1, x2, x3, x4, x5, x6, _⟩ := row_facts V.out.xb
                obtain ⟨y0, y1, y2, y3, y4, y5, y6, _⟩ := row_facts V.out.yb
                obtain ⟨z0, _⟩ := one_facts V.out.zb
                obtain ⟨c0, c1, c2, c3, c4, c5, c6⟩ := HW.out.word HJ.out
                go_upto_region 17 with fail
                have HSS : Hid (∀ {wx : World}, Below W9.heap.size W9 wx → wx.cell? ⟨gx, 0, none⟩ = some (.slice (some ⟨g', 0, none⟩) n n) ∧ wx.cell? ⟨gs + 1, 4, none⟩ = some (.int .i64 xa) ∧ wx.cell? ⟨gs + 1, 5, none⟩ = some (.int .i64 xp) ∧ (wx.cell? ⟨g', j * 7, none⟩ = some (.bool true) ∧ wx.cell? ⟨g', j * 7 + 1, none⟩ = some (.int .i64 yn) ∧ wx.cell? ⟨g', j * 7 + 2, none⟩ = some (.int .i64 yl) ∧ wx.cell? ⟨g', j * 7 + 3, none⟩ = some (.int .i64 yh) ∧ wx.cell? ⟨g', j * 7 + 4, none⟩ = some (.int .i64 ya) ∧ wx.cell? ⟨g', j * 7 + 5, none⟩ = some (.int .i64 yp) ∧ wx.cell? ⟨g', j * 7 + 6, none⟩ = some (.int .i64 ys)) ∧ wx.cell? ⟨gs + 2, 0, none⟩ = some (.bool true) ∧ wx.cell? ⟨gs + 2, 1, none⟩ = some (.int .i64 yn) ∧ wx.cell? ⟨gs + 2, 2, none⟩ = some (.int .i64 yl) ∧ wx.cell? ⟨gs + 2, 3, none⟩ = some (.int .i64 yh) ∧ wx.cell? ⟨gs + 2, 4, none⟩ = some (.int .i64 ya) ∧ wx.cell? ⟨gs + 2, 5, none⟩ = some (.int .i64 yp) ∧ wx.cell? ⟨gs + 2, 6, none⟩ = some (.int .i64 ys)) := by
                  intro wx hbx
                  have V3 := V.out.below hbx
                  have HW3 : WB wx g' L := HW.out.below hbx (Array.getElem?_eq_some_iff.1 HW.out).1
                  obtain ⟨x0, x1, x2, x3, x4, x5, x6, _⟩ := row_facts V3.xb
                  obtain ⟨y0, y1, y2, y3, y4, y5, y6, _⟩ := row_facts V3.yb
                  exact ⟨(one_facts V3.zb).1, x4, x5, HW3.word HJ.out, y0, y1, y2, y3, y4, y5, y6⟩
                clear m0 x0 x1 x2 x3 x4 x5 x6 y0 y1 y2 y3 y4 y5 y6 z0 c0 c1 c2 c3 c4 c5 c6
                have VD : Hid (VS w W9.drew gs gx a n c (.slice (some ⟨g', 0, none⟩) n n) l (.bool xt) (.int .i64 xn) (.int .i64 xl) (.int .i64 xh) (.int .i64 xa) (.int .i64 xp) (.int .i64 xs) (.bool true) (.int .i64 yn) (.int .i64 yl) (.int .i64 yh) (.int .i64 ya) (.int .i64 yp) (.int .i64 ys)) := V.out.below (Below.refl _ _).drew
                have BD : Hid (Below W9.heap.size W9 W9.drew) := (Below.refl _ _).drew
                have HWD : Hid (WB W9.drew g' L) := HW.out
                refine wp_region_held_drew (S := fun wx => wx.cell? ⟨gx, 0, none⟩ = some (.slice (some ⟨g', 0, none⟩) n n) ∧ wx.cell? ⟨gs + 1, 4, none⟩ = some (.int .i64 xa) ∧ wx.cell? ⟨gs + 1, 5, none⟩ = some (.int .i64 xp) ∧ (wx.cell? ⟨g', j * 7, none⟩ = some (.bool true) ∧ wx.cell? ⟨g', j * 7 + 1, none⟩ = some (.int .i64 yn) ∧ wx.cell? ⟨g', j * 7 + 2, none⟩ = some (.int .i64 yl) ∧ wx.cell? ⟨g', j * 7 + 3, none⟩ = some (.int .i64 yh) ∧ wx.cell? ⟨g', j * 7 + 4, none⟩ = some (.int .i64 ya) ∧ wx.cell? ⟨g', j * 7 + 5, none⟩ = some (.int .i64 yp) ∧ wx.cell? ⟨g', j * 7 + 6, none⟩ = some (.int .i64 ys)) ∧ wx.cell? ⟨gs + 2, 0, none⟩ = some (.bool true) ∧ wx.cell? ⟨gs + 2, 1, none⟩ = some (.int .i64 yn) ∧ wx.cell? ⟨gs + 2, 2, none⟩ = some (.int .i64 yl) ∧ wx.cell? ⟨gs + 2, 3, none⟩ = some (.int .i64 yh) ∧ wx.cell? ⟨gs + 2, 4, none⟩ = some (.int .i64 ya) ∧ wx.cell? ⟨gs + 2, 5, none⟩ = some (.int .i64 yp) ∧ wx.cell? ⟨gs + 2, 6, none⟩ = some (.int .i64 ys)) (by kernel_rfl) (HSS.out BD.out) (fun hHeld => ?_)
                generalize W9.drew = wS at VD BD HWD hHeld ⊢
                refine wpAnyH_take (i := 0) (oi := ?o556) (v := ?v556) ?i556 (by kernel_rfl) (by kernel_rfl) (by kernel_rfl) ?q556 ?y556 (hHeld) ?r556
                case i556 => exact rfl
                case q556 => exact (fun _ _ _ h => h)
                case y556 =>
                  refine Or.inl ⟨by rfl, ?_⟩
                  intro w hSw
                  (try dsimp only at hSw)
                  go_simp
                  first | done | rfl
                try simp only [Act.put, List.getElem_toArray, List.getElem_cons_zero, List.getElem_cons_succ, List.setIfInBounds_toArray, List.set_cons_zero, List.set_cons_succ]
                refine wpAnyH_take (i := 1) (oi := ?o557) (v := ?v557) ?i557 (by kernel_rfl) (by kernel_rfl) (by kernel_rfl) ?q557 ?y557 (hHeld) ?r557
                case i557 => exact rfl
                case q557 => exact (fun _ _ _ h => h)
                case y557 =>
                  refine Or.inl ⟨by rfl, ?_⟩
                  intro w hSw
                  (try dsimp only at hSw)
                  go_simp
                  first | done | rfl
                try simp only [Act.put, List.getElem_toArray, List.getElem_cons_zero, List.getElem_cons_succ, List.setIfInBounds_toArray, List.set_cons_zero, List.set_cons_succ]
                refine wpAnyH_take (i := 2) (oi := ?o558) (v := ?v558) ?i558 (by kernel_rfl) (by kernel_rfl) (by kernel_rfl) ?q558 ?y558 (hHeld) ?r558
                case i558 => exact rfl
                case q558 => exact (fun _ _ _ h => h)
                case y558 =>
                  refine Or.inl ⟨by rfl, ?_⟩
                  intro w hSw
                  (try dsimp only at hSw)
                  go_simp
                  first | done | rfl
                try simp only [Act.put, List.getElem_toArray, List.getElem_cons_zero, List.getElem_cons_succ, List.setIfInBounds_toArray, List.set_cons_zero, List.set_cons_succ]
                refine wpAnyH_take (i := 3) (oi := ?o559) (v := ?v559) ?i559 (by kernel_rfl) (by kernel_rfl) (by kernel_rfl) ?q559 ?y559 (hHeld) ?r559
                case i559 => exact rfl
                case q559 => exact (fun _ _ _ h => h)
                case y559 =>
                  refine Or.inl ⟨by rfl, ?_⟩
                  intro w hSw
                  (try dsimp only at hSw)
                  go_simp
                  first | done | rfl
                try simp only [Act.put, List.getElem_toArray, List.getElem_cons_zero, List.getElem_cons_succ, List.setIfInBounds_toArray, List.set_cons_zero, List.set_cons_succ]
                refine wpAnyH_take (i := 4) (oi := ?o560) (v := ?v560) ?i560 (by kernel_rfl) (by kernel_rfl) (by kernel_rfl) ?q560 ?y560 (hHeld) ?r560
                case i560 => exact rfl
                case q560 => exact (fun _ _ _ h => h)
                case y560 =>
                  refine Or.inl ⟨by rfl, ?_⟩
                  intro w hSw
                  (try dsimp only at hSw)
                  go_simp
                  first | done | rfl
                try simp only [Act.put, List.getElem_toArray, List.getElem_cons_zero, List.getElem_cons_succ, List.setIfInBounds_toArray, List.set_cons_zero, List.set_cons_succ]
                refine wpAnyH_take (i := 5) (oi := ?o561) (v := ?v561) ?i561 (by kernel_rfl) (by kernel_rfl) (by kernel_rfl) ?q561 ?y561 (hHeld) ?r561
                case i561 => exact rfl
                case q561 => exact (fun _ _ _ h => h)
                case y561 =>
                  refine Or.inl ⟨by rfl, ?_⟩
                  intro w hSw
                  (try dsimp only at hSw)
                  go_simp
                  first | done | rfl
                try simp only [Act.put, List.getElem_toArray, List.getElem_cons_zero, List.getElem_cons_succ, List.setIfInBounds_toArray, List.set_cons_zero, List.set_cons_succ]
                refine wpAnyH_take (i := 6) (oi := ?o562) (v := ?v562) ?i562 (by kernel_rfl) (by kernel_rfl) (by kernel_rfl) ?q562 ?y562 (hHeld) ?r562
                case i562 => exact rfl
                case q562 => exact (fun _ _ _ h => h)
                case y562 =>
                  refine Or.inl ⟨by rfl, ?_⟩
                  intro w hSw
                  (try dsimp only at hSw)
                  go_simp
                  first | done | rfl
                try simp only [Act.put, List.getElem_toArray, List.getElem_cons_zero, List.getElem_cons_succ, List.setIfInBounds_toArray, List.set_cons_zero, List.set_cons_succ]
                refine wpAnyH_take (i := 7) (oi := ?o563) (v := ?v563) ?i563 (by kernel_rfl) (by kernel_rfl) (by kernel_rfl) ?q563 ?y563 (hHeld) ?r563
                case i563 => exact rfl
                case q563 => exact (fun _ _ _ h => h)
                case y563 =>
                  refine Or.inl ⟨by rfl, ?_⟩
                  intro w hSw
                  (try dsimp only at hSw)
                  go_simp
                  first | done | rfl
                try simp only [Act.put, List.getElem_toArray, List.getElem_cons_zero, List.getElem_cons_succ, List.setIfInBounds_toArray, List.set_cons_zero, List.set_cons_succ]
                refine wpAnyH_take (i := 8) (oi := ?o564) (v := ?v564) ?i564 (by kernel_rfl) (by kernel_rfl) (by kernel_rfl) ?q564 ?y564 (hHeld) ?r564
                case i564 => exact rfl
                case q564 => exact (fun _ _ _ h => h)
                case y564 =>
                  refine Or.inl ⟨by rfl, ?_⟩
                  intro w hSw
                  (try dsimp only at hSw)
                  go_simp
                  first | done | rfl
                try simp only [Act.put, List.getElem_toArray, List.getElem_cons_zero, List.getElem_cons_succ, List.setIfInBounds_toArray, List.set_cons_zero, List.set_cons_succ]
                refine wpAnyH_take (i := 9) (oi := ?o565) (v := ?v565) ?i565 (by kernel_rfl) (by kernel_rfl) (by kernel_rfl) ?q565 ?y565 (hHeld) ?r565
                case i565 => exact rfl
                case q565 => exact (fun _ _ _ h => h)
                case y565 =>
                  refine Or.inl ⟨by rfl, ?_⟩
                  intro w hSw
                  (try dsimp only at hSw)
                  go_simp
                  first | done | rfl
                try simp only [Act.put, List.getElem_toArray, List.getElem_cons_zero, List.getElem_cons_succ, List.setIfInBounds_toArray, List.set_cons_zero, List.set_cons_succ]
                refine wpAnyH_take (i := 10) (oi := ?o566) (v := ?v566) ?i566 (by kernel_rfl) (by kernel_rfl) (by kernel_rfl) ?q566 ?y566 (hHeld) ?r566
                case i566 => exact rfl
                case q566 => exact (fun _ _ _ h => h)
                case y566 =>
                  refine Or.inl ⟨by rfl, ?_⟩
                  intro w hSw
                  (try dsimp only at hSw)
                  go_simp
                  first | done | rfl
                try simp only [Act.put, List.getElem_toArray, List.getElem_cons_zero, List.getElem_cons_succ, List.setIfInBounds_toArray, List.set_cons_zero, List.set_cons_succ]
                refine wpAnyH_take (i := 11) (oi := ?o567) (v := ?v567) ?i567 (by kernel_rfl) (by kernel_rfl) (by kernel_rfl) ?q567 ?y567 (hHeld) ?r567
                case i567 => exact rfl
                case q567 => exact (fun _ _ _ h => h)
                case y567 =>
                  refine Or.inl ⟨by rfl, ?_⟩
                  intro w hSw
                  (try dsimp only at hSw)
                  go_simp
                  first | done | rfl
                try simp only [Act.put, List.getElem_toArray, List.getElem_cons_zero, List.getElem_cons_succ, List.setIfInBounds_toArray, List.set_cons_zero, List.set_cons_succ]
                refine wpAnyH_take (i := 12) (oi := ?o568) (v := ?v568) ?i568 (by kernel_rfl) (by kernel_rfl) (by kernel_rfl) ?q568 ?y568 (hHeld) ?r568
                case i568 => exact rfl
                case q568 => exact (fun _ _ _ h => h)
                case y568 =>
                  refine Or.inl ⟨by rfl, ?_⟩
                  intro w hSw
                  (try dsimp only at hSw)
                  go_simp
                  first | done | rfl
                try simp only [Act.put, List.getElem_toArray, List.getElem_cons_zero, List.getElem_cons_succ, List.setIfInBounds_toArray, List.set_cons_zero, List.set_cons_succ]
                refine wpAnyH_take (i := 13) (oi := ?o569) (v := ?v569) ?i569 (by kernel_rfl) (by kernel_rfl) (by kernel_rfl) ?q569 ?y569 (hHeld) ?r569
                case i569 => exact rfl
                case q569 => exact (fun _ _ _ h => h)
                case y569 =>
                  refine Or.inl ⟨by rfl, ?_⟩
                  intro w hSw
                  (try dsimp only at hSw)
                  go_simp
                  first | done | rfl
                try simp only [Act.put, List.getElem_toArray, List.getElem_cons_zero, List.getElem_cons_succ, List.setIfInBounds_toArray, List.set_cons_zero, List.set_cons_succ]
                refine wpAnyH_take (i := 14) (oi := ?o570) (v := undef) ?i570 (by kernel_rfl) (by kernel_rfl) (by kernel_rfl) ?q570 ?y570 (hHeld) ?r570
                case i570 => exact rfl
                case q570 => exact (fun _ _ _ h => h)
                case y570 => exact Or.inr ⟨by rfl, rfl⟩
                try simp only [Act.put, List.getElem_toArray, List.getElem_cons_zero, List.getElem_cons_succ, List.setIfInBounds_toArray, List.set_cons_zero, List.set_cons_succ]
                refine wpAnyH_take (i := 15) (oi := ?o571) (v := undef) ?i571 (by kernel_rfl) (by kernel_rfl) (by kernel_rfl) ?q571 ?y571 (hHeld) ?r571
                case i571 => exact rfl
                case q571 => exact (fun _ _ _ h => h)
                case y571 => exact Or.inr ⟨by rfl, rfl⟩
                try simp only [Act.put, List.getElem_toArray, List.getElem_cons_zero, List.getElem_cons_succ, List.setIfInBounds_toArray, List.set_cons_zero, List.set_cons_succ]
                refine wpAnyH_take (i := 16) (oi := ?o572) (v := undef) ?i572 (by kernel_rfl) (by kernel_rfl) (by kernel_rfl) ?q572 ?y572 (hHeld) ?r572
                case i572 => exact rfl
                case q572 => exact (fun _ _ _ h => h)
                case y572 => exact Or.inr ⟨by rfl, rfl⟩
                try simp only [Act.put, List.getElem_toArray, List.getElem_cons_zero, List.getElem_cons_succ, List.setIfInBounds_toArray, List.set_cons_zero, List.set_cons_succ]
                refine wpAnyH_take (i := 17) (oi := ?o573) (v := undef) ?i573 (by kernel_rfl) (by kernel_rfl) (by kernel_rfl) ?q573 ?y573 (hHeld) ?r573
                case i573 => exact rfl
                case q573 => exact (fun _ _ _ h => h)
                case y573 => exact Or.inr ⟨by rfl, rfl⟩
                try simp only [Act.put, List.getElem_toArray, List.getElem_cons_zero, List.getElem_cons_succ, List.setIfInBounds_toArray, List.set_cons_zero, List.set_cons_succ]
                refine wpAnyH_take (i := 18) (oi := ?o574) (v := undef) ?i574 (by kernel_rfl) (by kernel_rfl) (by kernel_rfl) ?q574 ?y574 (hHeld) ?r574
                case i574 => exact rfl
                case q574 => exact (fun _ _ _ h => h)
                case y574 => exact Or.inr ⟨by rfl, rfl⟩
                try simp only [Act.put, List.getElem_toArray, List.getElem_cons_zero, List.getElem_cons_succ, List.setIfInBounds_toArray, List.set_cons_zero, List.set_cons_succ]
                refine wpAnyH_take (i := 19) (oi := ?o575) (v := undef) ?i575 (by kernel_rfl) (by kernel_rfl) (by kernel_rfl) ?q575 ?y575 (hHeld) ?r575
                case i575 => exact rfl
                case q575 => exact (fun _ _ _ h => h)
                case y575 => exact Or.inr ⟨by rfl, rfl⟩
                try simp only [Act.put, List.getElem_toArray, List.getElem_cons_zero, List.getElem_cons_succ, List.setIfInBounds_toArray, List.set_cons_zero, List.set_cons_succ]
                refine wpAnyH_take (i := 20) (oi := ?o576) (v := undef) ?i576 (by kernel_rfl) (by kernel_rfl) (by kernel_rfl) ?q576 ?y576 (hHeld) ?r576
                case i576 => exact rfl
                case q576 => exact (fun _ _ _ h => h)
                case y576 => exact Or.inr ⟨by rfl, rfl⟩
                try simp only [Act.put, List.getElem_toArray, List.getElem_cons_zero, List.getElem_cons_succ, List.setIfInBounds_toArray, List.set_cons_zero, List.set_cons_succ]
                refine wpAnyH_take (i := 21) (oi := ?o577) (v := undef) ?i577 (by kernel_rfl) (by kernel_rfl) (by kernel_rfl) ?q577 ?y577 (hHeld) ?r577
                case i577 => exact rfl
                case q577 => exact (fun _ _ _ h => h)
                case y577 => exact Or.inr ⟨by rfl, rfl⟩
                try simp only [Act.put, List.getElem_toArray, List.getElem_cons_zero, List.getElem_cons_succ, List.setIfInBounds_toArray, List.set_cons_zero, List.set_cons_succ]
                refine wpAnyH_take (i := 22) (oi := ?o578) (v := undef) ?i578 (by kernel_rfl) (by kernel_rfl) (by kernel_rfl) ?q578 ?y578 (hHeld) ?r578
                case i578 => exact rfl
                case q578 => exact (fun _ _ _ h => h)
                case y578 => exact Or.inr ⟨by rfl, rfl⟩
                try simp only [Act.put, List.getElem_toArray, List.getElem_cons_zero, List.getElem_cons_succ, List.setIfInBounds_toArray, List.set_cons_zero, List.set_cons_succ]
                refine wpAnyH_take (i := 23) (oi := ?o579) (v := undef) ?i579 (by kernel_rfl) (by kernel_rfl) (by kernel_rfl) ?q579 ?y579 (hHeld) ?r579
                case i579 => exact rfl
                case q579 => exact (fun _ _ _ h => h)
                case y579 => exact Or.inr ⟨by rfl, rfl⟩
                try simp only [Act.put, List.getElem_toArray, List.getElem_cons_zero, List.getElem_cons_succ, List.setIfInBounds_toArray, List.set_cons_zero, List.set_cons_succ]
                refine wpAnyH_take (i := 24) (oi := ?o580) (v := undef) ?i580 (by kernel_rfl) (by kernel_rfl) (by kernel_rfl) ?q580 ?y580 (hHeld) ?r580
                case i580 => exact rfl
                case q580 => exact (fun _ _ _ h => h)
                case y580 => exact Or.inr ⟨by rfl, rfl⟩
                try simp only [Act.put, List.getElem_toArray, List.getElem_cons_zero, List.getElem_cons_succ, List.setIfInBounds_toArray, List.set_cons_zero, List.set_cons_succ]
                refine wpAnyH_take (i := 25) (oi := ?o581) (v := undef) ?i581 (by kernel_rfl) (by kernel_rfl) (by kernel_rfl) ?q581 ?y581 (hHeld) ?r581
                case i581 => exact rfl
                case q581 => exact (fun _ _ _ h => h)
                case y581 => exact Or.inr ⟨by rfl, rfl⟩
                try simp only [Act.put, List.getElem_toArray, List.getElem_cons_zero, List.getElem_cons_succ, List.setIfInBounds_toArray, List.set_cons_zero, List.set_cons_succ]
                refine wpAnyH_take (i := 26) (oi := ?o582) (v := undef) ?i582 (by kernel_rfl) (by kernel_rfl) (by kernel_rfl) ?q582 ?y582 (hHeld) ?r582
                case i582 => exact rfl
                case q582 => exact (fun _ _ _ h => h)
                case y582 => exact Or.inr ⟨by rfl, rfl⟩
                try simp only [Act.put, List.getElem_toArray, List.getElem_cons_zero, List.getElem_cons_succ, List.setIfInBounds_toArray, List.set_cons_zero, List.set_cons_succ]
                refine wpAnyH_take (i := 27) (oi := ?o583) (v := undef) ?i583 (by kernel_rfl) (by kernel_rfl) (by kernel_rfl) ?q583 ?y583 (hHeld) ?r583
                case i583 => exact rfl
                case q583 => exact (fun _ _ _ h => h)
                case y583 => exact Or.inr ⟨by rfl, rfl⟩
                try simp only [Act.put, List.getElem_toArray, List.getElem_cons_zero, List.getElem_cons_succ, List.setIfInBounds_toArray, List.set_cons_zero, List.set_cons_succ]
                refine wpAnyH_take (i := 28) (oi := ?o584) (v := ?v584) ?i584 (by kernel_rfl) (by kernel_rfl) (by kernel_rfl) ?q584 ?y584 (hHeld) ?r584
                case i584 => exact rfl
                case q584 => exact (fun _ _ _ h => h)
                case y584 =>
                  refine Or.inl ⟨by rfl, ?_⟩
                  intro w hSw
                  (try dsimp only at hSw)
                  go_simp
                  first | done | rfl
                try simp only [Act.put, List.getElem_toArray, List.getElem_cons_zero, List.getElem_cons_succ, List.setIfInBounds_toArray, List.set_cons_zero, List.set_cons_succ]
                refine wpAnyH_take (i := 29) (oi := ?o585) (v := ?v585) ?i585 (by kernel_rfl) (by kernel_rfl) (by kernel_rfl) ?q585 ?y585 (hHeld) ?r585
                case i585 => exact rfl
                case q585 => exact (fun _ _ _ h => h)
                case y585 =>
                  refine Or.inl ⟨by rfl, ?_⟩
                  intro w hSw
                  (try dsimp only at hSw)
                  go_simp
                  first | done | rfl
                try simp only [Act.put, List.getElem_toArray, List.getElem_cons_zero, List.getElem_cons_succ, List.setIfInBounds_toArray, List.set_cons_zero, List.set_cons_succ]
                refine wpAnyH_take (i := 30) (oi := ?o586) (v := ?v586) ?i586 (by kernel_rfl) (by kernel_rfl) (by kernel_rfl) ?q586 ?y586 (hHeld) ?r586
                case i586 => exact rfl
                case q586 => exact (fun _ _ _ h => h)
                case y586 =>
                  refine Or.inl ⟨by rfl, ?_⟩
                  intro w hSw
                  (try dsimp only at hSw)
                  go_simp
                  first | done | rfl
                try simp only [Act.put, List.getElem_toArray, List.getElem_cons_zero, List.getElem_cons_succ, List.setIfInBounds_toArray, List.set_cons_zero, List.set_cons_succ]
                refine wpAnyH_take (i := 31) (oi := ?o587) (v := ?v587) ?i587 (by kernel_rfl) (by kernel_rfl) (by kernel_rfl) ?q587 ?y587 (hHeld) ?r587
                case i587 => exact rfl
                case q587 => exact (fun _ _ _ h => h)
                case y587 =>
                  refine Or.inl ⟨by rfl, ?_⟩
                  intro w hSw
                  (try dsimp only at hSw)
                  go_simp
                  first | done | rfl
                try simp only [Act.put, List.getElem_toArray, List.getElem_cons_zero, List.getElem_cons_succ, List.setIfInBounds_toArray, List.set_cons_zero, List.set_cons_succ]
                refine wpAnyH_take (i := 32) (oi := ?o588) (v := ?v588) ?i588 (by kernel_rfl) (by kernel_rfl) (by kernel_rfl) ?q588 ?y588 (hHeld) ?r588
                case i588 => exact rfl
                case q588 => exact (fun _ _ _ h => h)
                case y588 =>
                  refine Or.inl ⟨by rfl, ?_⟩
                  intro w hSw
                  (try dsimp only at hSw)
                  go_simp
                  first | done | rfl
                try simp only [Act.put, List.getElem_toArray, List.getElem_cons_zero, List.getElem_cons_succ, List.setIfInBounds_toArray, List.set_cons_zero, List.set_cons_succ]
                refine wpAnyH_take (i := 33) (oi := ?o589) (v := ?v589) ?i589 (by kernel_rfl) (by kernel_rfl) (by kernel_rfl) ?q589 ?y589 (hHeld) ?r589
                case i589 => exact rfl
                case q589 => exact (fun _ _ _ h => h)
                case y589 =>
                  refine Or.inl ⟨by rfl, ?_⟩
                  intro w hSw
                  (try dsimp only at hSw)
                  go_simp
                  first | done | rfl
                try simp only [Act.put, List.getElem_toArray, List.getElem_cons_zero, List.getElem_cons_succ, List.setIfInBounds_toArray, List.set_cons_zero, List.set_cons_succ]
                refine wpAnyH_ready (rs := [34]) (by kernel_rfl) (by simp) ?_
                refine AllReadyH.cons (i := 34) (o := ?o590) ?i590 (fun K hK => ?_) AllReadyH.nil
                case i590 => exact rfl
                go_simp
                (with_reducible refine (HMB wS HWD.out).mono ?_)
                rintro e wT ⟨rfl, hbT⟩
                have BT : Hid (Below W9.heap.size W9 wT) := BD.out.trans (hbT.mono BD.out.size)
                have VT : Hid (Below w.heap.size w wT) := VD.out.bl.trans (hbT.mono VD.out.bl.size)
                clear hbT
                go_wp2_with fail
                refine hK.out _ _ (HSS.out BT.out) (fun hHeld => ?_)
                clear hK K
                try simp only [Act.put, List.getElem_toArray, List.getElem_cons_zero, List.getElem_cons_succ, List.setIfInBounds_toArray, List.set_cons_zero, List.set_cons_succ]
                refine wpAnyH_take (i := 35) (oi := ?o591) (v := ?v591) ?i591 (by kernel_rfl) (by kernel_rfl) (by kernel_rfl) ?q591 ?y591 (hHeld) ?r591
                case i591 => exact rfl
                case q591 => exact (fun _ _ _ h => h)
                case y591 =>
                  refine Or.inl ⟨by rfl, ?_⟩
                  intro w hSw
                  (try dsimp only at hSw)
                  go_simp
                  first | done | rfl
                try simp only [Act.put, List.getElem_toArray, List.getElem_cons_zero, List.getElem_cons_succ, List.setIfInBounds_toArray, List.set_cons_zero, List.set_cons_succ]
                refine wpAnyH_take (i := 36) (oi := ?o592) (v := ?v592) ?i592 (by kernel_rfl) (by kernel_rfl) (by kernel_rfl) ?q592 ?y592 (hHeld) ?r592
                case i592 => exact rfl
                case q592 => exact (fun _ _ _ h => h)
                case y592 =>
                  refine Or.inl ⟨by rfl, ?_⟩
                  intro w hSw
                  (try dsimp only at hSw)
                  go_simp
                  first | done | rfl
                try simp only [Act.put, List.getElem_toArray, List.getElem_cons_zero, List.getElem_cons_succ, List.setIfInBounds_toArray, List.set_cons_zero, List.set_cons_succ]
                refine wpAnyH_take (i := 37) (oi := ?o593) (v := ?v593) ?i593 (by kernel_rfl) (by kernel_rfl) (by kernel_rfl) ?q593 ?y593 (hHeld) ?r593
                case i593 => exact rfl
                case q593 => exact (fun _ _ _ h => h)
                case y593 =>
                  refine Or.inl ⟨by rfl, ?_⟩
                  intro w hSw
                  (try dsimp only at hSw)
                  go_simp
                  first | done | rfl
                try simp only [Act.put, List.getElem_toArray, List.getElem_cons_zero, List.getElem_cons_succ, List.setIfInBounds_toArray, List.set_cons_zero, List.set_cons_succ]
                refine wpAnyH_take (i := 38) (oi := ?o594) (v := ?v594) ?i594 (by kernel_rfl) (by kernel_rfl) (by kernel_rfl) ?q594 ?y594 (hHeld) ?r594
                case i594 => exact rfl
                case q594 => exact (fun _ _ _ h => h)
                case y594 =>
                  refine Or.inl ⟨by rfl, ?_⟩
                  intro w hSw
                  (try dsimp only at hSw)
                  go_simp
                  first | done | rfl
                try simp only [Act.put, List.getElem_toArray, List.getElem_cons_zero, List.getElem_cons_succ, List.setIfInBounds_toArray, List.set_cons_zero, List.set_cons_succ]
                refine wpAnyH_take (i := 39) (oi := ?o595) (v := undef) ?i595 (by kernel_rfl) (by kernel_rfl) (by kernel_rfl) ?q595 ?y595 (hHeld) ?r595
                case i595 => exact rfl
                case q595 => exact (fun _ _ _ h => h)
                case y595 => exact Or.inr ⟨by rfl, rfl⟩
                try simp only [Act.put, List.getElem_toArray, List.getElem_cons_zero, List.getElem_cons_succ, List.setIfInBounds_toArray, List.set_cons_zero, List.set_cons_succ]
                refine wpAnyH_take (i := 40) (oi := ?o596) (v := undef) ?i596 (by kernel_rfl) (by kernel_rfl) (by kernel_rfl) ?q596 ?y596 (hHeld) ?r596
                case i596 => exact rfl
                case q596 => exact (fun _ _ _ h => h)
                case y596 => exact Or.inr ⟨by rfl, rfl⟩
                try simp only [Act.put, List.getElem_toArray, List.getElem_cons_zero, List.getElem_cons_succ, List.setIfInBounds_toArray, List.set_cons_zero, List.set_cons_succ]
                refine wpAnyH_take (i := 41) (oi := ?o597) (v := undef) ?i597 (by kernel_rfl) (by kernel_rfl) (by kernel_rfl) ?q597 ?y597 (hHeld) ?r597
                case i597 => exact rfl
                case q597 => exact (fun _ _ _ h => h)
                case y597 => exact Or.inr ⟨by rfl, rfl⟩
                try simp only [Act.put, List.getElem_toArray, List.getElem_cons_zero, List.getElem_cons_succ, List.setIfInBounds_toArray, List.set_cons_zero, List.set_cons_succ]
                refine wpAnyH_take (i := 42) (oi := ?o598) (v := ?v598) ?i598 (by kernel_rfl) (by kernel_rfl) (by kernel_rfl) ?q598 ?y598 (hHeld) ?r598
                case i598 => exact rfl
                case q598 => exact (fun _ _ _ h => h)
                case y598 =>
                  refine Or.inl ⟨by rfl, ?_⟩
                  intro w hSw
                  (try dsimp only at hSw)
                  go_simp
                  first | done | rfl
                try simp only [Act.put, List.getElem_toArray, List.getElem_cons_zero, List.getElem_cons_succ, List.setIfInBounds_toArray, List.set_cons_zero, List.set_cons_succ]
                refine wpAnyH_take (i := 43) (oi := ?o599) (v := ?v599) ?i599 (by kernel_rfl) (by kernel_rfl) (by kernel_rfl) ?q599 ?y599 (hHeld) ?r599
                case i599 => exact rfl
                case q599 => exact (fun _ _ _ h => h)
                case y599 =>
                  refine Or.inl ⟨by rfl, ?_⟩
                  intro w hSw
                  (try dsimp only at hSw)
                  go_simp
                  first | done | rfl
                try simp only [Act.put, List.getElem_toArray, List.getElem_cons_zero, List.getElem_cons_succ, List.setIfInBounds_toArray, List.set_cons_zero, List.set_cons_succ]
                refine wpAnyH_take (i := 44) (oi := ?o600) (v := ?v600) ?i600 (by kernel_rfl) (by kernel_rfl) (by kernel_rfl) ?q600 ?y600 (hHeld) ?r600
                case i600 => exact rfl
                case q600 => exact (fun _ _ _ h => h)
                case y600 =>
                  refine Or.inl ⟨by rfl, ?_⟩
                  intro w hSw
                  (try dsimp only at hSw)
                  go_simp
                  first | done | rfl
                try simp only [Act.put, List.getElem_toArray, List.getElem_cons_zero, List.getElem_cons_succ, List.setIfInBounds_toArray, List.set_cons_zero, List.set_cons_succ]
                refine wpAnyH_take (i := 45) (oi := ?o601) (v := ?v601) ?i601 (by kernel_rfl) (by kernel_rfl) (by kernel_rfl) ?q601 ?y601 (hHeld) ?r601
                case i601 => exact rfl
                case q601 => exact (fun _ _ _ h => h)
                case y601 =>
                  refine Or.inl ⟨by rfl, ?_⟩
                  intro w hSw
                  (try dsimp only at hSw)
                  go_simp
                  first | done | rfl
                try simp only [Act.put, List.getElem_toArray, List.getElem_cons_zero, List.getElem_cons_succ, List.setIfInBounds_toArray, List.set_cons_zero, List.set_cons_succ]
                refine wpAnyH_take (i := 46) (oi := ?o602) (v := ?v602) ?i602 (by kernel_rfl) (by kernel_rfl) (by kernel_rfl) ?q602 ?y602 (hHeld) ?r602
                case i602 => exact rfl
                case q602 => exact (fun _ _ _ h => h)
                case y602 =>
                  refine Or.inl ⟨by rfl, ?_⟩
                  intro w hSw
                  (try dsimp only at hSw)
                  go_simp
                  first | done | rfl
                try simp only [Act.put, List.getElem_toArray, List.getElem_cons_zero, List.getElem_cons_succ, List.setIfInBounds_toArray, List.set_cons_zero, List.set_cons_succ]
                refine wpAnyH_take (i := 47) (oi := ?o603) (v := ?v603) ?i603 (by kernel_rfl) (by kernel_rfl) (by kernel_rfl) ?q603 ?y603 (hHeld) ?r603
                case i603 => exact rfl
                case q603 => exact (fun _ _ _ h => h)
                case y603 =>
                  refine Or.inl ⟨by rfl, ?_⟩
                  intro w hSw
                  (try dsimp only at hSw)
                  go_simp
                  first | done | rfl
                try simp only [Act.put, List.getElem_toArray, List.getElem_cons_zero, List.getElem_cons_succ, List.setIfInBounds_toArray, List.set_cons_zero, List.set_cons_succ]
                refine wpAnyH_take (i := 48) (oi := ?o604) (v := undef) ?i604 (by kernel_rfl) (by kernel_rfl) (by kernel_rfl) ?q604 ?y604 (hHeld) ?r604
                case i604 => exact rfl
                case q604 => exact (fun _ _ _ h => h)
                case y604 => exact Or.inr ⟨by rfl, rfl⟩
                try simp only [Act.put, List.getElem_toArray, List.getElem_cons_zero, List.getElem_cons_succ, List.setIfInBounds_toArray, List.set_cons_zero, List.set_cons_succ]
                refine wpAnyH_take (i := 49) (oi := ?o605) (v := undef) ?i605 (by kernel_rfl) (by kernel_rfl) (by kernel_rfl) ?q605 ?y605 (hHeld) ?r605
                case i605 => exact rfl
                case q605 => exact (fun _ _ _ h => h)
                case y605 => exact Or.inr ⟨by rfl, rfl⟩
                try simp only [Act.put, List.getElem_toArray, List.getElem_cons_zero, List.getElem_cons_succ, List.setIfInBounds_toArray, List.set_cons_zero, List.set_cons_succ]
                refine wpAnyH_take (i := 50) (oi := ?o606) (v := undef) ?i606 (by kernel_rfl) (by kernel_rfl) (by kernel_rfl) ?q606 ?y606 (hHeld) ?r606
                case i606 => exact rfl
                case q606 => exact (fun _ _ _ h => h)
                case y606 => exact Or.inr ⟨by rfl, rfl⟩
                try simp only [Act.put, List.getElem_toArray, List.getElem_cons_zero, List.getElem_cons_succ, List.setIfInBounds_toArray, List.set_cons_zero, List.set_cons_succ]
                refine wpAnyH_take (i := 51) (oi := ?o607) (v := undef) ?i607 (by kernel_rfl) (by kernel_rfl) (by kernel_rfl) ?q607 ?y607 (hHeld) ?r607
                case i607 => exact rfl
                case q607 => exact (fun _ _ _ h => h)
                case y607 => exact Or.inr ⟨by rfl, rfl⟩
                try simp only [Act.put, List.getElem_toArray, List.getElem_cons_zero, List.getElem_cons_succ, List.setIfInBounds_toArray, List.set_cons_zero, List.set_cons_succ]
                refine wpAnyH_take (i := 52) (oi := ?o608) (v := ?v608) ?i608 (by kernel_rfl) (by kernel_rfl) (by kernel_rfl) ?q608 ?y608 (hHeld) ?r608
                case i608 => exact rfl
                case q608 => exact (fun _ _ _ h => h)
                case y608 =>
                  refine Or.inl ⟨by rfl, ?_⟩
                  intro w hSw
                  (try dsimp only at hSw)
                  go_simp
                  first | done | rfl
                try simp only [Act.put, List.getElem_toArray, List.getElem_cons_zero, List.getElem_cons_succ, List.setIfInBounds_toArray, List.set_cons_zero, List.set_cons_succ]
                refine wpAnyH_take (i := 53) (oi := ?o609) (v := ?v609) ?i609 (by kernel_rfl) (by kernel_rfl) (by kernel_rfl) ?q609 ?y609 (hHeld) ?r609
                case i609 => exact rfl
                case q609 => exact (fun _ _ _ h => h)
                case y609 =>
                  refine Or.inl ⟨by rfl, ?_⟩
                  intro w hSw
                  (try dsimp only at hSw)
                  go_simp
                  first | done | rfl
                try simp only [Act.put, List.getElem_toArray, List.getElem_cons_zero, List.getElem_cons_succ, List.setIfInBounds_toArray, List.set_cons_zero, List.set_cons_succ]
                refine wpAnyH_take (i := 54) (oi := ?o610) (v := ?v610) ?i610 (by kernel_rfl) (by kernel_rfl) (by kernel_rfl) ?q610 ?y610 (hHeld) ?r610
                case i610 => exact rfl
                case q610 => exact (fun _ _ _ h => h)
                case y610 =>
                  refine Or.inl ⟨by rfl, ?_⟩
                  intro w hSw
                  (try dsimp only at hSw)
                  go_simp
                  first | done | rfl
                try simp only [Act.put, List.getElem_toArray, List.getElem_cons_zero, List.getElem_cons_succ, List.setIfInBounds_toArray, List.set_cons_zero, List.set_cons_succ]
                refine wpAnyH_done (by kernel_rfl) ?_ _
                go_wp2_with fail
                go_ret
                exact ⟨rfl, VT.out⟩
              · obtain ⟨m0, _⟩ := one_facts V.out.mb
                obtain ⟨x0, x1, x2, x3, x4, x5, x6, _⟩ := row_facts V.out.xb
                obtain ⟨y0, y1, y2, y3, y4, y5, y6, _⟩ := row_facts V.out.yb
                obtain ⟨z0, _⟩ := one_facts V.out.zb
                go_upto_region 17 with fail
                clear m0 x0 x1 x2 x3 x4 x5 x6 y0 y1 y2 y3 y4 y5 y6 z0
                obtain ⟨m0, _⟩ := one_facts V.out.mb
                obtain ⟨x0, x1, x2, x3, x4, x5, x6, _⟩ := row_facts V.out.xb
                obtain ⟨y0, y1, y2, y3, y4, y5, y6, _⟩ := row_facts V.out.yb
                obtain ⟨z0, _⟩ := one_facts V.out.zb
                obtain ⟨c0, c1, c2, c3, c4, c5, c6⟩ := HW.out.word HJ.out
                have hx8 : decide (0 < bits .and .i64 xp 8) = true := by simpa using HLOC.out rfl
                go_upto_region 17 with fail
                have HSS : Hid (∀ {wx : World}, Below W9.heap.size W9 wx → wx.cell? ⟨gx, 0, none⟩ = some (.slice (some ⟨g', 0, none⟩) n n) ∧ wx.cell? ⟨gs + 1, 4, none⟩ = some (.int .i64 xa) ∧ wx.cell? ⟨gs + 1, 5, none⟩ = some (.int .i64 xp) ∧ (wx.cell? ⟨g', j * 7, none⟩ = some (.bool true) ∧ wx.cell? ⟨g', j * 7 + 1, none⟩ = some (.int .i64 yn) ∧ wx.cell? ⟨g', j * 7 + 2, none⟩ = some (.int .i64 yl) ∧ wx.cell? ⟨g', j * 7 + 3, none⟩ = some (.int .i64 yh) ∧ wx.cell? ⟨g', j * 7 + 4, none⟩ = some (.int .i64 ya) ∧ wx.cell? ⟨g', j * 7 + 5, none⟩ = some (.int .i64 yp) ∧ wx.cell? ⟨g', j * 7 + 6, none⟩ = some (.int .i64 ys)) ∧ wx.cell? ⟨gs + 2, 0, none⟩ = some (.bool true) ∧ wx.cell? ⟨gs + 2, 1, none⟩ = some (.int .i64 yn) ∧ wx.cell? ⟨gs + 2, 2, none⟩ = some (.int .i64 yl) ∧ wx.cell? ⟨gs + 2, 3, none⟩ = some (.int .i64 yh) ∧ wx.cell? ⟨gs + 2, 4, none⟩ = some (.int .i64 ya) ∧ wx.cell? ⟨gs + 2, 5, none⟩ = some (.int .i64 yp) ∧ wx.cell? ⟨gs + 2, 6, none⟩ = some (.int .i64 ys)) := by
                  intro wx hbx
                  have V3 := V.out.below hbx
                  have HW3 : WB wx g' L := HW.out.below hbx (Array.getElem?_eq_some_iff.1 HW.out).1
                  obtain ⟨x0, x1, x2, x3, x4, x5, x6, _⟩ := row_facts V3.xb
                  obtain ⟨y0, y1, y2, y3, y4, y5, y6, _⟩ := row_facts V3.yb
                  exact ⟨(one_facts V3.zb).1, x4, x5, HW3.word HJ.out, y0, y1, y2, y3, y4, y5, y6⟩
                clear m0 x0 x1 x2 x3 x4 x5 x6 y0 y1 y2 y3 y4 y5 y6 z0 c0 c1 c2 c3 c4 c5 c6
                have VD : Hid (VS w W9.drew gs gx a n c (.slice (some ⟨g', 0, none⟩) n n) l (.bool xt) (.int .i64 xn) (.int .i64 xl) (.int .i64 xh) (.int .i64 xa) (.int .i64 xp) (.int .i64 xs) (.bool true) (.int .i64 yn) (.int .i64 yl) (.int .i64 yh) (.int .i64 ya) (.int .i64 yp) (.int .i64 ys)) := V.out.below (Below.refl _ _).drew
                have BD : Hid (Below W9.heap.size W9 W9.drew) := (Below.refl _ _).drew
                have HWD : Hid (WB W9.drew g' L) := HW.out
                refine wp_region_held_drew (S := fun wx => wx.cell? ⟨gx, 0, none⟩ = some (.slice (some ⟨g', 0, none⟩) n n) ∧ wx.cell? ⟨gs + 1, 4, none⟩ = some (.int .i64 xa) ∧ wx.cell? ⟨gs + 1, 5, none⟩ = some (.int .i64 xp) ∧ (wx.cell? ⟨g', j * 7, none⟩ = some (.bool true) ∧ wx.cell? ⟨g', j * 7 + 1, none⟩ = some (.int .i64 yn) ∧ wx.cell? ⟨g', j * 7 + 2, none⟩ = some (.int .i64 yl) ∧ wx.cell? ⟨g', j * 7 + 3, none⟩ = some (.int .i64 yh) ∧ wx.cell? ⟨g', j * 7 + 4, none⟩ = some (.int .i64 ya) ∧ wx.cell? ⟨g', j * 7 + 5, none⟩ = some (.int .i64 yp) ∧ wx.cell? ⟨g', j * 7 + 6, none⟩ = some (.int .i64 ys)) ∧ wx.cell? ⟨gs + 2, 0, none⟩ = some (.bool true) ∧ wx.cell? ⟨gs + 2, 1, none⟩ = some (.int .i64 yn) ∧ wx.cell? ⟨gs + 2, 2, none⟩ = some (.int .i64 yl) ∧ wx.cell? ⟨gs + 2, 3, none⟩ = some (.int .i64 yh) ∧ wx.cell? ⟨gs + 2, 4, none⟩ = some (.int .i64 ya) ∧ wx.cell? ⟨gs + 2, 5, none⟩ = some (.int .i64 yp) ∧ wx.cell? ⟨gs + 2, 6, none⟩ = some (.int .i64 ys)) (by kernel_rfl) (HSS.out BD.out) (fun hHeld => ?_)
                generalize W9.drew = wS at VD BD HWD hHeld ⊢
                refine wpAnyH_take (i := 0) (oi := ?o611) (v := ?v611) ?i611 (by kernel_rfl) (by kernel_rfl) (by kernel_rfl) ?q611 ?y611 (hHeld) ?r611
                case i611 => exact rfl
                case q611 => exact (fun _ _ _ h => h)
                case y611 =>
                  refine Or.inl ⟨by rfl, ?_⟩
                  intro w hSw
                  (try dsimp only at hSw)
                  go_simp
                  first | done | rfl
                try simp only [Act.put, List.getElem_toArray, List.getElem_cons_zero, List.getElem_cons_succ, List.setIfInBounds_toArray, List.set_cons_zero, List.set_cons_succ]
                refine wpAnyH_take (i := 1) (oi := ?o612) (v := ?v612) ?i612 (by kernel_rfl) (by kernel_rfl) (by kernel_rfl) ?q612 ?y612 (hHeld) ?r612
                case i612 => exact rfl
                case q612 => exact (fun _ _ _ h => h)
                case y612 =>
                  refine Or.inl ⟨by rfl, ?_⟩
                  intro w hSw
                  (try dsimp only at hSw)
                  go_simp
                  first | done | rfl
                try simp only [Act.put, List.getElem_toArray, List.getElem_cons_zero, List.getElem_cons_succ, List.setIfInBounds_toArray, List.set_cons_zero, List.set_cons_succ]
                refine wpAnyH_take (i := 2) (oi := ?o613) (v := ?v613) ?i613 (by kernel_rfl) (by kernel_rfl) (by kernel_rfl) ?q613 ?y613 (hHeld) ?r613
                case i613 => exact rfl
                case q613 => exact (fun _ _ _ h => h)
                case y613 =>
                  refine Or.inl ⟨by rfl, ?_⟩
                  intro w hSw
                  (try dsimp only at hSw)
                  go_simp
                  first | done | rfl
                try simp only [Act.put, List.getElem_toArray, List.getElem_cons_zero, List.getElem_cons_succ, List.setIfInBounds_toArray, List.set_cons_zero, List.set_cons_succ]
                refine wpAnyH_take (i := 3) (oi := ?o614) (v := ?v614) ?i614 (by kernel_rfl) (by kernel_rfl) (by kernel_rfl) ?q614 ?y614 (hHeld) ?r614
                case i614 => exact rfl
                case q614 => exact (fun _ _ _ h => h)
                case y614 =>
                  refine Or.inl ⟨by rfl, ?_⟩
                  intro w hSw
                  (try dsimp only at hSw)
                  go_simp
                  first | done | rfl
                try simp only [Act.put, List.getElem_toArray, List.getElem_cons_zero, List.getElem_cons_succ, List.setIfInBounds_toArray, List.set_cons_zero, List.set_cons_succ]
                refine wpAnyH_take (i := 4) (oi := ?o615) (v := ?v615) ?i615 (by kernel_rfl) (by kernel_rfl) (by kernel_rfl) ?q615 ?y615 (hHeld) ?r615
                case i615 => exact rfl
                case q615 => exact (fun _ _ _ h => h)
                case y615 =>
                  refine Or.inl ⟨by rfl, ?_⟩
                  intro w hSw
                  (try dsimp only at hSw)
                  go_simp
                  first | done | rfl
                try simp only [Act.put, List.getElem_toArray, List.getElem_cons_zero, List.getElem_cons_succ, List.setIfInBounds_toArray, List.set_cons_zero, List.set_cons_succ]
                refine wpAnyH_take (i := 5) (oi := ?o616) (v := ?v616) ?i616 (by kernel_rfl) (by kernel_rfl) (by kernel_rfl) ?q616 ?y616 (hHeld) ?r616
                case i616 => exact rfl
                case q616 => exact (fun _ _ _ h => h)
                case y616 =>
                  refine Or.inl ⟨by rfl, ?_⟩
                  intro w hSw
                  (try dsimp only at hSw)
                  go_simp
                  first | done | rfl
                try simp only [Act.put, List.getElem_toArray, List.getElem_cons_zero, List.getElem_cons_succ, List.setIfInBounds_toArray, List.set_cons_zero, List.set_cons_succ]
                refine wpAnyH_take (i := 6) (oi := ?o617) (v := ?v617) ?i617 (by kernel_rfl) (by kernel_rfl) (by kernel_rfl) ?q617 ?y617 (hHeld) ?r617
                case i617 => exact rfl
                case q617 => exact (fun _ _ _ h => h)
                case y617 =>
                  refine Or.inl ⟨by rfl, ?_⟩
                  intro w hSw
                  (try dsimp only at hSw)
                  go_simp
                  first | done | rfl
                try simp only [Act.put, List.getElem_toArray, List.getElem_cons_zero, List.getElem_cons_succ, List.setIfInBounds_toArray, List.set_cons_zero, List.set_cons_succ]
                refine wpAnyH_take (i := 7) (oi := ?o618) (v := ?v618) ?i618 (by kernel_rfl) (by kernel_rfl) (by kernel_rfl) ?q618 ?y618 (hHeld) ?r618
                case i618 => exact rfl
                case q618 => exact (fun _ _ _ h => h)
                case y618 =>
                  refine Or.inl ⟨by rfl, ?_⟩
                  intro w hSw
                  (try dsimp only at hSw)
                  go_simp
                  first | done | rfl
                try simp only [Act.put, List.getElem_toArray, List.getElem_cons_zero, List.getElem_cons_succ, List.setIfInBounds_toArray, List.set_cons_zero, List.set_cons_succ]
                refine wpAnyH_take (i := 8) (oi := ?o619) (v := ?v619) ?i619 (by kernel_rfl) (by kernel_rfl) (by kernel_rfl) ?q619 ?y619 (hHeld) ?r619
                case i619 => exact rfl
                case q619 => exact (fun _ _ _ h => h)
                case y619 =>
                  refine Or.inl ⟨by rfl, ?_⟩
                  intro w hSw
                  (try dsimp only at hSw)
                  go_simp
                  first | done | rfl
                try simp only [Act.put, List.getElem_toArray, List.getElem_cons_zero, List.getElem_cons_succ, List.setIfInBounds_toArray, List.set_cons_zero, List.set_cons_succ]
                refine wpAnyH_take (i := 9) (oi := ?o620) (v := ?v620) ?i620 (by kernel_rfl) (by kernel_rfl) (by kernel_rfl) ?q620 ?y620 (hHeld) ?r620
                case i620 => exact rfl
                case q620 => exact (fun _ _ _ h => h)
                case y620 =>
                  refine Or.inl ⟨by rfl, ?_⟩
                  intro w hSw
                  (try dsimp only at hSw)
                  go_simp
                  first | done | rfl
                try simp only [Act.put, List.getElem_toArray, List.getElem_cons_zero, List.getElem_cons_succ, List.setIfInBounds_toArray, List.set_cons_zero, List.set_cons_succ]
                refine wpAnyH_take (i := 10) (oi := ?o621) (v := ?v621) ?i621 (by kernel_rfl) (by kernel_rfl) (by kernel_rfl) ?q621 ?y621 (hHeld) ?r621
                case i621 => exact rfl
                case q621 => exact (fun _ _ _ h => h)
                case y621 =>
                  refine Or.inl ⟨by rfl, ?_⟩
                  intro w hSw
                  (try dsimp only at hSw)
                  go_simp
                  first | done | rfl
                try simp only [Act.put, List.getElem_toArray, List.getElem_cons_zero, List.getElem_cons_succ, List.setIfInBounds_toArray, List.set_cons_zero, List.set_cons_succ]
                refine wpAnyH_take (i := 11) (oi := ?o622) (v := ?v622) ?i622 (by kernel_rfl) (by kernel_rfl) (by kernel_rfl) ?q622 ?y622 (hHeld) ?r622
                case i622 => exact rfl
                case q622 => exact (fun _ _ _ h => h)
                case y622 =>
                  refine Or.inl ⟨by rfl, ?_⟩
                  intro w hSw
                  (try dsimp only at hSw)
                  go_simp
                  first | done | rfl
                try simp only [Act.put, List.getElem_toArray, List.getElem_cons_zero, List.getElem_cons_succ, List.setIfInBounds_toArray, List.set_cons_zero, List.set_cons_succ]
                refine wpAnyH_take (i := 12) (oi := ?o623) (v := ?v623) ?i623 (by kernel_rfl) (by kernel_rfl) (by kernel_rfl) ?q623 ?y623 (hHeld) ?r623
                case i623 => exact rfl
                case q623 => exact (fun _ _ _ h => h)
                case y623 =>
                  refine Or.inl ⟨by rfl, ?_⟩
                  intro w hSw
                  (try dsimp only at hSw)
                  go_simp
                  first | done | rfl
                try simp only [Act.put, List.getElem_toArray, List.getElem_cons_zero, List.getElem_cons_succ, List.setIfInBounds_toArray, List.set_cons_zero, List.set_cons_succ]
                refine wpAnyH_take (i := 13) (oi := ?o624) (v := ?v624) ?i624 (by kernel_rfl) (by kernel_rfl) (by kernel_rfl) ?q624 ?y624 (hHeld) ?r624
                case i624 => exact rfl
                case q624 => exact (fun _ _ _ h => h)
                case y624 =>
                  refine Or.inl ⟨by rfl, ?_⟩
                  intro w hSw
                  (try dsimp only at hSw)
                  go_simp
                  first | done | rfl
                try simp only [Act.put, List.getElem_toArray, List.getElem_cons_zero, List.getElem_cons_succ, List.setIfInBounds_toArray, List.set_cons_zero, List.set_cons_succ]
                refine wpAnyH_take (i := 14) (oi := ?o625) (v := undef) ?i625 (by kernel_rfl) (by kernel_rfl) (by kernel_rfl) ?q625 ?y625 (hHeld) ?r625
                case i625 => exact rfl
                case q625 => exact (fun _ _ _ h => h)
                case y625 => exact Or.inr ⟨by rfl, rfl⟩
                try simp only [Act.put, List.getElem_toArray, List.getElem_cons_zero, List.getElem_cons_succ, List.setIfInBounds_toArray, List.set_cons_zero, List.set_cons_succ]
                refine wpAnyH_take (i := 15) (oi := ?o626) (v := undef) ?i626 (by kernel_rfl) (by kernel_rfl) (by kernel_rfl) ?q626 ?y626 (hHeld) ?r626
                case i626 => exact rfl
                case q626 => exact (fun _ _ _ h => h)
                case y626 => exact Or.inr ⟨by rfl, rfl⟩
                try simp only [Act.put, List.getElem_toArray, List.getElem_cons_zero, List.getElem_cons_succ, List.setIfInBounds_toArray, List.set_cons_zero, List.set_cons_succ]
                refine wpAnyH_take (i := 16) (oi := ?o627) (v := undef) ?i627 (by kernel_rfl) (by kernel_rfl) (by kernel_rfl) ?q627 ?y627 (hHeld) ?r627
                case i627 => exact rfl
                case q627 => exact (fun _ _ _ h => h)
                case y627 => exact Or.inr ⟨by rfl, rfl⟩
                try simp only [Act.put, List.getElem_toArray, List.getElem_cons_zero, List.getElem_cons_succ, List.setIfInBounds_toArray, List.set_cons_zero, List.set_cons_succ]
                refine wpAnyH_take (i := 17) (oi := ?o628) (v := undef) ?i628 (by kernel_rfl) (by kernel_rfl) (by kernel_rfl) ?q628 ?y628 (hHeld) ?r628
                case i628 => exact rfl
                case q628 => exact (fun _ _ _ h => h)
                case y628 => exact Or.inr ⟨by rfl, rfl⟩
                try simp only [Act.put, List.getElem_toArray, List.getElem_cons_zero, List.getElem_cons_succ, List.setIfInBounds_toArray, List.set_cons_zero, List.set_cons_succ]
                refine wpAnyH_take (i := 18) (oi := ?o629) (v := undef) ?i629 (by kernel_rfl) (by kernel_rfl) (by kernel_rfl) ?q629 ?y629 (hHeld) ?r629
                case i629 => exact rfl
                case q629 => exact (fun _ _ _ h => h)
                case y629 => exact Or.inr ⟨by rfl, rfl⟩
                try simp only [Act.put, List.getElem_toArray, List.getElem_cons_zero, List.getElem_cons_succ, List.setIfInBounds_toArray, List.set_cons_zero, List.set_cons_succ]
                refine wpAnyH_take (i := 19) (oi := ?o630) (v := undef) ?i630 (by kernel_rfl) (by kernel_rfl) (by kernel_rfl) ?q630 ?y630 (hHeld) ?r630
                case i630 => exact rfl
                case q630 => exact (fun _ _ _ h => h)
                case y630 => exact Or.inr ⟨by rfl, rfl⟩
                try simp only [Act.put, List.getElem_toArray, List.getElem_cons_zero, List.getElem_cons_succ, List.setIfInBounds_toArray, List.set_cons_zero, List.set_cons_succ]
                refine wpAnyH_take (i := 20) (oi := ?o631) (v := undef) ?i631 (by kernel_rfl) (by kernel_rfl) (by kernel_rfl) ?q631 ?y631 (hHeld) ?r631
                case i631 => exact rfl
                case q631 => exact (fun _ _ _ h => h)
                case y631 => exact Or.inr ⟨by rfl, rfl⟩
                try simp only [Act.put, List.getElem_toArray, List.getElem_cons_zero, List.getElem_cons_succ, List.setIfInBounds_toArray, List.set_cons_zero, List.set_cons_succ]
                refine wpAnyH_take (i := 21) (oi := ?o632) (v := undef) ?i632 (by kernel_rfl) (by kernel_rfl) (by kernel_rfl) ?q632 ?y632 (hHeld) ?r632
                case i632 => exact rfl
                case q632 => exact (fun _ _ _ h => h)
                case y632 => exact Or.inr ⟨by rfl, rfl⟩
                try simp only [Act.put, List.getElem_toArray, List.getElem_cons_zero, List.getElem_cons_succ, List.setIfInBounds_toArray, List.set_cons_zero, List.set_cons_succ]
                refine wpAnyH_take (i := 22) (oi := ?o633) (v := undef) ?i633 (by kernel_rfl) (by kernel_rfl) (by kernel_rfl) ?q633 ?y633 (hHeld) ?r633
                case i633 => exact rfl
                case q633 => exact (fun _ _ _ h => h)
                case y633 => exact Or.inr ⟨by rfl, rfl⟩
                try simp only [Act.put, List.getElem_toArray, List.getElem_cons_zero, List.getElem_cons_succ, List.setIfInBounds_toArray, List.set_cons_zero, List.set_cons_succ]
                refine wpAnyH_take (i := 23) (oi := ?o634) (v := undef) ?i634 (by kernel_rfl) (by kernel_rfl) (by kernel_rfl) ?q634 ?y634 (hHeld) ?r634
                case i634 => exact rfl
                case q634 => exact (fun _ _ _ h => h)
                case y634 => exact Or.inr ⟨by rfl, rfl⟩
                try simp only [Act.put, List.getElem_toArray, List.getElem_cons_zero, List.getElem_cons_succ, List.setIfInBounds_toArray, List.set_cons_zero, List.set_cons_succ]
                refine wpAnyH_take (i := 24) (oi := ?o635) (v := undef) ?i635 (by kernel_rfl) (by kernel_rfl) (by kernel_rfl) ?q635 ?y635 (hHeld) ?r635
                case i635 => exact rfl
                case q635 => exact (fun _ _ _ h => h)
                case y635 => exact Or.inr ⟨by rfl, rfl⟩
                try simp only [Act.put, List.getElem_toArray, List.getElem_cons_zero, List.getElem_cons_succ, List.setIfInBounds_toArray, List.set_cons_zero, List.set_cons_succ]
                refine wpAnyH_take (i := 25) (oi := ?o636) (v := undef) ?i636 (by kernel_rfl) (by kernel_rfl) (by kernel_rfl) ?q636 ?y636 (hHeld) ?r636
                case i636 => exact rfl
                case q636 => exact (fun _ _ _ h => h)
                case y636 => exact Or.inr ⟨by rfl, rfl⟩
                try simp only [Act.put, List.getElem_toArray, List.getElem_cons_zero, List.getElem_cons_succ, List.setIfInBounds_toArray, List.set_cons_zero, List.set_cons_succ]
                refine wpAnyH_take (i := 26) (oi := ?o637) (v := undef) ?i637 (by kernel_rfl) (by kernel_rfl) (by kernel_rfl) ?q637 ?y637 (hHeld) ?r637
                case i637 => exact rfl
                case q637 => exact (fun _ _ _ h => h)
                case y637 => exact Or.inr ⟨by rfl, rfl⟩
                try simp only [Act.put, List.getElem_toArray, List.getElem_cons_zero, List.getElem_cons_succ, List.setIfInBounds_toArray, List.set_cons_zero, List.set_cons_succ]
                refine wpAnyH_take (i := 27) (oi := ?o638) (v := undef) ?i638 (by kernel_rfl) (by kernel_rfl) (by kernel_rfl) ?q638 ?y638 (hHeld) ?r638
                case i638 => exact rfl
                case q638 => exact (fun _ _ _ h => h)
                case y638 => exact Or.inr ⟨by rfl, rfl⟩
                try simp only [Act.put, List.getElem_toArray, List.getElem_cons_zero, List.getElem_cons_succ, List.setIfInBounds_toArray, List.set_cons_zero, List.set_cons_succ]
                refine wpAnyH_take (i := 28) (oi := ?o639) (v := ?v639) ?i639 (by kernel_rfl) (by kernel_rfl) (by kernel_rfl) ?q639 ?y639 (hHeld) ?r639
                case i639 => exact rfl
                case q639 => exact (fun _ _ _ h => h)
                case y639 =>
                  refine Or.inl ⟨by rfl, ?_⟩
                  intro w hSw
                  (try dsimp only at hSw)
                  go_simp
                  first | done | rfl
                try simp only [Act.put, List.getElem_toArray, List.getElem_cons_zero, List.getElem_cons_succ, List.setIfInBounds_toArray, List.set_cons_zero, List.set_cons_succ]
                refine wpAnyH_take (i := 29) (oi := ?o640) (v := ?v640) ?i640 (by kernel_rfl) (by kernel_rfl) (by kernel_rfl) ?q640 ?y640 (hHeld) ?r640
                case i640 => exact rfl
                case q640 => exact (fun _ _ _ h => h)
                case y640 =>
                  refine Or.inl ⟨by rfl, ?_⟩
                  intro w hSw
                  (try dsimp only at hSw)
                  go_simp
                  first | done | rfl
                try simp only [Act.put, List.getElem_toArray, List.getElem_cons_zero, List.getElem_cons_succ, List.setIfInBounds_toArray, List.set_cons_zero, List.set_cons_succ]
                refine wpAnyH_take (i := 30) (oi := ?o641) (v := ?v641) ?i641 (by kernel_rfl) (by kernel_rfl) (by kernel_rfl) ?q641 ?y641 (hHeld) ?r641
                case i641 => exact rfl
                case q641 => exact (fun _ _ _ h => h)
                case y641 =>
                  refine Or.inl ⟨by rfl, ?_⟩
                  intro w hSw
                  (try dsimp only at hSw)
                  go_simp
                  first | done | rfl
                try simp only [Act.put, List.getElem_toArray, List.getElem_cons_zero, List.getElem_cons_succ, List.setIfInBounds_toArray, List.set_cons_zero, List.set_cons_succ]
                refine wpAnyH_take (i := 31) (oi := ?o642) (v := ?v642) ?i642 (by kernel_rfl) (by kernel_rfl) (by kernel_rfl) ?q642 ?y642 (hHeld) ?r642
                case i642 => exact rfl
                case q642 => exact (fun _ _ _ h => h)
                case y642 =>
                  refine Or.inl ⟨by rfl, ?_⟩
                  intro w hSw
                  (try dsimp only at hSw)
                  go_simp
                  first | done | rfl
                try simp only [Act.put, List.getElem_toArray, List.getElem_cons_zero, List.getElem_cons_succ, List.setIfInBounds_toArray, List.set_cons_zero, List.set_cons_succ]
                refine wpAnyH_take (i := 32) (oi := ?o643) (v := ?v643) ?i643 (by kernel_rfl) (by kernel_rfl) (by kernel_rfl) ?q643 ?y643 (hHeld) ?r643
                case i643 => exact rfl
                case q643 => exact (fun _ _ _ h => h)
                case y643 =>
                  refine Or.inl ⟨by rfl, ?_⟩
                  intro w hSw
                  (try dsimp only at hSw)
                  go_simp
                  first | done | rfl
                try simp only [Act.put, List.getElem_toArray, List.getElem_cons_zero, List.getElem_cons_succ, List.setIfInBounds_toArray, List.set_cons_zero, List.set_cons_succ]
                refine wpAnyH_take (i := 33) (oi := ?o644) (v := ?v644) ?i644 (by kernel_rfl) (by kernel_rfl) (by kernel_rfl) ?q644 ?y644 (hHeld) ?r644
                case i644 => exact rfl
                case q644 => exact (fun _ _ _ h => h)
                case y644 =>
                  refine Or.inl ⟨by rfl, ?_⟩
                  intro w hSw
                  (try dsimp only at hSw)
                  go_simp
                  first | done | rfl
                try simp only [Act.put, List.getElem_toArray, List.getElem_cons_zero, List.getElem_cons_succ, List.setIfInBounds_toArray, List.set_cons_zero, List.set_cons_succ]
                refine wpAnyH_ready (rs := [34]) (by kernel_rfl) (by simp) ?_
                refine AllReadyH.cons (i := 34) (o := ?o645) ?i645 (fun K hK => ?_) AllReadyH.nil
                case i645 => exact rfl
                go_simp
                (with_reducible refine (HMB wS HWD.out).mono ?_)
                rintro e wT ⟨rfl, hbT⟩
                have BT : Hid (Below W9.heap.size W9 wT) := BD.out.trans (hbT.mono BD.out.size)
                have VT : Hid (Below w.heap.size w wT) := VD.out.bl.trans (hbT.mono VD.out.bl.size)
                clear hbT
                go_wp2_with fail
                refine hK.out _ _ (HSS.out BT.out) (fun hHeld => ?_)
                clear hK K
                try simp only [Act.put, List.getElem_toArray, List.getElem_cons_zero, List.getElem_cons_succ, List.setIfInBounds_toArray, List.set_cons_zero, List.set_cons_succ]
                refine wpAnyH_take (i := 35) (oi := ?o646) (v := ?v646) ?i646 (by kernel_rfl) (by kernel_rfl) (by kernel_rfl) ?q646 ?y646 (hHeld) ?r646
                case i646 => exact rfl
                case q646 => exact (fun _ _ _ h => h)
                case y646 =>
                  refine Or.inl ⟨by rfl, ?_⟩
                  intro w hSw
                  (try dsimp only at hSw)
                  go_simp
                  first | done | rfl
                try simp only [Act.put, List.getElem_toArray, List.getElem_cons_zero, List.getElem_cons_succ, List.setIfInBounds_toArray, List.set_cons_zero, List.set_cons_succ]
                refine wpAnyH_take (i := 36) (oi := ?o647) (v := ?v647) ?i647 (by kernel_rfl) (by kernel_rfl) (by kernel_rfl) ?q647 ?y647 (hHeld) ?r647
                case i647 => exact rfl
                case q647 => exact (fun _ _ _ h => h)
                case y647 =>
                  refine Or.inl ⟨by rfl, ?_⟩
                  intro w hSw
                  (try dsimp only at hSw)
                  go_simp
                  first | done | rfl
                try simp only [Act.put, List.getElem_toArray, List.getElem_cons_zero, List.getElem_cons_succ, List.setIfInBounds_toArray, List.set_cons_zero, List.set_cons_succ]
                refine wpAnyH_take (i := 37) (oi := ?o648) (v := ?v648) ?i648 (by kernel_rfl) (by kernel_rfl) (by kernel_rfl) ?q648 ?y648 (hHeld) ?r648
                case i648 => exact rfl
                case q648 => exact (fun _ _ _ h => h)
                case y648 =>
                  refine Or.inl ⟨by rfl, ?_⟩
                  intro w hSw
                  (try dsimp only at hSw)
                  go_simp
                  first | done | rfl
                try simp only [Act.put, List.getElem_toArray, List.getElem_cons_zero, List.getElem_cons_succ, List.setIfInBounds_toArray, List.set_cons_zero, List.set_cons_succ]
                refine wpAnyH_take (i := 38) (oi := ?o649) (v := ?v649) ?i649 (by kernel_rfl) (by kernel_rfl) (by kernel_rfl) ?q649 ?y649 (hHeld) ?r649
                case i649 => exact rfl
                case q649 => exact (fun _ _ _ h => h)
                case y649 =>
                  refine Or.inl ⟨by rfl, ?_⟩
                  intro w hSw
                  (try dsimp only at hSw)
                  go_simp
                  first | done | rfl
                try simp only [Act.put, List.getElem_toArray, List.getElem_cons_zero, List.getElem_cons_succ, List.setIfInBounds_toArray, List.set_cons_zero, List.set_cons_succ]
                refine wpAnyH_take (i := 39) (oi := ?o650) (v := undef) ?i650 (by kernel_rfl) (by kernel_rfl) (by kernel_rfl) ?q650 ?y650 (hHeld) ?r650
                case i650 => exact rfl
                case q650 => exact (fun _ _ _ h => h)
                case y650 => exact Or.inr ⟨by rfl, rfl⟩
                try simp only [Act.put, List.getElem_toArray, List.getElem_cons_zero, List.getElem_cons_succ, List.setIfInBounds_toArray, List.set_cons_zero, List.set_cons_succ]
                refine wpAnyH_take (i := 40) (oi := ?o651) (v := undef) ?i651 (by kernel_rfl) (by kernel_rfl) (by kernel_rfl) ?q651 ?y651 (hHeld) ?r651
                case i651 => exact rfl
                case q651 => exact (fun _ _ _ h => h)
                case y651 => exact Or.inr ⟨by rfl, rfl⟩
                try simp only [Act.put, List.getElem_toArray, List.getElem_cons_zero, List.getElem_cons_succ, List.setIfInBounds_toArray, List.set_cons_zero, List.set_cons_succ]
                refine wpAnyH_take (i := 41) (oi := ?o652) (v := undef) ?i652 (by kernel_rfl) (by kernel_rfl) (by kernel_rfl) ?q652 ?y652 (hHeld) ?r652
                case i652 => exact rfl
                case q652 => exact (fun _ _ _ h => h)
                case y652 => exact Or.inr ⟨by rfl, rfl⟩
                try simp only [Act.put, List.getElem_toArray, List.getElem_cons_zero, List.getElem_cons_succ, List.setIfInBounds_toArray, List.set_cons_zero, List.set_cons_succ]
                refine wpAnyH_take (i := 42) (oi := ?o653) (v := ?v653) ?i653 (by kernel_rfl) (by kernel_rfl) (by kernel_rfl) ?q653 ?y653 (hHeld) ?r653
                case i653 => exact rfl
                case q653 => exact (fun _ _ _ h => h)
                case y653 =>
                  refine Or.inl ⟨by rfl, ?_⟩
                  intro w hSw
                  (try dsimp only at hSw)
                  go_simp
                  first | done | rfl
                try simp only [Act.put, List.getElem_toArray, List.getElem_cons_zero, List.getElem_cons_succ, List.setIfInBounds_toArray, List.set_cons_zero, List.set_cons_succ]
                refine wpAnyH_take (i := 43) (oi := ?o654) (v := ?v654) ?i654 (by kernel_rfl) (by kernel_rfl) (by kernel_rfl) ?q654 ?y654 (hHeld) ?r654
                case i654 => exact rfl
                case q654 => exact (fun _ _ _ h => h)
                case y654 =>
                  refine Or.inl ⟨by rfl, ?_⟩
                  intro w hSw
                  (try dsimp only at hSw)
                  go_simp
                  first | done | rfl
                try simp only [Act.put, List.getElem_toArray, List.getElem_cons_zero, List.getElem_cons_succ, List.setIfInBounds_toArray, List.set_cons_zero, List.set_cons_succ]
                refine wpAnyH_take (i := 44) (oi := ?o655) (v := ?v655) ?i655 (by kernel_rfl) (by kernel_rfl) (by kernel_rfl) ?q655 ?y655 (hHeld) ?r655
                case i655 => exact rfl
                case q655 => exact (fun _ _ _ h => h)
                case y655 =>
                  refine Or.inl ⟨by rfl, ?_⟩
                  intro w hSw
                  (try dsimp only at hSw)
                  go_simp
                  first | done | rfl
                try simp only [Act.put, List.getElem_toArray, List.getElem_cons_zero, List.getElem_cons_succ, List.setIfInBounds_toArray, List.set_cons_zero, List.set_cons_succ]
                refine wpAnyH_take (i := 45) (oi := ?o656) (v := ?v656) ?i656 (by kernel_rfl) (by kernel_rfl) (by kernel_rfl) ?q656 ?y656 (hHeld) ?r656
                case i656 => exact rfl
                case q656 => exact (fun _ _ _ h => h)
                case y656 =>
                  refine Or.inl ⟨by rfl, ?_⟩
                  intro w hSw
                  (try dsimp only at hSw)
                  go_simp
                  first | done | rfl
                try simp only [Act.put, List.getElem_toArray, List.getElem_cons_zero, List.getElem_cons_succ, List.setIfInBounds_toArray, List.set_cons_zero, List.set_cons_succ]
                refine wpAnyH_take (i := 46) (oi := ?o657) (v := ?v657) ?i657 (by kernel_rfl) (by kernel_rfl) (by kernel_rfl) ?q657 ?y657 (hHeld) ?r657
                case i657 => exact rfl
                case q657 => exact (fun _ _ _ h => h)
                case y657 =>
                  refine Or.inl ⟨by rfl, ?_⟩
                  intro w hSw
                  (try dsimp only at hSw)
                  go_simp
                  first | done | rfl
                try simp only [Act.put, List.getElem_toArray, List.getElem_cons_zero, List.getElem_cons_succ, List.setIfInBounds_toArray, List.set_cons_zero, List.set_cons_succ]
                refine wpAnyH_take (i := 47) (oi := ?o658) (v := ?v658) ?i658 (by kernel_rfl) (by kernel_rfl) (by kernel_rfl) ?q658 ?y658 (hHeld) ?r658
                case i658 => exact rfl
                case q658 => exact (fun _ _ _ h => h)
                case y658 =>
                  refine Or.inl ⟨by rfl, ?_⟩
                  intro w hSw
                  (try dsimp only at hSw)
                  go_simp
                  first | done | rfl
                try simp only [Act.put, List.getElem_toArray, List.getElem_cons_zero, List.getElem_cons_succ, List.setIfInBounds_toArray, List.set_cons_zero, List.set_cons_succ]
                refine wpAnyH_take (i := 48) (oi := ?o659) (v := ?v659) ?i659 (by kernel_rfl) (by kernel_rfl) (by kernel_rfl) ?q659 ?y659 (hHeld) ?r659
                case i659 => exact rfl
                case q659 => exact (fun _ _ _ h => h)
                case y659 =>
                  refine Or.inl ⟨by rfl, ?_⟩
                  intro w hSw
                  (try dsimp only at hSw)
                  go_simp
                  first | done | rfl
                try simp only [Act.put, List.getElem_toArray, List.getElem_cons_zero, List.getElem_cons_succ, List.setIfInBounds_toArray, List.set_cons_zero, List.set_cons_succ]
                refine wpAnyH_take (i := 49) (oi := ?o660) (v := ?v660) ?i660 (by kernel_rfl) (by kernel_rfl) (by kernel_rfl) ?q660 ?y660 (hHeld) ?r660
                case i660 => exact rfl
                case q660 => exact (fun _ _ _ h => h)
                case y660 =>
                  refine Or.inl ⟨by rfl, ?_⟩
                  intro w hSw
                  (try dsimp only at hSw)
                  go_simp
                  first | done | rfl
                try simp only [Act.put, List.getElem_toArray, List.getElem_cons_zero, List.getElem_cons_succ, List.setIfInBounds_toArray, List.set_cons_zero, List.set_cons_succ]
                refine wpAnyH_take (i := 50) (oi := ?o661) (v := ?v661) ?i661 (by kernel_rfl) (by kernel_rfl) (by kernel_rfl) ?q661 ?y661 (hHeld) ?r661
                case i661 => exact rfl
                case q661 => exact (fun _ _ _ h => h)
                case y661 =>
                  refine Or.inl ⟨by rfl, ?_⟩
                  intro w hSw
                  (try dsimp only at hSw)
                  go_simp
                  first | done | rfl
                try simp only [Act.put, List.getElem_toArray, List.getElem_cons_zero, List.getElem_cons_succ, List.setIfInBounds_toArray, List.set_cons_zero, List.set_cons_succ]
                refine wpAnyH_take (i := 51) (oi := ?o662) (v := ?v662) ?i662 (by kernel_rfl) (by kernel_rfl) (by kernel_rfl) ?q662 ?y662 (hHeld) ?r662
                case i662 => exact rfl
                case q662 => exact (fun _ _ _ h => h)
                case y662 =>
                  refine Or.inl ⟨by rfl, ?_⟩
                  intro w hSw
                  (try dsimp only at hSw)
                  go_simp
                  first | done | rfl
                try simp only [Act.put, List.getElem_toArray, List.getElem_cons_zero, List.getElem_cons_succ, List.setIfInBounds_toArray, List.set_cons_zero, List.set_cons_succ]
                refine wpAnyH_take (i := 52) (oi := ?o663) (v := ?v663) ?i663 (by kernel_rfl) (by kernel_rfl) (by kernel_rfl) ?q663 ?y663 (hHeld) ?r663
                case i663 => exact rfl
                case q663 => exact (fun _ _ _ h => h)
                case y663 =>
                  refine Or.inl ⟨by rfl, ?_⟩
                  intro w hSw
                  (try dsimp only at hSw)
                  go_simp
                  first | done | rfl
                try simp only [Act.put, List.getElem_toArray, List.getElem_cons_zero, List.getElem_cons_succ, List.setIfInBounds_toArray, List.set_cons_zero, List.set_cons_succ]
                refine wpAnyH_take (i := 53) (oi := ?o664) (v := ?v664) ?i664 (by kernel_rfl) (by kernel_rfl) (by kernel_rfl) ?q664 ?y664 (hHeld) ?r664
                case i664 => exact rfl
                case q664 => exact (fun _ _ _ h => h)
                case y664 =>
                  refine Or.inl ⟨by rfl, ?_⟩
                  intro w hSw
                  (try dsimp only at hSw)
                  go_simp
                  first | done | rfl
                try simp only [Act.put, List.getElem_toArray, List.getElem_cons_zero, List.getElem_cons_succ, List.setIfInBounds_toArray, List.set_cons_zero, List.set_cons_succ]
                refine wpAnyH_take (i := 54) (oi := ?o665) (v := ?v665) ?i665 (by kernel_rfl) (by kernel_rfl) (by kernel_rfl) ?q665 ?y665 (hHeld) ?r665
                case i665 => exact rfl
                case q665 => exact (fun _ _ _ h => h)
                case y665 =>
                  refine Or.inl ⟨by rfl, ?_⟩
                  intro w hSw
                  (try dsimp only at hSw)
                  go_simp
                  first | done | rfl
                try simp only [Act.put, List.getElem_toArray, List.getElem_cons_zero, List.getElem_cons_succ, List.setIfInBounds_toArray, List.set_cons_zero, List.set_cons_succ]
                refine wpAnyH_done (by kernel_rfl) ?_ _
                go_wp2_with fail
                go_ret
                exact ⟨rfl, VT.out⟩
          · rcases hyes hmb with ⟨hb1, rfl⟩ | ⟨rfl, rfl⟩
            · clear hno hyes hmb HMB0
              cases yt
              · obtain ⟨m0, _⟩ := one_facts V.out.mb
                obtain ⟨x0, x1, x2, x3, x4, x5, x6, _⟩ := row_facts V.out.xb
                obtain ⟨y0, y1, y2, y3, y4, y5, y6, _⟩ := row_facts V.out.yb
                obtain ⟨z0, _⟩ := one_facts V.out.zb
                go_upto_region 17 with fail
                clear m0 x0 x1 x2 x3 x4 x5 x6 y0 y1 y2 y3 y4 y5 y6 z0
                obtain ⟨m0, _⟩ := one_facts V.out.mb
                obtain ⟨x0, x1, x2, x3, x4, x5, x6, _⟩ := row_facts V.out.xb
                obtain ⟨y0, y1, y2, y3, y4, y5, y6, _⟩ := row_facts V.out.yb
                obtain ⟨z0, _⟩ := one_facts V.out.zb
                obtain ⟨c0, c1, c2, c3, c4, c5, c6⟩ := HW.out.word HJ.out
                obtain ⟨u0, u1, u2, u3, u4, u5, u6, _⟩ := row_facts HU.out
                go_wp2_with fail
                go_quiet (fail)
                go_wp2_with fail
                go_ret
                exact ⟨rfl, below_drewN V.out.bl _⟩
              · generalize hyp : (bits .and .i64 yp 16 == 0) = bl at *
                cases bl
                · obtain ⟨m0, _⟩ := one_facts V.out.mb
                  obtain ⟨x0, x1, x2, x3, x4, x5, x6, _⟩ := row_facts V.out.xb
                  obtain ⟨y0, y1, y2, y3, y4, y5, y6, _⟩ := row_facts V.out.yb
                  obtain ⟨z0, _⟩ := one_facts V.out.zb
                  go_upto_region 17 with fail
                  clear m0 x0 x1 x2 x3 x4 x5 x6 y0 y1 y2 y3 y4 y5 y6 z0
                  obtain ⟨m0, _⟩ := one_facts V.out.mb
                  obtain ⟨x0, x1, x2, x3, x4, x5, x6, _⟩ := row_facts V.out.xb
                  obtain ⟨y0, y1, y2, y3, y4, y5, y6, _⟩ := row_facts V.out.yb
                  obtain ⟨z0, _⟩ := one_facts V.out.zb
                  obtain ⟨c0, c1, c2, c3, c4, c5, c6⟩ := HW.out.word HJ.out
                  obtain ⟨u0, u1, u2, u3, u4, u5, u6, _⟩ := row_facts HU.out
                  go_wp2_with fail
                  go_quiet (fail)
                  go_wp2_with fail
                  go_ret
                  exact ⟨rfl, below_drewN V.out.bl _⟩
                · obtain ⟨m0, _⟩ := one_facts V.out.mb
                  obtain ⟨x0, x1, x2, x3, x4, x5, x6, _⟩ := row_facts V.out.xb
                  obtain ⟨y0, y1, y2, y3, y4, y5, y6, _⟩ := row_facts V.out.yb
                  obtain ⟨z0, _⟩ := one_facts V.out.zb
                  go_upto_region 17 with fail
                  clear m0 x0 x1 x2 x3 x4 x5 x6 y0 y1 y2 y3 y4 y5 y6 z0
                  obtain ⟨m0, _⟩ := one_facts V.out.mb
                  obtain ⟨x0, x1, x2, x3, x4, x5, x6, _⟩ := row_facts V.out.xb
                  obtain ⟨y0, y1, y2, y3, y4, y5, y6, _⟩ := row_facts V.out.yb
                  obtain ⟨z0, _⟩ := one_facts V.out.zb
                  obtain ⟨c0, c1, c2, c3, c4, c5, c6⟩ := HW.out.word HJ.out
                  obtain ⟨u0, u1, u2, u3, u4, u5, u6, _⟩ := row_facts HU.out
                  have hx8 : decide (0 < bits .and .i64 xp 8) = true := by simpa using HLOC.out rfl
                  go_wp2_with fail
                  go_quiet (fail)
                  go_wp2_with fail
                  go_ret
                  exact ⟨rfl, below_drewN V.out.bl _⟩
            · clear hno hyes hmb HMB0
              cases yt
              · obtain ⟨m0, _⟩ := one_facts V.out.mb
                obtain ⟨x0, x1, x2, x3, x4, x5, x6, _⟩ := row_facts V.out.xb
                obtain ⟨y0, y1, y2, y3, y4, y5, y6, _⟩ := row_facts V.out.yb
                obtain ⟨z0, _⟩ := one_facts V.out.zb
                go_upto_region 17 with fail
                clear m0 x0 x1 x2 x3 x4 x5 x6 y0 y1 y2 y3 y4 y5 y6 z0
                obtain ⟨m0, _⟩ := one_facts V.out.mb
                obtain ⟨x0, x1, x2, x3, x4, x5, x6, _⟩ := row_facts V.out.xb
                obtain ⟨y0, y1, y2, y3, y4, y5, y6, _⟩ := row_facts V.out.yb
                obtain ⟨z0, _⟩ := one_facts V.out.zb
                obtain ⟨c0, c1, c2, c3, c4, c5, c6⟩ := HW.out.word HJ.out
                obtain ⟨u0, u1, u2, u3, u4, u5, u6, _⟩ := row_facts HU.out
                go_wp2_with fail
                go_quiet (fail)
                go_wp2_with fail
                go_ret
                exact ⟨rfl, below_drewN V.out.bl _⟩
              · generalize hyp : (bits .and .i64 yp 16 == 0) = bl at *
                cases bl
                · obtain ⟨m0, _⟩ := one_facts V.out.mb
                  obtain ⟨x0, x1, x2, x3, x4, x5, x6, _⟩ := row_facts V.out.xb
                  obtain ⟨y0, y1, y2, y3, y4, y5, y6, _⟩ := row_facts V.out.yb
                  obtain ⟨z0, _⟩ := one_facts V.out.zb
                  go_upto_region 17 with fail
                  clear m0 x0 x1 x2 x3 x4 x5 x6 y0 y1 y2 y3 y4 y5 y6 z0
                  obtain ⟨m0, _⟩ := one_facts V.out.mb
                  obtain ⟨x0, x1, x2, x3, x4, x5, x6, _⟩ := row_facts V.out.xb
                  obtain ⟨y0, y1, y2, y3, y4, y5, y6, _⟩ := row_facts V.out.yb
                  obtain ⟨z0, _⟩ := one_facts V.out.zb
                  obtain ⟨c0, c1, c2, c3, c4, c5, c6⟩ := HW.out.word HJ.out
                  obtain ⟨u0, u1, u2, u3, u4, u5, u6, _⟩ := row_facts HU.out
                  go_wp2_with fail
                  go_quiet (fail)
                  go_wp2_with fail
                  go_ret
                  exact ⟨rfl, below_drewN V.out.bl _⟩
                · obtain ⟨m0, _⟩ := one_facts V.out.mb
                  obtain ⟨x0, x1, x2, x3, x4, x5, x6, _⟩ := row_facts V.out.xb
                  obtain ⟨y0, y1, y2, y3, y4, y5, y6, _⟩ := row_facts V.out.yb
                  obtain ⟨z0, _⟩ := one_facts V.out.zb
                  go_upto_region 17 with fail
                  clear m0 x0 x1 x2 x3 x4 x5 x6 y0 y1 y2 y3 y4 y5 y6 z0
                  obtain ⟨m0, _⟩ := one_facts V.out.mb
                  obtain ⟨x0, x1, x2, x3, x4, x5, x6, _⟩ := row_facts V.out.xb
                  obtain ⟨y0, y1, y2, y3, y4, y5, y6, _⟩ := row_facts V.out.yb
                  obtain ⟨z0, _⟩ := one_facts V.out.zb
                  obtain ⟨c0, c1, c2, c3, c4, c5, c6⟩ := HW.out.word HJ.out
                  obtain ⟨u0, u1, u2, u3, u4, u5, u6, _⟩ := row_facts HU.out
                  have hx8 : decide (0 < bits .and .i64 xp 8) = true := by simpa using HLOC.out rfl
                  go_wp2_with fail
                  go_quiet (fail)
                  go_wp2_with fail
                  go_ret
                  exact ⟨rfl, below_drewN V.out.bl _⟩
        · have hte : (tr == 0) = false := by simpa using ht0
          have hqz : q = 0 := hq0.out ht0
          subst hqz
          clear ht0
          obtain ⟨m0, _⟩ := one_facts V.out.mb
          obtain ⟨x0, x1, x2, x3, x4, x5, x6, _⟩ := row_facts V.out.xb
          obtain ⟨y0, y1, y2, y3, y4, y5, y6, _⟩ := row_facts V.out.yb
          obtain ⟨z0, _⟩ := one_facts V.out.zb
          go_wp2_with fail
          go_ret
          exact ⟨rfl, V.out.bl⟩
end Go.Proofs.YtkiaglpgfgoaiaaDoor

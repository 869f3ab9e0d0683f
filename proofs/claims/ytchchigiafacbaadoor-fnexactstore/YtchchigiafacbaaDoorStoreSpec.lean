/- A store, by the specification. -/
import Derived.Test.YtchchigiafacbaaDoorMemCopy
import Derived.Test.YtchchigiafacbaaDoorMemSpec3
import Derived.Deep.Cut
namespace Go.Proofs.YtchchigiafacbaaDoor
open Go.RowKit
set_option linter.unusedVariables false
set_option linter.unusedSimpArgs false

/-- May a word with these not be stored through a way with the permissions xp? -/
def barB (xp : Int) (yt : Bool) (yp : Int) : Bool := yt && ((bits .and .i64 xp 4 == 0) || ((bits .and .i64 yp 16 == 0) && (bits .and .i64 xp 8 == 0)))
def storeT (n : Nat) (xt : Bool) (xn xl xh xa xp xs : Int) (by_ : Int) (yt : Bool) (yp : Int) : Int := bif trapV n xt xn xl xh xa xp xs by_ 2 == 0 then (bif barB xp yt yp then 3 else 0) else trapV n xt xn xl xh xa xp xs by_ 2
def storeL (l : List Wd) (xt : Bool) (xn xl xh xa xp xs : Int) (by_ : Int) (y : Wd) : List Wd := bif storeT l.length xt xn xl xh xa xp xs by_ y.t y.p == 0 then l.set (xa + by_).toNat y else l

set_option maxRecDepth 100000 in
set_option maxHeartbeats 4000000 in
theorem l3storeM (g n c : Nat) (l : List Wd) (xt : Bool) (xn xl xh xa xp xs : Int) (by_ : Int) (yt : Bool) (yn yl yh ya yp ys : Int) (w : World) (h : WX w g l) (hl : l.length = n) (hx : (xt && (xs == 0)) = true → (-4000 ≤ xa ∧ xa ≤ 8000) ∧ 0 ≤ xl) (hn : n ≤ 4000) :
    Calls Tryd.prog 50 #[.slice (some ⟨g, 0, none⟩) n c, .agg #[.bool xt, .int .i64 xn, .int .i64 xl, .int .i64 xh, .int .i64 xa, .int .i64 xp, .int .i64 xs], .int .i64 by_, .agg #[.bool yt, .int .i64 yn, .int .i64 yl, .int .i64 yh, .int .i64 ya, .int .i64 yp, .int .i64 ys]] w fun e w' => e = .returned (.int .i64 (storeT n xt xn xl xh xa xp xs by_ yt yp)) ∧ WX w' g (storeL l xt xn xl xh xa xp xs by_ ⟨yt, yn, yl, yh, ya, yp, ys⟩) ∧ But w w' g := by
  have Hl : Hid (l.length = n) := hl
  have Hh : Hid (WX w g l) := h
  have hgl : g < w.heap.size := WX.lt h
  have H := fun w => placeM (some ⟨g, 0, none⟩) n c xt xn xl xh xa xp xs by_ 2 w (fun hd => (hx hd).1) (by omega)
  by_cases ht : trapV n xt xn xl xh xa xp xs by_ 2 = 0
  · obtain ⟨hd, h1, h2, h3⟩ := hit_of xt xn xl xh xa xp xs ht
    obtain ⟨⟨ha0, ha1⟩, hl0⟩ := hx hd
    have e2 : placeV n xt xn xl xh xa xp xs by_ 2 = xa + by_ := by rw [placeV, ht]; rfl
    obtain ⟨k, hk⟩ := Int.eq_ofNat_of_zero_le (show 0 ≤ xa + by_ by omega)
    have hkn : k < n := by omega
    have eT : storeT n xt xn xl xh xa xp xs by_ yt yp = bif barB xp yt yp then 3 else 0 := by rw [storeT, ht]; rfl
    have eL : storeL l xt xn xl xh xa xp xs by_ ⟨yt, yn, yl, yh, ya, yp, ys⟩ = bif barB xp yt yp then l else l.set k ⟨yt, yn, yl, yh, ya, yp, ys⟩ := by
      rw [storeL]
      simp only [hl, eT, hk, Int.toNat_natCast]
      cases barB xp yt yp <;> rfl
    rw [eT, eL]
    simp only [ht, e2, hk] at H
    clear eT eL ht e2 hd h1 h2 h3 ha0 ha1 hl0 hx h hl
    cases hyt : yt
    · rw [show barB xp false yp = false from rfl, cond_false, cond_false]
      go_enter Tryd.func50, Tryd.ntmps50
      go_wp2_with fail
      refine (H _).mono ?_
      rintro e w1 ⟨rfl, o1, o2, rfl⟩
      obtain ⟨w1, e1⟩ : ∃ x, x = ((((w.alloc (.cells #[.bool xt, .int .i64 xn, .int .i64 xl, .int .i64 xh, .int .i64 xa, .int .i64 xp, .int .i64 xs] 26)).alloc (.cells #[.bool false, .int .i64 yn, .int .i64 yl, .int .i64 yh, .int .i64 ya, .int .i64 yp, .int .i64 ys] 26)).alloc o1).alloc o2) := ⟨_, rfl⟩
      obtain ⟨hx1, hy1, hb1, hs1⟩ := two_kept rfl (show Below _ _ w1 by rw [e1]; exact (by repeat (first | exact Below.refl _ _ | assumption | (refine below_drewN ?_ _) | apply Below.drew | (refine Below.alloc ?_ ?_ _) | (refine Below.setCell ?_ ?_ _) | omega | (simp; omega) | simp)))
      rw [← e1]
      clear e1 H
      obtain ⟨x0, x1, x2, x3, x4, x5, x6, _⟩ := row_facts hx1
      obtain ⟨y0, y1, y2, y3, y4, y5, y6, _⟩ := row_facts hy1
      have hbut : But w w1 g := ⟨hb1.mono (by omega), fun k hk _ => hb1.block k hk⟩
      have hW1 : WX w1 g l := WX.of Hh.out (hb1.block g hgl)
      have Hbut : Hid (But w w1 g) := hbut
      have HW1 : Hid (WX w1 g l) := hW1
      clear hx1 hy1 hb1 hbut hW1
      obtain ⟨v, hv⟩ : ∃ v, l[k]? = some v := ⟨_, List.getElem?_eq_getElem (by rw [Hl.out]; exact hkn)⟩
      obtain ⟨c0, c1, c2, c3, c4, c5, c6⟩ := WX.word HW1.out hv
      have f0 := WX.frozen HW1.out (k * 7)
      have f1 := WX.frozen HW1.out (k * 7 + 1)
      have f2 := WX.frozen HW1.out (k * 7 + 2)
      have f3 := WX.frozen HW1.out (k * 7 + 3)
      have f4 := WX.frozen HW1.out (k * 7 + 4)
      have f5 := WX.frozen HW1.out (k * 7 + 5)
      have f6 := WX.frozen HW1.out (k * 7 + 6)
      clear hv
      go_wp2_with fail
      go_ret
      have hs := WX.set (k := k) HW1.out ⟨false, yn, yl, yh, ya, yp, ys⟩ (by rw [Hl.out]; exact hkn)
      have hb := ((((((Hbut.out.set (k * 7) (.bool false)).set (k * 7 + 1) (.int .i64 yn)).set (k * 7 + 2) (.int .i64 yl)).set (k * 7 + 3) (.int .i64 yh)).set (k * 7 + 4) (.int .i64 ya)).set (k * 7 + 5) (.int .i64 yp)).set (k * 7 + 6) (.int .i64 ys)
      exact ⟨rfl, hs, hb⟩
    · cases hb4 : (bits .and .i64 xp 4 == 0)
      · cases hb16 : (bits .and .i64 yp 16 == 0)
        · rw [show barB xp true yp = false by rw [barB, hb4, hb16]; rfl, cond_false, cond_false]
          go_enter Tryd.func50, Tryd.ntmps50
          go_wp2_with fail
          refine (H _).mono ?_
          rintro e w1 ⟨rfl, o1, o2, rfl⟩
          obtain ⟨w1, e1⟩ : ∃ x, x = ((((w.alloc (.cells #[.bool xt, .int .i64 xn, .int .i64 xl, .int .i64 xh, .int .i64 xa, .int .i64 xp, .int .i64 xs] 26)).alloc (.cells #[.bool true, .int .i64 yn, .int .i64 yl, .int .i64 yh, .int .i64 ya, .int .i64 yp, .int .i64 ys] 26)).alloc o1).alloc o2) := ⟨_, rfl⟩
          obtain ⟨hx1, hy1, hb1, hs1⟩ := two_kept rfl (show Below _ _ w1 by rw [e1]; exact (by repeat (first | exact Below.refl _ _ | assumption | (refine below_drewN ?_ _) | apply Below.drew | (refine Below.alloc ?_ ?_ _) | (refine Below.setCell ?_ ?_ _) | omega | (simp; omega) | simp)))
          rw [← e1]
          clear e1 H
          obtain ⟨x0, x1, x2, x3, x4, x5, x6, _⟩ := row_facts hx1
          obtain ⟨y0, y1, y2, y3, y4, y5, y6, _⟩ := row_facts hy1
          have hbut : But w w1 g := ⟨hb1.mono (by omega), fun k hk _ => hb1.block k hk⟩
          have hW1 : WX w1 g l := WX.of Hh.out (hb1.block g hgl)
          have Hbut : Hid (But w w1 g) := hbut
          have HW1 : Hid (WX w1 g l) := hW1
          clear hx1 hy1 hb1 hbut hW1
          obtain ⟨v, hv⟩ : ∃ v, l[k]? = some v := ⟨_, List.getElem?_eq_getElem (by rw [Hl.out]; exact hkn)⟩
          obtain ⟨c0, c1, c2, c3, c4, c5, c6⟩ := WX.word HW1.out hv
          have f0 := WX.frozen HW1.out (k * 7)
          have f1 := WX.frozen HW1.out (k * 7 + 1)
          have f2 := WX.frozen HW1.out (k * 7 + 2)
          have f3 := WX.frozen HW1.out (k * 7 + 3)
          have f4 := WX.frozen HW1.out (k * 7 + 4)
          have f5 := WX.frozen HW1.out (k * 7 + 5)
          have f6 := WX.frozen HW1.out (k * 7 + 6)
          clear hv
          go_wp2_with fail
          go_ret
          have hs := WX.set (k := k) HW1.out ⟨true, yn, yl, yh, ya, yp, ys⟩ (by rw [Hl.out]; exact hkn)
          have hb := ((((((Hbut.out.set (k * 7) (.bool true)).set (k * 7 + 1) (.int .i64 yn)).set (k * 7 + 2) (.int .i64 yl)).set (k * 7 + 3) (.int .i64 yh)).set (k * 7 + 4) (.int .i64 ya)).set (k * 7 + 5) (.int .i64 yp)).set (k * 7 + 6) (.int .i64 ys)
          exact ⟨rfl, hs, hb⟩
        · cases hb8 : (bits .and .i64 xp 8 == 0)
          · rw [show barB xp true yp = false by rw [barB, hb4, hb16, hb8]; rfl, cond_false, cond_false]
            go_enter Tryd.func50, Tryd.ntmps50
            go_wp2_with fail
            refine (H _).mono ?_
            rintro e w1 ⟨rfl, o1, o2, rfl⟩
            obtain ⟨w1, e1⟩ : ∃ x, x = ((((w.alloc (.cells #[.bool xt, .int .i64 xn, .int .i64 xl, .int .i64 xh, .int .i64 xa, .int .i64 xp, .int .i64 xs] 26)).alloc (.cells #[.bool true, .int .i64 yn, .int .i64 yl, .int .i64 yh, .int .i64 ya, .int .i64 yp, .int .i64 ys] 26)).alloc o1).alloc o2) := ⟨_, rfl⟩
            obtain ⟨hx1, hy1, hb1, hs1⟩ := two_kept rfl (show Below _ _ w1 by rw [e1]; exact (by repeat (first | exact Below.refl _ _ | assumption | (refine below_drewN ?_ _) | apply Below.drew | (refine Below.alloc ?_ ?_ _) | (refine Below.setCell ?_ ?_ _) | omega | (simp; omega) | simp)))
            rw [← e1]
            clear e1 H
            obtain ⟨x0, x1, x2, x3, x4, x5, x6, _⟩ := row_facts hx1
            obtain ⟨y0, y1, y2, y3, y4, y5, y6, _⟩ := row_facts hy1
            have hbut : But w w1 g := ⟨hb1.mono (by omega), fun k hk _ => hb1.block k hk⟩
            have hW1 : WX w1 g l := WX.of Hh.out (hb1.block g hgl)
            have Hbut : Hid (But w w1 g) := hbut
            have HW1 : Hid (WX w1 g l) := hW1
            clear hx1 hy1 hb1 hbut hW1
            obtain ⟨v, hv⟩ : ∃ v, l[k]? = some v := ⟨_, List.getElem?_eq_getElem (by rw [Hl.out]; exact hkn)⟩
            obtain ⟨c0, c1, c2, c3, c4, c5, c6⟩ := WX.word HW1.out hv
            have f0 := WX.frozen HW1.out (k * 7)
            have f1 := WX.frozen HW1.out (k * 7 + 1)
            have f2 := WX.frozen HW1.out (k * 7 + 2)
            have f3 := WX.frozen HW1.out (k * 7 + 3)
            have f4 := WX.frozen HW1.out (k * 7 + 4)
            have f5 := WX.frozen HW1.out (k * 7 + 5)
            have f6 := WX.frozen HW1.out (k * 7 + 6)
            clear hv
            go_wp2_with fail
            go_ret
            have hs := WX.set (k := k) HW1.out ⟨true, yn, yl, yh, ya, yp, ys⟩ (by rw [Hl.out]; exact hkn)
            have hb := ((((((Hbut.out.set (k * 7) (.bool true)).set (k * 7 + 1) (.int .i64 yn)).set (k * 7 + 2) (.int .i64 yl)).set (k * 7 + 3) (.int .i64 yh)).set (k * 7 + 4) (.int .i64 ya)).set (k * 7 + 5) (.int .i64 yp)).set (k * 7 + 6) (.int .i64 ys)
            exact ⟨rfl, hs, hb⟩
          · rw [show barB xp true yp = true by rw [barB, hb4, hb16, hb8]; rfl, cond_true, cond_true]
            go_enter Tryd.func50, Tryd.ntmps50
            go_wp2_with fail
            refine (H _).mono ?_
            rintro e w1 ⟨rfl, o1, o2, rfl⟩
            obtain ⟨w1, e1⟩ : ∃ x, x = ((((w.alloc (.cells #[.bool xt, .int .i64 xn, .int .i64 xl, .int .i64 xh, .int .i64 xa, .int .i64 xp, .int .i64 xs] 26)).alloc (.cells #[.bool true, .int .i64 yn, .int .i64 yl, .int .i64 yh, .int .i64 ya, .int .i64 yp, .int .i64 ys] 26)).alloc o1).alloc o2) := ⟨_, rfl⟩
            obtain ⟨hx1, hy1, hb1, hs1⟩ := two_kept rfl (show Below _ _ w1 by rw [e1]; exact (by repeat (first | exact Below.refl _ _ | assumption | (refine below_drewN ?_ _) | apply Below.drew | (refine Below.alloc ?_ ?_ _) | (refine Below.setCell ?_ ?_ _) | omega | (simp; omega) | simp)))
            rw [← e1]
            clear e1 H
            obtain ⟨x0, x1, x2, x3, x4, x5, x6, _⟩ := row_facts hx1
            obtain ⟨y0, y1, y2, y3, y4, y5, y6, _⟩ := row_facts hy1
            have hbut : But w w1 g := ⟨hb1.mono (by omega), fun k hk _ => hb1.block k hk⟩
            have hW1 : WX w1 g l := WX.of Hh.out (hb1.block g hgl)
            have Hbut : Hid (But w w1 g) := hbut
            have HW1 : Hid (WX w1 g l) := hW1
            clear hx1 hy1 hb1 hbut hW1
            go_wp2_with fail
            go_ret
            exact ⟨rfl, HW1.out, Hbut.out⟩
      · rw [show barB xp true yp = true by rw [barB, hb4]; rfl, cond_true, cond_true]
        go_enter Tryd.func50, Tryd.ntmps50
        go_wp2_with fail
        refine (H _).mono ?_
        rintro e w1 ⟨rfl, o1, o2, rfl⟩
        obtain ⟨w1, e1⟩ : ∃ x, x = ((((w.alloc (.cells #[.bool xt, .int .i64 xn, .int .i64 xl, .int .i64 xh, .int .i64 xa, .int .i64 xp, .int .i64 xs] 26)).alloc (.cells #[.bool true, .int .i64 yn, .int .i64 yl, .int .i64 yh, .int .i64 ya, .int .i64 yp, .int .i64 ys] 26)).alloc o1).alloc o2) := ⟨_, rfl⟩
        obtain ⟨hx1, hy1, hb1, hs1⟩ := two_kept rfl (show Below _ _ w1 by rw [e1]; exact (by repeat (first | exact Below.refl _ _ | assumption | (refine below_drewN ?_ _) | apply Below.drew | (refine Below.alloc ?_ ?_ _) | (refine Below.setCell ?_ ?_ _) | omega | (simp; omega) | simp)))
        rw [← e1]
        clear e1 H
        obtain ⟨x0, x1, x2, x3, x4, x5, x6, _⟩ := row_facts hx1
        obtain ⟨y0, y1, y2, y3, y4, y5, y6, _⟩ := row_facts hy1
        have hbut : But w w1 g := ⟨hb1.mono (by omega), fun k hk _ => hb1.block k hk⟩
        have hW1 : WX w1 g l := WX.of Hh.out (hb1.block g hgl)
        have Hbut : Hid (But w w1 g) := hbut
        have HW1 : Hid (WX w1 g l) := hW1
        clear hx1 hy1 hb1 hbut hW1
        go_wp2_with fail
        go_ret
        exact ⟨rfl, HW1.out, Hbut.out⟩
  · have htb : (trapV n xt xn xl xh xa xp xs by_ 2 == 0) = false := by simpa using ht
    have eT : storeT n xt xn xl xh xa xp xs by_ yt yp = trapV n xt xn xl xh xa xp xs by_ 2 := by rw [storeT, htb]; rfl
    have eL : storeL l xt xn xl xh xa xp xs by_ ⟨yt, yn, yl, yh, ya, yp, ys⟩ = l := by
      rw [storeL]
      simp only [hl, eT, htb]
      rfl
    rw [eT, eL]
    have htb' : (trapV n xt xn xl xh xa xp xs by_ 2 != 0) = true := by simpa using ht
    clear eT eL htb hx h hl
    generalize placeV n xt xn xl xh xa xp xs by_ 2 = pl at *
    generalize trapV n xt xn xl xh xa xp xs by_ 2 = tr at *
    go_enter Tryd.func50, Tryd.ntmps50
    go_wp2_with fail
    refine (H _).mono ?_
    rintro e w1 ⟨rfl, o1, o2, rfl⟩
    obtain ⟨w1, e1⟩ : ∃ x, x = ((((w.alloc (.cells #[.bool xt, .int .i64 xn, .int .i64 xl, .int .i64 xh, .int .i64 xa, .int .i64 xp, .int .i64 xs] 26)).alloc (.cells #[.bool yt, .int .i64 yn, .int .i64 yl, .int .i64 yh, .int .i64 ya, .int .i64 yp, .int .i64 ys] 26)).alloc o1).alloc o2) := ⟨_, rfl⟩
    obtain ⟨hx1, hy1, hb1, hs1⟩ := two_kept rfl (show Below _ _ w1 by rw [e1]; exact (by repeat (first | exact Below.refl _ _ | assumption | (refine below_drewN ?_ _) | apply Below.drew | (refine Below.alloc ?_ ?_ _) | (refine Below.setCell ?_ ?_ _) | omega | (simp; omega) | simp)))
    rw [← e1]
    clear e1 H
    obtain ⟨x0, x1, x2, x3, x4, x5, x6, _⟩ := row_facts hx1
    obtain ⟨y0, y1, y2, y3, y4, y5, y6, _⟩ := row_facts hy1
    have hbut : But w w1 g := ⟨hb1.mono (by omega), fun k hk _ => hb1.block k hk⟩
    have hW1 : WX w1 g l := WX.of Hh.out (hb1.block g hgl)
    have Hbut : Hid (But w w1 g) := hbut
    have HW1 : Hid (WX w1 g l) := hW1
    clear hx1 hy1 hb1 hbut hW1
    go_wp2_with fail
    go_ret
    exact ⟨rfl, HW1.out, Hbut.out⟩
end Go.Proofs.YtchchigiafacbaaDoor

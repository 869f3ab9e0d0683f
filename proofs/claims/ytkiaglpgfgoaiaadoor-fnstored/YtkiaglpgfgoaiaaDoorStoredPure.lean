/- What a store leaves and a load finds behind it: facts of numbers alone. -/
import Derived.Test.YtkiaglpgfgoaiaaDoorStore2
import Derived.Test.YtkiaglpgfgoaiaaDoorDrawSt
namespace Go.Proofs.YtkiaglpgfgoaiaaDoor
open Go.RowKit
set_option linter.unusedVariables false
set_option linter.unusedSimpArgs false
set_option maxRecDepth 100000

theorem bit1 (p : Int) (h0 : 0 ≤ p) (h1 : p ≤ 31) : bits .and .i64 p 1 = 0 ∨ bits .and .i64 p 1 = 1 := by
  have : p = 0 ∨ p = 1 ∨ p = 2 ∨ p = 3 ∨ p = 4 ∨ p = 5 ∨ p = 6 ∨ p = 7 ∨ p = 8 ∨ p = 9 ∨ p = 10 ∨ p = 11 ∨ p = 12 ∨ p = 13 ∨ p = 14 ∨ p = 15 ∨ p = 16 ∨ p = 17 ∨ p = 18 ∨ p = 19 ∨ p = 20 ∨ p = 21 ∨ p = 22 ∨ p = 23 ∨ p = 24 ∨ p = 25 ∨ p = 26 ∨ p = 27 ∨ p = 28 ∨ p = 29 ∨ p = 30 ∨ p = 31 := by omega
  rcases this with rfl | rfl | rfl | rfl | rfl | rfl | rfl | rfl | rfl | rfl | rfl | rfl | rfl | rfl | rfl | rfl | rfl | rfl | rfl | rfl | rfl | rfl | rfl | rfl | rfl | rfl | rfl | rfl | rfl | rfl | rfl | rfl <;> decide
theorem bit8 (p : Int) (h0 : 0 ≤ p) (h1 : p ≤ 31) : bits .and .i64 p 8 = 0 ∨ 0 < bits .and .i64 p 8 := by
  have : p = 0 ∨ p = 1 ∨ p = 2 ∨ p = 3 ∨ p = 4 ∨ p = 5 ∨ p = 6 ∨ p = 7 ∨ p = 8 ∨ p = 9 ∨ p = 10 ∨ p = 11 ∨ p = 12 ∨ p = 13 ∨ p = 14 ∨ p = 15 ∨ p = 16 ∨ p = 17 ∨ p = 18 ∨ p = 19 ∨ p = 20 ∨ p = 21 ∨ p = 22 ∨ p = 23 ∨ p = 24 ∨ p = 25 ∨ p = 26 ∨ p = 27 ∨ p = 28 ∨ p = 29 ∨ p = 30 ∨ p = 31 := by omega
  rcases this with rfl | rfl | rfl | rfl | rfl | rfl | rfl | rfl | rfl | rfl | rfl | rfl | rfl | rfl | rfl | rfl | rfl | rfl | rfl | rfl | rfl | rfl | rfl | rfl | rfl | rfl | rfl | rfl | rfl | rfl | rfl | rfl <;> decide

/-- A store that was done: where, and what the way allows. -/
theorem store_done {n : Nat} (xt : Bool) (xn xl xh xa xp xs : Int) {by_ : Int} {yt : Bool} {yp : Int} (h : storeJ n xt xn xl xh xa xp xs by_ yt yp = 0) :
    wayB xt xn xl xh xa xp xs = true ∧ (xt && (xs == 0)) = true ∧ hitB n xl xh xa by_ = true ∧ barB xp yt yp = false ∧ 0 ≤ xa + by_ ∧ xl ≤ xa + by_ ∧ xa + by_ < xh ∧ xa + by_ < (n : Int) ∧ 0 ≤ xp ∧ xp ≤ 31 := by
  have ht : trapJ n xt xn xl xh xa xp xs by_ 2 = 0 := by
    rw [storeJ] at h
    cases hq : (trapJ n xt xn xl xh xa xp xs by_ 2 == 0)
    · rw [hq] at h
      simp only [cond_false] at h
      exact h
    · simpa using hq
  have hbar : barB xp yt yp = false := by
    rw [storeJ, ht] at h
    cases hb : barB xp yt yp
    · rfl
    · rw [hb] at h; simp at h
  have hway : wayB xt xn xl xh xa xp xs = true := by
    cases hw : wayB xt xn xl xh xa xp xs
    · rw [trapJ, hw] at ht; simp at ht
    · rfl
  have htv : trapV n xt xn xl xh xa xp xs by_ 2 = 0 := by rw [trapJ, hway] at ht; simpa using ht
  obtain ⟨hd, h1, h2, h3⟩ := hit_of xt xn xl xh xa xp xs htv
  have hhit : hitB n xl xh xa by_ = true := by
    cases hh : hitB n xl xh xa by_
    · rw [trapV, hd, hh] at htv
      cases hp : (bits .and .i64 xp 2 == 2) <;> rw [hp] at htv <;> simp at htv
    · rfl
  have hw' := hway
  simp only [wayB, Bool.and_eq_true, inR, decide_eq_true_eq] at hw'
  obtain ⟨_, ⟨hp0, hp1⟩, hl0, _⟩ := hw'
  exact ⟨hway, hd, hhit, hbar, by omega, h1, h2, h3, hp0, hp1⟩

/-- What is loaded behind a store that was done. -/
theorem load_behind {l : List Wd} {n : Nat} (xt : Bool) (xn xl xh xa xp xs : Int) {by_ : Int} (yt : Bool) (yn yl yh ya yp ys : Int) (hl : l.length = n) (hx : okB xt xn xl xh xa xp xs = true) (h : storeJ n xt xn xl xh xa xp xs by_ yt yp = 0) :
    (memB (l.set (xa + by_).toNat ⟨yt, yn, yl, yh, ya, yp, ys⟩) = false → fullT (l.set (xa + by_).toNat ⟨yt, yn, yl, yh, ya, yp, ys⟩) xt xn xl xh xa xp xs by_ = 1) ∧
    (memB (l.set (xa + by_).toNat ⟨yt, yn, yl, yh, ya, yp, ys⟩) = true → (bits .and .i64 xp 1 = 0 ∧ fullT (l.set (xa + by_).toNat ⟨yt, yn, yl, yh, ya, yp, ys⟩) xt xn xl xh xa xp xs by_ = 3) ∨ (fullT (l.set (xa + by_).toNat ⟨yt, yn, yl, yh, ya, yp, ys⟩) xt xn xl xh xa xp xs by_ = 0 ∧ fullV (l.set (xa + by_).toNat ⟨yt, yn, yl, yh, ya, yp, ys⟩) xt xn xl xh xa xp xs by_ = ⟨yt, yn, yl, yh, ya, yp, ys⟩)) := by
  obtain ⟨hway, hd, hhit, hbar, h0, h1, h2, h3, hp0, hp1⟩ := store_done xt xn xl xh xa xp xs h
  have hlen : (l.set (xa + by_).toNat (⟨yt, yn, yl, yh, ya, yp, ys⟩ : Wd)).length = n := by rw [List.length_set, hl]
  have hat : (l.set (xa + by_).toNat (⟨yt, yn, yl, yh, ya, yp, ys⟩ : Wd))[(xa + by_).toNat]?.getD zeroW = ⟨yt, yn, yl, yh, ya, yp, ys⟩ := by
    rw [List.getElem?_set_self (by omega)]; rfl
  have hsee : seeB xp ⟨yt, yn, yl, yh, ya, yp, ys⟩ = false := by
    rw [barB, Bool.and_eq_false_iff] at hbar
    rcases hbar with hb | hb
    · simp [seeB, hb]
    · rw [Bool.or_eq_false_iff] at hb
      simp only [seeB, hb.1, Bool.and_false]
  have hT : ∀ L : List Wd, L.length = n → trapV L.length xt xn xl xh xa xp xs by_ 1 = bif (bits .and .i64 xp 1 == 1) then 0 else 3 := by
    intro L hL
    rw [trapV, hd, hL, hhit]
    rfl
  generalize l.set (xa + by_).toNat (⟨yt, yn, yl, yh, ya, yp, ys⟩ : Wd) = L at *
  refine ⟨fun hm => by rw [fullT, hm]; rfl, fun hm => ?_⟩
  rcases bit1 xp hp0 hp1 with hb | hb
  · left
    refine ⟨hb, ?_⟩
    rw [fullT, hm, hx, loadT, hT L hlen, hb]
    rfl
  · right
    have hlt : loadT L xt xn xl xh xa xp xs by_ = 0 := by
      rw [loadT, hT L hlen, hb, hat, hsee]
      rfl
    rw [fullT, fullV, hm, hx, loadV, hlt, hat]
    exact ⟨rfl, rfl⟩

/-- A word that a store has turned is the one that the way leads to. -/
theorem store_diff {l : List Wd} {n : Nat} (xt : Bool) (xn xl xh xa xp xs : Int) {by_ : Int} {y : Wd} (hl : l.length = n) {i : Nat} {u v : Wd} (hu : (storeK l xt xn xl xh xa xp xs by_ y)[i]? = some u) (hv : l[i]? = some v) (hne : u ≠ v) : storeJ n xt xn xl xh xa xp xs by_ y.t y.p = 0 ∧ xa + by_ = (i : Int) := by
  rw [storeK, hl] at hu
  cases hq : (storeJ n xt xn xl xh xa xp xs by_ y.t y.p == 0)
  · rw [hq] at hu
    simp only [cond_false] at hu
    rw [hv] at hu
    exact absurd (Option.some.inj hu).symm hne
  · have h : storeJ n xt xn xl xh xa xp xs by_ y.t y.p = 0 := by simpa using hq
    obtain ⟨_, _, _, _, h0, _, _, h3, _⟩ := store_done xt xn xl xh xa xp xs h
    rw [hq] at hu
    simp only [cond_true] at hu
    refine ⟨h, ?_⟩
    by_cases hi : (xa + by_).toNat = i
    · omega
    · rw [List.getElem?_set_ne hi, hv] at hu
      exact absurd (Option.some.inj hu).symm hne

theorem storeK_len (l : List Wd) (xt : Bool) (xn xl xh xa xp xs : Int) (by_ : Int) (y : Wd) : (storeK l xt xn xl xh xa xp xs by_ y).length = l.length := by
  rw [storeK]
  cases (storeJ l.length xt xn xl xh xa xp xs by_ y.t y.p == 0) <;> simp

theorem word_neq (xt : Bool) (xn xl xh xa xp xs : Int) (yt : Bool) (yn yl yh ya yp ys : Int) (w : World) :
    (binOp .neq 27 (.agg #[.bool xt, .int .i64 xn, .int .i64 xl, .int .i64 xh, .int .i64 xa, .int .i64 xp, .int .i64 xs]) (.agg #[.bool yt, .int .i64 yn, .int .i64 yl, .int .i64 yh, .int .i64 ya, .int .i64 yp, .int .i64 ys])).run Tryd.prog w = .ok (.bool (!((xt == yt) && ((xn == yn) && ((xl == yl) && ((xh == yh) && ((xa == ya) && ((xp == yp) && (xs == ys))))))))) w := by
  have h := word_eq xt xn xl xh xa xp xs yt yn yl yh ya yp ys w
  rw [run_eql_struct] at h
  rw [run_neq_struct]
  cases hq : (Op.equalIn 10000 27 (.agg #[.bool xt, .int .i64 xn, .int .i64 xl, .int .i64 xh, .int .i64 xa, .int .i64 xp, .int .i64 xs]) (.agg #[.bool yt, .int .i64 yn, .int .i64 yl, .int .i64 yh, .int .i64 ya, .int .i64 yp, .int .i64 ys])).run Tryd.prog w with
  | ok a w' =>
    rw [hq] at h
    simp only [Result.andThen_ok, Result.ok.injEq, Value.bool.injEq] at h ⊢
    exact ⟨by rw [h.1], h.2⟩
  | _ => rw [hq] at h; simp [Result.andThen] at h

theorem wd_ne {u v : Wd} (h : (!((u.t == v.t) && ((u.n == v.n) && ((u.l == v.l) && ((u.h == v.h) && ((u.a == v.a) && ((u.p == v.p) && (u.s == v.s)))))))) = true) : u ≠ v := by
  rintro rfl
  simp at h

/-- Where the law stands: its variables' blocks. -/
structure VS (w : World) (W : World) (gs gx : Nat) (a : Option Addr) (n c : Nat) (z : Value) (l : List Wd) (v0 v1 v2 v3 v4 v5 v6 u0 u1 u2 u3 u4 u5 u6 : Value) : Prop where
  mb : W.heap[gs]? = some (.cells #[.slice a n c] 25 (0, 0))
  xb : W.heap[gs + 1]? = some (.cells #[v0, v1, v2, v3, v4, v5, v6] 27 (0, 0))
  yb : W.heap[gs + 2]? = some (.cells #[u0, u1, u2, u3, u4, u5, u6] 27 (0, 0))
  zb : W.heap[gx]? = some (.cells #[z] 25 (0, 0))
  mem : WRow W a n l
  bl : Below w.heap.size w W
theorem VS.below {w W W' : World} {gs gx n c : Nat} {a : Option Addr} {z : Value} {l : List Wd} {v0 v1 v2 v3 v4 v5 v6 u0 u1 u2 u3 u4 u5 u6 : Value} (h : VS w W gs gx a n c z l v0 v1 v2 v3 v4 v5 v6 u0 u1 u2 u3 u4 u5 u6) (hb : Below W.heap.size W W') : VS w W' gs gx a n c z l v0 v1 v2 v3 v4 v5 v6 u0 u1 u2 u3 u4 u5 u6 :=
  ⟨(hb.block _ (Array.getElem?_eq_some_iff.1 h.mb).1).trans h.mb, (hb.block _ (Array.getElem?_eq_some_iff.1 h.xb).1).trans h.xb, (hb.block _ (Array.getElem?_eq_some_iff.1 h.yb).1).trans h.yb, (hb.block _ (Array.getElem?_eq_some_iff.1 h.zb).1).trans h.zb, h.mem.below hb, h.bl.trans (hb.mono h.bl.size)⟩
end Go.Proofs.YtkiaglpgfgoaiaaDoor

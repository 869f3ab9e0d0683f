/- Instructions come back from their bytes, and bytes from their instruction: facts of numbers alone. -/
import Derived.Test.YtcidckmocmdijaaDoorEncLaw
namespace Go.Proofs.YtcidckmocmdijaaDoor
open Go.RowKit
set_option linter.unusedVariables false
set_option linter.unusedSimpArgs false
set_option maxRecDepth 100000

theorem wr_eq (n : Int) : wr n = (n + 2147483648) % 4294967296 - 2147483648 := by
  unfold wr wrap64 wrap32
  omega
theorem num4_four (n : Int) : num4 (n % 256) (n % 4294967296 / 256 % 256) (n % 4294967296 / 65536 % 256) (n % 4294967296 / 16777216) = wr n := by
  rw [num4, wr_eq, wr_eq]
  omega
theorem four_num4 (a b c d : Int) (h0 : 0 ≤ a ∧ a ≤ 255) (h1 : 0 ≤ b ∧ b ≤ 255) (h2 : 0 ≤ c ∧ c ≤ 255) (h3 : 0 ≤ d ∧ d ≤ 255) : four (num4 a b c d) = [a, b, c, d] := by
  have e : num4 a b c d % 4294967296 = a + 256 * b + 65536 * c + 16777216 * d := by rw [num4, wr_eq]; omega
  have e0 : num4 a b c d % 256 = a := by rw [num4, wr_eq]; omega
  rw [four, e, e0]
  congr 1
  · congr 1
    · omega
    · congr 1
      · omega
      · congr 1
        omega

theorem encL_at (l : List In6) (k i : Nat) (hi : i < 12) (x : In6) (hk : l[k]? = some x) : (encL l)[12 * k + i]? = (enc6 x)[i]? := by
  induction l generalizing k with
  | nil => simp at hk
  | cons y l ih =>
    cases k with
    | zero =>
      simp only [List.getElem?_cons_zero, Option.some.injEq] at hk
      subst hk
      rw [encL, List.flatMap_cons, Nat.mul_zero, Nat.zero_add, List.getElem?_append_left (by rw [enc6_len]; exact hi)]
    | succ k =>
      rw [List.getElem?_cons_succ] at hk
      rw [encL, List.flatMap_cons, List.getElem?_append_right (by rw [enc6_len]; omega), enc6_len, show 12 * (k + 1) + i - 12 = 12 * k + i by omega]
      exact ih k hk

/-- The instruction at place k of the bytes of l is the one of l. -/
theorem dec_enc {l : List In6} {n k : Nat} {x : In6} (hl : l.length = n) (hx : l[k]? = some x) (ho : okI x = true) :
    decOk (encL l) (12 * n) k = true ∧ sel (decOk (encL l) (12 * n) k) (bt (encL l) k 0) = x.o ∧ sel (decOk (encL l) (12 * n) k) (bt (encL l) k 1) = x.a ∧ sel (decOk (encL l) (12 * n) k) (bt (encL l) k 2) = x.b ∧ sel (decOk (encL l) (12 * n) k) (bt (encL l) k 3) = x.c ∧ decN (encL l) (12 * n) k = x.n ∧ decM (encL l) (12 * n) k = x.m := by
  have hk : k < n := by rw [← hl]; exact (List.getElem?_eq_some_iff.1 hx).1
  have hb : ∀ i, i < 12 → bt (encL l) k i = (enc6 x)[i]?.getD 0 := fun i hi => by rw [bt, Int.toNat_natCast, encL_at l k i hi x hx]
  have ho' := ho
  simp only [okI, insB, regB, inR, Bool.and_eq_true, decide_eq_true_eq, beq_iff_eq] at ho'
  obtain ⟨⟨o1, o2⟩, ⟨a1, a2⟩, ⟨b1, b2⟩, ⟨c1, c2⟩, hn, hm⟩ := ho'
  have e0 : bt (encL l) k 0 = x.o := by rw [hb 0 (by omega)]; show x.o % 256 = x.o; omega
  have e1 : bt (encL l) k 1 = x.a := by rw [hb 1 (by omega)]; show x.a % 256 = x.a; omega
  have e2 : bt (encL l) k 2 = x.b := by rw [hb 2 (by omega)]; show x.b % 256 = x.b; omega
  have e3 : bt (encL l) k 3 = x.c := by rw [hb 3 (by omega)]; show x.c % 256 = x.c; omega
  have eN : num4 (bt (encL l) k 4) (bt (encL l) k 5) (bt (encL l) k 6) (bt (encL l) k 7) = x.n := by
    rw [hb 4 (by omega), hb 5 (by omega), hb 6 (by omega), hb 7 (by omega)]
    exact (num4_four x.n).trans hn.symm
  have eM : num4 (bt (encL l) k 8) (bt (encL l) k 9) (bt (encL l) k 10) (bt (encL l) k 11) = x.m := by
    rw [hb 8 (by omega), hb 9 (by omega), hb 10 (by omega), hb 11 (by omega)]
    exact (num4_four x.m).trans hm.symm
  have hd : decOk (encL l) (12 * n) k = true := by
    rw [dec_yes ⟨by omega, by omega⟩, e0, e1, e2, e3, eN, eM]
    exact ho
  rw [decN, decM, hd, e0, e1, e2, e3, eN, eM]
  exact ⟨rfl, rfl, rfl, rfl, rfl, rfl, rfl⟩

/-- The bytes of what was found are the bytes that it was found in. -/
theorem enc_dec (x0 x1 x2 x3 x4 x5 x6 x7 x8 x9 x10 x11 : Int) (h : Bytes12 x0 x1 x2 x3 x4 x5 x6 x7 x8 x9 x10 x11) : enc6 ⟨x0, x1, x2, x3, num4 x4 x5 x6 x7, num4 x8 x9 x10 x11⟩ = [x0, x1, x2, x3, x4, x5, x6, x7, x8, x9, x10, x11] := by
  obtain ⟨h0, h1, h2, h3, h4, h5, h6, h7, h8, h9, h10, h11⟩ := h
  rw [enc6, four_num4 _ _ _ _ h4 h5 h6 h7, four_num4 _ _ _ _ h8 h9 h10 h11]
  have e : ∀ x : Int, 0 ≤ x ∧ x ≤ 255 → x % 256 = x := fun x h => by omega
  rw [e x0 h0, e x1 h1, e x2 h2, e x3 h3]
  rfl
end Go.Proofs.YtcidckmocmdijaaDoor

/- Words as values: the small functions of chapter 2, each with what it returns. -/
import Derived.Test.YtefciaeajlgheaaRows
import Derived.WalkKit
import Derived.ProofKit
import Derived.Deep.QuietTactic
import Derived.BigQuiet
import Derived.OpenShut
import Derived.Laws.StructEq
namespace Go.Proofs.Ytefciaeajlgheaa
open Go.RowKit
set_option linter.unusedVariables false
set_option linter.unusedSimpArgs false

theorem rb {a b : Bool} (h : a = b) : Ending.returned (.bool a) = .returned (.bool b) := by rw [h]
theorem ri {k : IntKind} {a b : Int} (h : a = b) : Ending.returned (.int k a) = .returned (.int k b) := by rw [h]

theorem below_drewN {B : Nat} {a w : World} (h : Below B a w) (d : Nat) : Below B a (w.drewN d) := ⟨h.os, h.tape, h.output, h.size, h.block⟩

def inR (n a b : Int) : Bool := decide (a ≤ n) && decide (n ≤ b)

theorem inRangeM (n a b : Int) (w : World) :
    Calls Try.prog 20 #[.int .i64 n, .int .i64 a, .int .i64 b] w fun e w' => e = .returned (.bool (inR n a b)) ∧ w' = w := by
  go_enter Try.func20, Try.ntmps20
  unfold inR
  by_cases h1 : a ≤ n
  · by_cases h2 : n ≤ b
    · go_wp2
      go_ret
      exact ⟨rb (by simp [h1, h2]), rfl⟩
    · go_wp2
      go_ret
      exact ⟨rb (by simp [h1, h2]), rfl⟩
  · go_wp2
    go_ret
    exact ⟨rb (by simp; omega), rfl⟩

def sel (b : Bool) (x : Int) : Int := bif b then x else 0
def entB (m a : Int) : Bool := inR m 0 7 && inR a 0 4000

set_option maxRecDepth 100000 in
theorem entryM (m a : Int) (w : World) :
    Calls Try.prog 56 #[.int .i64 m, .int .i64 a] w fun e w' =>
      e = .returned (.tuple #[.agg #[.bool (entB m a), .int .i64 0, .int .i64 0, .int .i64 0, .int .i64 (sel (entB m a) a), .int .i64 (sel (entB m a) 16), .int .i64 (sel (entB m a) (m + 1))], .bool (entB m a)]) ∧ Below w.heap.size w w' := by
  by_cases h1 : inR m 0 7 = true
  · by_cases h2 : inR a 0 4000 = true
    · have hm' : 0 ≤ m ∧ m ≤ 7 := by simpa [inR] using h1
      have hE : entB m a = true := by simp [entB, h1, h2]
      rw [hE]
      clear hE
      go_enter Try.func56, Try.ntmps56
      go_wp2_with fail
      refine (inRangeM m 0 7 _).mono ?_
      rintro e w1 ⟨rfl, rfl⟩
      rw [h1]
      go_wp2_with fail
      refine (inRangeM a 0 4000 _).mono ?_
      rintro e w1 ⟨rfl, rfl⟩
      rw [h2]
      clear h1 h2
      go_wp2
      refine bodyPost_ret (v := .tuple #[.agg #[.bool true, .int .i64 0, .int .i64 0, .int .i64 0, .int .i64 a, .int .i64 16, .int .i64 (m + 1)], .bool true]) (by simp [results, Try.results56, go_sem]) rfl ⟨rfl, (by repeat (first | exact Below.refl _ _ | assumption | (refine below_drewN ?_ _) | apply Below.drew | (refine Below.alloc ?_ ?_ _) | (refine Below.setCell ?_ ?_ _) | omega | (simp; omega) | simp))⟩
    · rw [Bool.not_eq_true] at h2
      have hE : entB m a = false := by simp [entB, h1, h2]
      rw [hE]
      clear hE
      go_enter Try.func56, Try.ntmps56
      go_wp2_with fail
      refine (inRangeM m 0 7 _).mono ?_
      rintro e w1 ⟨rfl, rfl⟩
      rw [h1]
      go_wp2_with fail
      refine (inRangeM a 0 4000 _).mono ?_
      rintro e w1 ⟨rfl, rfl⟩
      rw [h2]
      go_wp2
      refine bodyPost_ret (v := .tuple #[.agg #[.bool false, .int .i64 0, .int .i64 0, .int .i64 0, .int .i64 0, .int .i64 0, .int .i64 0], .bool false]) (by simp [results, Try.results56, go_sem]) rfl ⟨rfl, (by repeat (first | exact Below.refl _ _ | assumption | (refine below_drewN ?_ _) | apply Below.drew | (refine Below.alloc ?_ ?_ _) | (refine Below.setCell ?_ ?_ _) | omega | (simp; omega) | simp))⟩
  · rw [Bool.not_eq_true] at h1
    have hE : entB m a = false := by simp [entB, h1]
    rw [hE]
    clear hE
    go_enter Try.func56, Try.ntmps56
    go_wp2_with fail
    refine (inRangeM m 0 7 _).mono ?_
    rintro e w1 ⟨rfl, rfl⟩
    rw [h1]
    go_wp2
    refine bodyPost_ret (v := .tuple #[.agg #[.bool false, .int .i64 0, .int .i64 0, .int .i64 0, .int .i64 0, .int .i64 0, .int .i64 0], .bool false]) (by simp [results, Try.results56, go_sem]) rfl ⟨rfl, (by repeat (first | exact Below.refl _ _ | assumption | (refine below_drewN ?_ _) | apply Below.drew | (refine Below.alloc ?_ ?_ _) | (refine Below.setCell ?_ ?_ _) | omega | (simp; omega) | simp))⟩

set_option maxRecDepth 100000 in
theorem specEntryM (m a : Int) (w : World) :
    Calls Try.prog 17 #[.int .i64 m, .int .i64 a] w fun e w' =>
      e = .returned (.tuple #[.agg #[.bool (entB m a), .int .i64 0, .int .i64 0, .int .i64 0, .int .i64 (sel (entB m a) a), .int .i64 (sel (entB m a) 16), .int .i64 (sel (entB m a) (m + 1))], .bool (entB m a)]) ∧ Below w.heap.size w w' := by
  go_enter Try.func17, Try.ntmps17
  by_cases h : 0 ≤ m ∧ m < 8 ∧ 0 ≤ a ∧ a ≤ 4000
  · have hE : entB m a = true := by simp [entB, inR]; omega
    rw [hE]
    obtain ⟨h1, h2, h3, h4⟩ := h
    go_wp2
    refine bodyPost_ret (v := .tuple #[.agg #[.bool true, .int .i64 0, .int .i64 0, .int .i64 0, .int .i64 a, .int .i64 16, .int .i64 (m + 1)], .bool true]) (by simp [results, Try.results17, go_sem]) rfl ⟨rfl, (by repeat (first | exact Below.refl _ _ | assumption | (refine below_drewN ?_ _) | apply Below.drew | (refine Below.alloc ?_ ?_ _) | (refine Below.setCell ?_ ?_ _) | omega | (simp; omega) | simp))⟩
  · have hE : entB m a = false := by simp [entB, inR]; omega
    rw [hE]
    go_wp2
    all_goals refine bodyPost_ret (v := .tuple #[.agg #[.bool false, .int .i64 0, .int .i64 0, .int .i64 0, .int .i64 0, .int .i64 0, .int .i64 0], .bool false]) (by simp [results, Try.results17, go_sem]) rfl ⟨rfl, (by repeat (first | exact Below.refl _ _ | assumption | (refine below_drewN ?_ _) | apply Below.drew | (refine Below.alloc ?_ ?_ _) | (refine Below.setCell ?_ ?_ _) | omega | (simp; omega) | simp))⟩

set_option maxRecDepth 100000 in
theorem eqWordM (xt : Bool) (xn xl xh xa xp xs : Int) (yt : Bool) (yn yl yh ya yp ys : Int) (w : World) (h : xt = yt ∧ xn = yn ∧ xl = yl ∧ xh = yh ∧ xa = ya ∧ xp = yp ∧ xs = ys) :
    Calls Try.prog 64 #[.agg #[.bool xt, .int .i64 xn, .int .i64 xl, .int .i64 xh, .int .i64 xa, .int .i64 xp, .int .i64 xs], .agg #[.bool yt, .int .i64 yn, .int .i64 yl, .int .i64 yh, .int .i64 ya, .int .i64 yp, .int .i64 ys]] w fun e w' => e = .returned (.bool true) ∧ Below w.heap.size w w' := by
  obtain ⟨rfl, rfl, rfl, rfl, rfl, rfl, rfl⟩ := h
  go_enter Try.func64, Try.ntmps64
  go_wp2
  go_ret
  exact ⟨rfl, (by repeat (first | exact Below.refl _ _ | assumption | (refine below_drewN ?_ _) | apply Below.drew | (refine Below.alloc ?_ ?_ _) | (refine Below.setCell ?_ ?_ _) | omega | (simp; omega) | simp))⟩

theorem eqStep (d : Nat) (f : Field) (fs : List Field) (xs ys : Array Value) (a b : Value) (r q : Bool) (w : World) (hn : f.name ≠ "_") (ha : (part f.type xs f.offset).run Try.prog w = .ok a w) (hb : (part f.type ys f.offset).run Try.prog w = .ok b w)
    (he : (Op.equalIn d f.type a b).run Try.prog w = .ok r w) (ht : (Op.eqFields d xs ys fs).run Try.prog w = .ok q w) : (Op.eqFields d xs ys (f :: fs)).run Try.prog w = .ok (r && q) w := by
  simp only [Op.eqFields, hn, ne_eq, not_false_eq_true, if_true, Sem.run_bind, ha, hb, he, Result.andThen_ok]
  cases r <;> simp [ht]

theorem partW0 (xt : Bool) (xn xl xh xa xp xs : Int) (w : World) : (part 4 #[.bool xt, .int .i64 xn, .int .i64 xl, .int .i64 xh, .int .i64 xa, .int .i64 xp, .int .i64 xs] 0).run Try.prog w = .ok (.bool xt) w := by kernel_rfl
theorem partW1 (xt : Bool) (xn xl xh xa xp xs : Int) (w : World) : (part 3 #[.bool xt, .int .i64 xn, .int .i64 xl, .int .i64 xh, .int .i64 xa, .int .i64 xp, .int .i64 xs] 1).run Try.prog w = .ok (.int .i64 xn) w := by kernel_rfl
theorem partW2 (xt : Bool) (xn xl xh xa xp xs : Int) (w : World) : (part 3 #[.bool xt, .int .i64 xn, .int .i64 xl, .int .i64 xh, .int .i64 xa, .int .i64 xp, .int .i64 xs] 2).run Try.prog w = .ok (.int .i64 xl) w := by kernel_rfl
theorem partW3 (xt : Bool) (xn xl xh xa xp xs : Int) (w : World) : (part 3 #[.bool xt, .int .i64 xn, .int .i64 xl, .int .i64 xh, .int .i64 xa, .int .i64 xp, .int .i64 xs] 3).run Try.prog w = .ok (.int .i64 xh) w := by kernel_rfl
theorem partW4 (xt : Bool) (xn xl xh xa xp xs : Int) (w : World) : (part 3 #[.bool xt, .int .i64 xn, .int .i64 xl, .int .i64 xh, .int .i64 xa, .int .i64 xp, .int .i64 xs] 4).run Try.prog w = .ok (.int .i64 xa) w := by kernel_rfl
theorem partW5 (xt : Bool) (xn xl xh xa xp xs : Int) (w : World) : (part 3 #[.bool xt, .int .i64 xn, .int .i64 xl, .int .i64 xh, .int .i64 xa, .int .i64 xp, .int .i64 xs] 5).run Try.prog w = .ok (.int .i64 xp) w := by kernel_rfl
theorem partW6 (xt : Bool) (xn xl xh xa xp xs : Int) (w : World) : (part 3 #[.bool xt, .int .i64 xn, .int .i64 xl, .int .i64 xh, .int .i64 xa, .int .i64 xp, .int .i64 xs] 6).run Try.prog w = .ok (.int .i64 xs) w := by kernel_rfl

theorem word_fields : (Try.prog.fieldsOf 55).toList = [⟨ "Tag", 4, 0, false, "", "", 0⟩, ⟨ "N", 3, 1, false, "", "", 8⟩, ⟨ "Lo", 3, 2, false, "", "", 16⟩, ⟨ "Hi", 3, 3, false, "", "", 24⟩, ⟨ "At", 3, 4, false, "", "", 32⟩, ⟨ "Perm", 3, 5, false, "", "", 40⟩, ⟨ "Seal", 3, 6, false, "", "", 48⟩] := by kernel_rfl

theorem word_eq (xt : Bool) (xn xl xh xa xp xs : Int) (yt : Bool) (yn yl yh ya yp ys : Int) (w : World) :
    (binOp .eql 55 (.agg #[.bool xt, .int .i64 xn, .int .i64 xl, .int .i64 xh, .int .i64 xa, .int .i64 xp, .int .i64 xs]) (.agg #[.bool yt, .int .i64 yn, .int .i64 yl, .int .i64 yh, .int .i64 ya, .int .i64 yp, .int .i64 ys])).run Try.prog w = .ok (.bool ((xt == yt) && ((xn == yn) && ((xl == yl) && ((xh == yh) && ((xa == ya) && ((xp == yp) && (xs == ys)))))))) w := by
  have h3 : Try.prog.underlying 3 = some (.int .i64) := by kernel_rfl
  have h4 : Try.prog.underlying 4 = some .bool := by kernel_rfl
  have hi : ∀ a b : Int, (Op.equalIn 9999 3 (.int .i64 a) (.int .i64 b)).run Try.prog w = .ok (a == b) w := fun a b => run_equalIn_int w 9998 _ .i64 .i64 a b h3
  have hb : (Op.equalIn 9999 4 (.bool xt) (.bool yt)).run Try.prog w = .ok (xt == yt) w := run_equalIn_bool' w 9998 _ xt yt h4
  have e7 : (Op.eqFields 9999 #[.bool xt, .int .i64 xn, .int .i64 xl, .int .i64 xh, .int .i64 xa, .int .i64 xp, .int .i64 xs] #[.bool yt, .int .i64 yn, .int .i64 yl, .int .i64 yh, .int .i64 ya, .int .i64 yp, .int .i64 ys] []).run Try.prog w = .ok true w := by simp [Op.eqFields]
  have e6 := eqStep 9999 ⟨ "Seal", 3, 6, false, "", "", 48⟩ [] #[.bool xt, .int .i64 xn, .int .i64 xl, .int .i64 xh, .int .i64 xa, .int .i64 xp, .int .i64 xs] #[.bool yt, .int .i64 yn, .int .i64 yl, .int .i64 yh, .int .i64 ya, .int .i64 yp, .int .i64 ys] (.int .i64 xs) (.int .i64 ys) _ _ w (by decide) (partW6 ..) (partW6 ..) (hi ..) e7
  have e5 := eqStep 9999 ⟨ "Perm", 3, 5, false, "", "", 40⟩ [⟨ "Seal", 3, 6, false, "", "", 48⟩] #[.bool xt, .int .i64 xn, .int .i64 xl, .int .i64 xh, .int .i64 xa, .int .i64 xp, .int .i64 xs] #[.bool yt, .int .i64 yn, .int .i64 yl, .int .i64 yh, .int .i64 ya, .int .i64 yp, .int .i64 ys] (.int .i64 xp) (.int .i64 yp) _ _ w (by decide) (partW5 ..) (partW5 ..) (hi ..) e6
  have e4 := eqStep 9999 ⟨ "At", 3, 4, false, "", "", 32⟩ [⟨ "Perm", 3, 5, false, "", "", 40⟩, ⟨ "Seal", 3, 6, false, "", "", 48⟩] #[.bool xt, .int .i64 xn, .int .i64 xl, .int .i64 xh, .int .i64 xa, .int .i64 xp, .int .i64 xs] #[.bool yt, .int .i64 yn, .int .i64 yl, .int .i64 yh, .int .i64 ya, .int .i64 yp, .int .i64 ys] (.int .i64 xa) (.int .i64 ya) _ _ w (by decide) (partW4 ..) (partW4 ..) (hi ..) e5
  have e3 := eqStep 9999 ⟨ "Hi", 3, 3, false, "", "", 24⟩ [⟨ "At", 3, 4, false, "", "", 32⟩, ⟨ "Perm", 3, 5, false, "", "", 40⟩, ⟨ "Seal", 3, 6, false, "", "", 48⟩] #[.bool xt, .int .i64 xn, .int .i64 xl, .int .i64 xh, .int .i64 xa, .int .i64 xp, .int .i64 xs] #[.bool yt, .int .i64 yn, .int .i64 yl, .int .i64 yh, .int .i64 ya, .int .i64 yp, .int .i64 ys] (.int .i64 xh) (.int .i64 yh) _ _ w (by decide) (partW3 ..) (partW3 ..) (hi ..) e4
  have e2 := eqStep 9999 ⟨ "Lo", 3, 2, false, "", "", 16⟩ [⟨ "Hi", 3, 3, false, "", "", 24⟩, ⟨ "At", 3, 4, false, "", "", 32⟩, ⟨ "Perm", 3, 5, false, "", "", 40⟩, ⟨ "Seal", 3, 6, false, "", "", 48⟩] #[.bool xt, .int .i64 xn, .int .i64 xl, .int .i64 xh, .int .i64 xa, .int .i64 xp, .int .i64 xs] #[.bool yt, .int .i64 yn, .int .i64 yl, .int .i64 yh, .int .i64 ya, .int .i64 yp, .int .i64 ys] (.int .i64 xl) (.int .i64 yl) _ _ w (by decide) (partW2 ..) (partW2 ..) (hi ..) e3
  have e1 := eqStep 9999 ⟨ "N", 3, 1, false, "", "", 8⟩ [⟨ "Lo", 3, 2, false, "", "", 16⟩, ⟨ "Hi", 3, 3, false, "", "", 24⟩, ⟨ "At", 3, 4, false, "", "", 32⟩, ⟨ "Perm", 3, 5, false, "", "", 40⟩, ⟨ "Seal", 3, 6, false, "", "", 48⟩] #[.bool xt, .int .i64 xn, .int .i64 xl, .int .i64 xh, .int .i64 xa, .int .i64 xp, .int .i64 xs] #[.bool yt, .int .i64 yn, .int .i64 yl, .int .i64 yh, .int .i64 ya, .int .i64 yp, .int .i64 ys] (.int .i64 xn) (.int .i64 yn) _ _ w (by decide) (partW1 ..) (partW1 ..) (hi ..) e2
  have e0 := eqStep 9999 ⟨ "Tag", 4, 0, false, "", "", 0⟩ [⟨ "N", 3, 1, false, "", "", 8⟩, ⟨ "Lo", 3, 2, false, "", "", 16⟩, ⟨ "Hi", 3, 3, false, "", "", 24⟩, ⟨ "At", 3, 4, false, "", "", 32⟩, ⟨ "Perm", 3, 5, false, "", "", 40⟩, ⟨ "Seal", 3, 6, false, "", "", 48⟩] #[.bool xt, .int .i64 xn, .int .i64 xl, .int .i64 xh, .int .i64 xa, .int .i64 xp, .int .i64 xs] #[.bool yt, .int .i64 yn, .int .i64 yl, .int .i64 yh, .int .i64 ya, .int .i64 yp, .int .i64 ys] (.bool xt) (.bool yt) _ _ w (by decide) (partW0 ..) (partW0 ..) hb e1
  rw [run_eql_struct, run_equalIn_struct w 9999 _ _ _ (by kernel_rfl) (by kernel_rfl), word_fields, e0, Result.andThen_ok, Bool.and_true]

def isIntB (xt : Bool) (xn xl xh xa xp xs : Int) : Bool := (!xt && ((xl == 0) && ((xh == 0) && ((xa == 0) && ((xp == 0) && (xs == 0)))))) && (xn == wrap64 (wrap32 xn))

def wayB (xt : Bool) (xn xl xh xa xp xs : Int) : Bool := (xt && ((xn == 0) && (xs == 0))) && (inR xp 0 31 && (decide (0 ≤ xl) && (decide (xl ≤ xh) && (decide (xh ≤ 4000) && inR xa (-4000) 8000))))

end Go.Proofs.Ytefciaeajlgheaa

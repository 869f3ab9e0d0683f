import Derived.Test.YtopnodadggohiaaGreatDoorPackA
/- What the specification asks of expressions, in the program's words. No function is walked here. -/
namespace Go.Proofs.YtopnodadggohiaaGreatDoor
open Go.RowKit
set_option linter.unusedVariables false
set_option linter.unusedSimpArgs false

def sKids (k : Int) (nk : Nat) : Int := if k = 0 then 0 else if k = 1 then 0 else if k = 4 then 0 else if k = 5 then 0 else if k = 7 then 0 else if k = 2 then 1 else if k = 3 then 2 else if k = 6 then (if nk ≤ 4 then nk else -1) else -1
theorem sKids_iff (k : Int) (nk : Nat) : sKids k nk = nk ↔ (inB k 0 7 = true ∧ exLeast k ≤ nk ∧ (nk : Int) ≤ exMost k) := by
 unfold sKids exLeast exMost inB
 simp only [Bool.and_eq_true, decide_eq_true_eq]
 constructor
 ·
  intro h
  split at h
  ·
   rename_i h0; subst h0; simp; omega
  split at h
  ·
   rename_i h0; subst h0; simp; omega
  split at h
  ·
   rename_i h0; subst h0; simp; omega
  split at h
  ·
   rename_i h0; subst h0; simp; omega
  split at h
  ·
   rename_i h0; subst h0; simp; omega
  split at h
  ·
   rename_i h0; subst h0; simp; omega
  split at h
  ·
   rename_i h0; subst h0; simp; omega
  split at h
  ·
   rename_i h0; subst h0
   split at h
   ·
    simp; omega
   ·
    omega
  ·
   omega
 ·
  rintro ⟨⟨h1, h2⟩, h3, h4⟩
  have h8 : k = 0 ∨ k = 1 ∨ k = 2 ∨ k = 3 ∨ k = 4 ∨ k = 5 ∨ k = 6 ∨ k = 7 := by omega
  rcases h8 with rfl | rfl | rfl | rfl | rfl | rfl | rfl | rfl <;> simp at h3 h4 ⊢ <;> omega

theorem loc_no {k n : Int} {mod name : List Int} {nk : Nat} (h : inB k 0 7 = false ∨ inB nk (exLeast k) (exMost k) = false ∨ inB n (exLow k) (exHigh k) = false ∨ (exNamed k = true ∧ nameOk name false = false) ∨ (exNamed k = false ∧ ¬ name.length = 0) ∨ (¬ mod.length = 0 ∧ ¬ k = 6) ∨ (¬ mod.length = 0 ∧ nameOk mod true = false)) : exLoc k n mod name nk = false := by
 unfold exLoc
 rcases h with h | h | h | ⟨h1, h2⟩ | ⟨h1, h2⟩ | ⟨h1, h2⟩ | ⟨h1, h2⟩
 ·
  rw [h]; rfl
 ·
  rw [h]; simp
 ·
  rw [h]; simp
 ·
  rw [h1, if_pos rfl, h2]; simp
 ·
  rw [h1, decide_eq_false h2]; simp
 ·
  rw [decide_eq_false h1, decide_eq_false h2]; simp
 ·
  rw [decide_eq_false h1, h2]; simp
theorem loc_yes {k n : Int} {mod name : List Int} {nk : Nat} (h1 : inB k 0 7 = true) (h2 : inB nk (exLeast k) (exMost k) = true) (h3 : inB n (exLow k) (exHigh k) = true) (h4 : (if exNamed k then nameOk name false else decide (name.length = 0)) = true) (h5 : (decide (mod.length = 0) || decide (k = 6) && nameOk mod true) = true) : exLoc k n mod name nk = true := by
 unfold exLoc; rw [h1, h2, h3, h4, h5]; rfl

/-- What is asked of an expression where an array may stand, or may not. -/
def spEx (x : Ex) (d : Int) (arg : Bool) (left : Int) : Bool := (!isArr x || arg) && fitEx x d left
def spExs (l : List Ex) (d : Int) (arg : Bool) (left : Int) : Bool := (arg || !l.any isArr) && fitExs l d left

theorem spExs_no {l : List Ex} {d left : Int} {arg : Bool} {j : Nat} {x : Ex} (h : l[j]? = some x) (hx : spEx x d arg (left - (ndExs (l.take j) : Int)) = false) : spExs l d arg left = false := by
 unfold spEx at hx
 unfold spExs
 rw [Bool.and_eq_false_iff] at hx ⊢
 rcases hx with hx | hx
 ·
  left
  rw [Bool.or_eq_false_iff] at hx ⊢
  refine ⟨hx.2, ?_⟩
  have h1 : isArr x = true := by simpa using hx.1
  have : l.any isArr = true := by rw [List.any_eq_true]; exact ⟨x, List.mem_of_getElem? h, h1⟩
  rw [this]; rfl
 ·
  right; exact fitExs_no h hx
theorem spExs_yes {l : List Ex} {d left : Int} {arg : Bool} (h : ∀ j x, l[j]? = some x → spEx x d arg (left - (ndExs (l.take j) : Int)) = true) (hl : 0 ≤ left) : spExs l d arg left = true := by
 unfold spExs
 rw [Bool.and_eq_true]
 refine ⟨?_, fitExs_yes (fun j x hx => by have := h j x hx; unfold spEx at this; rw [Bool.and_eq_true] at this; exact this.2) hl⟩
 cases arg
 ·
  rw [Bool.false_or]
  have : l.any isArr = false := by
   rw [List.any_eq_false]
   intro x hx
   obtain ⟨j, hj⟩ := List.getElem?_of_mem hx
   have := h j x hj
   unfold spEx at this
   simp only [Bool.and_eq_true, Bool.or_eq_true, Bool.not_eq_true', Bool.false_eq_true, or_false] at this
   simpa using this.1
  rw [this]; rfl
 ·
  rfl
theorem spEx_le {x : Ex} {d left : Int} {arg : Bool} (h : spEx x d arg left = true) : (ndEx x : Int) ≤ left := by
 unfold spEx at h; rw [Bool.and_eq_true] at h; exact fitEx_le h.2
theorem spEx_room {x : Ex} {d left : Int} {arg : Bool} (h : left < 1 ∨ 16 < d) : spEx x d arg left = false := by
 unfold spEx; rw [fitEx_room h]; simp
theorem spEx_loc {k n : Int} {mod name : List Int} {ks : List Ex} {d left : Int} {arg : Bool} (h : exLoc k n mod name ks.length = false) : spEx (.mk k n mod name ks) d arg left = false := by
 unfold spEx fitEx okEx; rw [h]; simp
theorem spEx_arr {n : Int} {mod name : List Int} {ks : List Ex} {d left : Int} : spEx (.mk 7 n mod name ks) d false left = false := by
 unfold spEx isArr Ex.kind; simp
theorem spEx_rest {k n : Int} {mod name : List Int} {ks : List Ex} {d left : Int} {arg : Bool} (h : exLoc k n mod name ks.length = true) (ha : ¬ k = 7 ∨ arg = true) (hl : 1 ≤ left) (hd : d ≤ 16) : spEx (.mk k n mod name ks) d arg left = spExs ks (d + 1) (decide (k = 6)) (left - 1) := by
 have h1 : (!isArr (.mk k n mod name ks) || arg) = true := by
  rcases ha with ha | ha
  ·
   simp [isArr, Ex.kind, ha]
  ·
   rw [ha]; simp
 unfold spEx spExs
 rw [h1, Bool.true_and]
 cases hx : (decide (k = 6) || !ks.any isArr)
 ·
  rw [Bool.false_and]
  refine fitEx_form ?_
  rw [exT_eq, hx]; simp
 ·
  rw [Bool.true_and]
  exact fitEx_rest (by rw [exT_eq, h, hx]; rfl) hl hd
theorem kids_zero {k : Int} {ks : List Ex} (h : inB (ks.length : Int) (exLeast k) (exMost k) = true) (hk : exMost k = 0) : ks.length = 0 := by
 unfold inB at h
 rw [hk] at h
 simp only [Bool.and_eq_true, decide_eq_true_eq] at h
 omega
theorem spExs_nil {d m : Int} {arg : Bool} (h : 0 ≤ m) : spExs [] d arg m = true := by
 simp [spExs, fitExs, okExs, ndExs, h]
end Go.Proofs.YtopnodadggohiaaGreatDoor

/- How many Kids a kind has, by the specification. By mkspec6.py. -/
namespace Go.Proofs.YtopnodadggohiaaGreatDoor
open Go.RowKit
set_option linter.unusedVariables false
set_option linter.unusedSimpArgs false
set_option maxRecDepth 100000

set_option maxHeartbeats 1000000 in
theorem l6kidsC (k n : Int) (v2 v3 : Value) (a : Option Addr) (nk c : Nat) (w : World) (hk : nk ≤ 9223372036854775807) :
  Calls Tryz.prog 201 #[.agg #[.int .i64 k, .int .i64 n, v2, v3, .slice a nk c]] w fun e w' => e = .returned (.int .i64 (sKids k nk)) ∧ w.grownBy w' none := by
 have y0 := grown_alloc w (.cells #[.int .i64 k, .int .i64 n, v2, v3, .slice a nk c] 125 (0, 0)) none
 have q0 := cell_new w 125 #[.int .i64 k, .int .i64 n, v2, v3, .slice a nk c] 0 _ rfl
 have q4 := cell_new w 125 #[.int .i64 k, .int .i64 n, v2, v3, .slice a nk c] 4 _ rfl
 have hz : Hid (∀ x : Int, sKids k nk = x → Ending.returned (.int .i64 x) = .returned (.int .i64 (sKids k nk))) := fun x h => by rw [h]
 go_enter Tryz.func201, Tryz.ntmps201
 go_upto_region 1 with fail
 generalize w.alloc (.cells #[.int .i64 k, .int .i64 n, v2, v3, .slice a nk c] 125 (0, 0)) = w1 at *
 by_cases k0 : k = 0
 ·
  subst k0
  have hv : Hid (sKids 0 nk = 0) := by show _ = _; simp [sKids]
  go_wp2_with fail
  go_ret
  exact ⟨hz.out _ hv.out, y0⟩
 have g0 : (k == 0) = false := by simpa using k0
 by_cases k1 : k = 1
 ·
  subst k1
  have hv : Hid (sKids 1 nk = 0) := by show _ = _; simp [sKids]
  go_wp2_with fail
  go_ret
  exact ⟨hz.out _ hv.out, y0⟩
 have g1 : (k == 1) = false := by simpa using k1
 by_cases k4 : k = 4
 ·
  subst k4
  have hv : Hid (sKids 4 nk = 0) := by show _ = _; simp [sKids]
  go_wp2_with fail
  go_ret
  exact ⟨hz.out _ hv.out, y0⟩
 have g4 : (k == 4) = false := by simpa using k4
 by_cases k5 : k = 5
 ·
  subst k5
  have hv : Hid (sKids 5 nk = 0) := by show _ = _; simp [sKids]
  go_wp2_with fail
  go_ret
  exact ⟨hz.out _ hv.out, y0⟩
 have g5 : (k == 5) = false := by simpa using k5
 by_cases k7 : k = 7
 ·
  subst k7
  have hv : Hid (sKids 7 nk = 0) := by show _ = _; simp [sKids]
  go_wp2_with fail
  go_ret
  exact ⟨hz.out _ hv.out, y0⟩
 have g7 : (k == 7) = false := by simpa using k7
 by_cases k2 : k = 2
 ·
  subst k2
  have hv : Hid (sKids 2 nk = 1) := by show _ = _; simp [sKids]
  go_wp2_with fail
  go_ret
  exact ⟨hz.out _ hv.out, y0⟩
 have g2 : (k == 2) = false := by simpa using k2
 by_cases k3 : k = 3
 ·
  subst k3
  have hv : Hid (sKids 3 nk = 2) := by show _ = _; simp [sKids]
  go_wp2_with fail
  go_ret
  exact ⟨hz.out _ hv.out, y0⟩
 have g3 : (k == 3) = false := by simpa using k3
 by_cases k6 : k = 6
 ·
  subst k6
  by_cases h4 : nk ≤ 4
  ·
   have h4' : (nk : Int) ≤ 4 := by omega
   have hv : Hid (sKids 6 nk = nk) := by show _ = _; simp [sKids, h4]
   go_wp2_with fail
   go_ret
   exact ⟨hz.out _ hv.out, y0⟩
  ·
   have h4' : ¬ (nk : Int) ≤ 4 := by omega
   have hv : Hid (sKids 6 nk = -1) := by show _ = _; simp [sKids, h4]
   go_wp2_with fail
   go_ret
   exact ⟨hz.out _ hv.out, y0⟩
 have g6 : (k == 6) = false := by simpa using k6
 have hv : Hid (sKids k nk = -1) := by show _ = _; simp [sKids, k0, k1, k2, k3, k4, k5, k6, k7]
 clear k0 k1 k2 k3 k4 k5 k6 k7
 go_wp2_with fail
 go_ret
 exact ⟨hz.out _ hv.out, y0⟩
end Go.Proofs.YtopnodadggohiaaGreatDoor

/- What must be of a module, one lack at a time. -/
import Derived.Test.YtopnodadggohiaaGreatDoorPackB
namespace Go.Proofs.YtopnodadggohiaaGreatDoor
open Go.RowKit
set_option linter.unusedVariables false
set_option linter.unusedSimpArgs false

theorem all_lack {α : Type} {l : List α} {f : α → Bool} {j : Nat} {x : α} (h : l[j]? = some x) (hx : f x = false) : l.all f = false := by
 rw [List.all_eq_false]; exact ⟨x, List.mem_of_getElem? h, by simp [hx]⟩
theorem all_told {α : Type} {l : List α} {f : α → Bool} (h : ∀ (j : Nat) (x : α), l[j]? = some x → f x = true) : l.all f = true := by
 rw [List.all_eq_true]; intro x hx; obtain ⟨j, hj⟩ := List.getElem?_of_mem hx; exact h j x hj
theorem formed_name {m : Mo} (h : nameOk m.name true = false) : formed m = false := by unfold formed; rw [h]; rfl
theorem formed_uses {m : Mo} (h : 6 < m.uses.length) : formed m = false := by unfold formed; rw [decide_eq_false (by omega : ¬ m.uses.length ≤ 6)]; simp
theorem formed_vars {m : Mo} (h : 8 < m.vars.length) : formed m = false := by unfold formed; rw [decide_eq_false (by omega : ¬ m.vars.length ≤ 8)]; simp
theorem formed_procs {m : Mo} (h : 8 < m.procs.length) : formed m = false := by unfold formed; rw [decide_eq_false (by omega : ¬ m.procs.length ≤ 8)]; simp
theorem formed_use {m : Mo} {j : Nat} {x : List Int} (h : m.uses[j]? = some x) (hx : nameOk x true = false) : formed m = false := by unfold formed; rw [all_lack h (f := greatOk) hx]; simp
theorem formed_var {m : Mo} {j : Nat} {x : Va} (h : m.vars[j]? = some x) (hx : vaOk x = false) : formed m = false := by unfold formed; rw [all_lack h hx]; simp
theorem formed_head {m : Mo} {j : Nat} {x : Pr} (h : m.procs[j]? = some x) (hx : hdOk x = false) : formed m = false := by unfold formed; rw [all_lack h hx]; simp
theorem formed_body {m : Mo} {j : Nat} {x : Pr} (h : m.procs[j]? = some x) (hx : fitSts x.body 1 (250 - (ndPrs (m.procs.take j) : Int)) = false) : formed m = false := by
 have : fitPrs m.procs 250 = false := by
  unfold fitPrs
  rw [List.all_eq_false]
  exact ⟨j, by simpa using (List.getElem?_eq_some_iff.1 h).1, by rw [h]; simpa using hx⟩
 unfold formed; rw [this]; simp
theorem formed_yes {m : Mo} (h0 : nameOk m.name true = true) (h1 : m.uses.length ≤ 6) (h2 : m.vars.length ≤ 8) (h3 : m.procs.length ≤ 8) (g1 : ∀ (j : Nat) (x : List Int), m.uses[j]? = some x → nameOk x true = true) (g2 : ∀ (j : Nat) (x : Va), m.vars[j]? = some x → vaOk x = true) (g3 : ∀ (j : Nat) (x : Pr), m.procs[j]? = some x → fitSts x.body 1 (250 - (ndPrs (m.procs.take j) : Int)) = true ∧ hdOk x = true) : formed m = true := by
 have h7 : fitPrs m.procs 250 = true := by
  unfold fitPrs
  rw [List.all_eq_true]
  intro j hj
  have hj' : j < m.procs.length := by simpa using hj
  have hx := List.getElem?_eq_getElem hj'
  rw [hx]
  exact (g3 j _ hx).1
 unfold formed
 rw [h0, decide_eq_true h1, decide_eq_true h2, decide_eq_true h3, all_told (f := greatOk) g1, all_told g2, all_told (f := hdOk) fun j x hx => (g3 j x hx).2, h7]
 rfl
theorem vaOk_name {v : Va} (h : nameOk v.name false = false) : vaOk v = false := by unfold vaOk; rw [h]; rfl
theorem vaOk_size {v : Va} (h : v.size < 0 ∨ 20 < v.size) : vaOk v = false := by
 unfold vaOk inB; rw [Bool.and_eq_false_iff]; right; simp; omega
theorem vaOk_yes {v : Va} (h : nameOk v.name false = true) (h0 : 0 ≤ v.size) (h1 : v.size ≤ 20) : vaOk v = true := by
 unfold vaOk inB; rw [h]; simp; omega
theorem hdOk_name {q : Pr} (h : nameOk q.name false = false) : hdOk q = false := by unfold hdOk; rw [h]; rfl
theorem hdOk_params {q : Pr} (h : 4 < q.params.length) : hdOk q = false := by unfold hdOk; rw [decide_eq_false (by omega : ¬ q.params.length ≤ 4)]; simp
theorem hdOk_locals {q : Pr} (h : 8 < q.locals.length) : hdOk q = false := by unfold hdOk; rw [decide_eq_false (by omega : ¬ q.locals.length ≤ 8)]; simp
theorem hdOk_param {q : Pr} {j : Nat} {x : Pa} (h : q.params[j]? = some x) (hx : nameOk x.name false = false) : hdOk q = false := by unfold hdOk; rw [all_lack h (f := paOk) hx]; simp
theorem hdOk_local {q : Pr} {j : Nat} {x : List Int} (h : q.locals[j]? = some x) (hx : nameOk x false = false) : hdOk q = false := by unfold hdOk; rw [all_lack h (f := smallOk) hx]; simp
theorem hdOk_yes {q : Pr} (h0 : nameOk q.name false = true) (h1 : q.params.length ≤ 4) (h2 : q.locals.length ≤ 8) (g1 : ∀ (j : Nat) (x : Pa), q.params[j]? = some x → nameOk x.name false = true) (g2 : ∀ (j : Nat) (x : List Int), q.locals[j]? = some x → nameOk x false = true) : hdOk q = true := by
 unfold hdOk
 rw [h0, decide_eq_true h1, decide_eq_true h2, all_told (f := paOk) g1, all_told (f := smallOk) g2]
 rfl

end Go.Proofs.YtopnodadggohiaaGreatDoor

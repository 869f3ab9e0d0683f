/- What the program tells of a module, and its text. -/
import Derived.Test.YtopnodadggohiaaGreatDoorPackC
namespace Go.Proofs.YtopnodadggohiaaGreatDoor
open Go.RowKit
set_option linter.unusedVariables false
set_option linter.unusedSimpArgs false
set_option maxRecDepth 100000

def moOk (m : Mo) : Bool := formed m && decide ((prM m).length ≤ 3000)

theorem fitPrs_ok {l : List Pr} {left : Int} (h : fitPrs l left = true) : ∀ x ∈ l, okSts x.body = true := by
 intro x hx
 obtain ⟨j, hj⟩ := List.getElem?_of_mem hx
 unfold fitPrs at h
 rw [List.all_eq_true] at h
 have := h j (by have := (List.getElem?_eq_some_iff.1 hj).1; simpa using this)
 rw [hj] at this
 unfold fitSts at this
 simp only [Option.getD_some, Bool.and_eq_true] at this
 exact this.1.1
theorem formed_parts {m : Mo} (h : formed m = true) : nameOk m.name true = true ∧ (∀ x ∈ m.uses, greatOk x = true) ∧ (∀ x ∈ m.vars, vaOk x = true) ∧ (∀ x ∈ m.procs, hdOk x = true ∧ okSts x.body = true) := by
 unfold formed at h
 simp only [Bool.and_eq_true, List.all_eq_true] at h
 exact ⟨h.1.1.1.1.1.1.1, h.1.1.1.1.1.2, h.1.1.1.2, fun x hx => ⟨h.1.2 x hx, fitPrs_ok h.2 x hx⟩⟩

theorem own_none (w : World) (base : Nat) : Own w base (.slice none 0 0) 0 [] := ⟨⟨by simp, .inl ⟨rfl, rfl⟩⟩, by simp⟩

theorem four_of {α : Type} {l : List α} (h : l.length = 4) : ∃ a b c d, l = [a, b, c, d] := by
 match l, h with
 | [a, b, c, d], _ => exact ⟨a, b, c, d, rfl⟩

/-- What Print tells: a text of its own, or nothing. -/
structure Printed (w w' : World) (m : Mo) (v : Value) : Prop where
 no : moOk m = false → v = .slice none 0 0
 yes : moOk m = true → Own w' w.heap.size v (prM m).length (prM m)
 grown : w.grownBy w' none

set_option maxHeartbeats 4000000 in
theorem printC (m : Mo) (vs : List Value) (w : World) (hT : Tabs w) (h : RdVals w m.fl vs) (hs : recLen m.fl ≤ 1048576) :
  Calls Tryz.prog 65 #[agg vs] w fun e w' => ∃ v, e = .returned (.tuple #[v, .bool (moOk m)]) ∧ Printed w w' m v := by
 have HF : ∀ w1, Below w.heap.size w w1 → Calls Tryz.prog 112 #[agg vs] w1 fun e w' => e = .returned (.bool (formed m)) ∧ w1.grownBy w' none := fun w1 h1 => formedC m vs w1 (hT.below h1) (h.below h1) hs
 have HM : formed m = true → ∀ (w1 : World) (g : Nat) (v : Value), Below w.heap.size w w1 → w.heap.size ≤ g → Pg w1 w.heap.size g [] v → Calls Tryz.prog 113 #[.pointer (some ⟨g, 0, none⟩), agg vs] w1 fun e w' => e = .returned (.tuple #[]) ∧ (∃ v', Pg w' w.heap.size g (prM m) v') ∧ Wrote w.heap.size (some g) w1 w' := by
  intro hf w1 g v h1 h2 h3
  obtain ⟨p1, p2, p3, p4⟩ := formed_parts hf
  have hl := prM_le m hs p3 (fun x hx => (p4 x hx).2)
  have := prMoR m.name m.uses m.vars m.procs p1 p2 p3 p4 w w1 vs w.heap.size g [] v hT h h1 (Nat.le_refl _) h2 h3 (by rw [List.length_nil, Nat.zero_add]; exact Nat.le_trans hl (by omega))
  exact this
 have hlM : formed m = true → (prM m).length ≤ 500000000 := fun hf => by
  obtain ⟨_, _, p3, p4⟩ := formed_parts hf
  exact prM_le m hs p3 (fun x hx => (p4 x hx).2)
 obtain ⟨u0, u1, u2, u3, rfl⟩ := four_of (h.len.trans (show m.fl.length = 4 from rfl))
 simp only [agg] at HF HM ⊢
 have yy := grown_alloc w (.cells #[u0, u1, u2, u3] 36 (0, 0)) none
 have x0 := Blk.new w 36 [u0, u1, u2, u3]
 have HD : Hid (moOk m = (formed m && decide ((prM m).length ≤ 3000))) := rfl
 clear hT h hs
 go_enter Tryz.func65, Tryz.ntmps65
 go_upto_region 1 with fail
 generalize w.alloc (.cells #[u0, u1, u2, u3] 36 (0, 0)) = w1 at *
 obtain ⟨q0, q1, q2, q3⟩ := x0.c4
 have H1 := HF w1 (below_grown yy)
 clear HF
 go_wp2_with fail
 refine H1.mono ?_
 rintro e w2 ⟨rfl, hq⟩
 replace x0 := x0.below (below_grown hq) x0.lt
 replace yy := grown_trans yy hq
 clear H1 hq q0 q1 q2 q3
 cases hf : formed m
 ·
  have he : Hid (moOk m = false) := by show _ = _; rw [HD.out, hf]; rfl
  clear HM hlM
  go_wp2_with fail
  refine bodyPost_ret (v := .tuple #[.slice none 0 0, .bool false]) (by simp only [results, Tryz.results65]; simp [go_sem]) rfl ⟨.slice none 0 0, by rw [he.out], ⟨fun _ => rfl, fun h => absurd (he.out.symm.trans h) (by simp), yy⟩⟩
 ·
  have HM2 := HM hf
  have hl := hlM hf
  have he : Hid (moOk m = decide ((prM m).length ≤ 3000)) := by show _ = _; rw [HD.out, hf]; rfl
  clear HM hlM HD hf
  have hP : Pg (w2.alloc (.cells #[.slice none 0 0] 153 (0, 0))) w.heap.size w2.heap.size [] (.slice none 0 0) := ⟨Blk.new w2 153 [.slice none 0 0], own_none _ _, by have := yy.size; simp; omega⟩
  have y3 := grown_trans yy (grown_alloc w2 (.cells #[.slice none 0 0] 153 (0, 0)) none)
  have x3 := x0.old (o := .cells #[.slice none 0 0] 153 (0, 0))
  have HQ := HM2 _ w2.heap.size _ (below_grown y3) yy.size hP
  clear HM2
  have hgx : some w.heap.size ≠ some w2.heap.size := by have := x0.lt; simp; omega
  have hle2 : w.heap.size ≤ w2.heap.size := yy.size
  go_upto_region 4 with fail
  generalize w2.alloc (.cells #[.slice none 0 0] 153 (0, 0)) = w3 at *
  generalize w2.heap.size = g at *
  obtain ⟨q0, q1, q2, q3⟩ := x3.c4
  go_wp2_with fail
  refine HQ.mono ?_
  rintro e w4 ⟨rfl, ⟨v4, hp4⟩, hw⟩
  have y4 : w.grownBy w4 none := grown_below (hw.below (below_grown y3) (Nat.le_refl _) (by intro k e; cases e; exact hle2)) none
  obtain ⟨hk4, ho4, _⟩ := hp4
  clear HQ q0 q1 q2 q3 x3 y3 hP hw x0 yy
  have HO : Hid (Own w4 w.heap.size v4 (prM m).length (prM m)) := ho4
  obtain ⟨a4, c4, e4, _⟩ := ho4.shape
  subst e4
  clear ho4
  have z0 := hk4.cell (i := 0) rfl
  generalize hn : (prM m).length = n at *
  have HN : Hid ((prM m).length = n) := hn
  clear hn
  by_cases h3 : n ≤ 3000
  ·
   have h3' : ¬ (3000 : Int) < (n : Int) := by omega
   have hm : Hid (moOk m = true) := by show _ = _; rw [he.out]; exact decide_eq_true h3
   go_wp2_with fail
   refine bodyPost_ret (v := .tuple #[.slice a4 n c4, .bool true]) (by simp only [results, Tryz.results65]; simp [go_sem]) rfl ⟨.slice a4 n c4, by rw [hm.out], ⟨fun h => absurd (hm.out.symm.trans h) (by simp), fun _ => (by rw [HN.out]; exact HO.out), y4⟩⟩
  ·
   have h3' : (3000 : Int) < (n : Int) := by omega
   have hm : Hid (moOk m = false) := by show _ = _; rw [he.out]; exact decide_eq_false h3
   go_wp2_with fail
   refine bodyPost_ret (v := .tuple #[.slice none 0 0, .bool false]) (by simp only [results, Tryz.results65]; simp [go_sem]) rfl ⟨.slice none 0 0, by rw [hm.out], ⟨fun _ => rfl, fun h => absurd (hm.out.symm.trans h) (by simp), y4⟩⟩

theorem implModB (m : Mo) (w : World) (vs : List Value) (hT : Tabs w) (h : RdVals w m.fl vs) (hs : recLen m.fl ≤ 1048576) :
  Calls Tryz.prog 29 #[.agg vs.toArray] w fun e w' => e = .returned (.bool (moOk m)) ∧ w.grownBy w' none := by
 have yy := grown_alloc w (.cells vs.toArray 36 (0, 0)) none
 have HP := printC m vs (w.alloc (.cells vs.toArray 36 (0, 0))) (hT.below (below_grown yy)) (h.below (below_grown yy)) hs
 have x0 := Blk.new w 36 vs
 obtain ⟨u0, u1, u2, u3, rfl⟩ := four_of (h.len.trans (show m.fl.length = 4 from rfl))
 simp only [agg] at HP
 clear h hs hT
 generalize moOk m = r at *
 go_enter Tryz.func29, Tryz.ntmps29
 go_upto_region 1 with fail
 generalize w.alloc (.cells #[u0, u1, u2, u3] 36 (0, 0)) = w1 at *
 obtain ⟨q0, q1, q2, q3⟩ := x0.c4
 go_wp2_with fail
 refine HP.mono ?_
 rintro e w2 ⟨v, rfl, hp⟩
 go_wp2_with fail
 go_ret
 exact ⟨rfl, grown_trans yy hp.grown⟩
end Go.Proofs.YtopnodadggohiaaGreatDoor

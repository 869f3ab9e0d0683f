/- FaceOf answers as the specification at every module, field by field; it writes into no argument, its answer owns its memory, behind another call too. Condition: the seven tables of the program and of the standard library that it reads hold what their text lays. -/
import Derived.Test.YtopnodadggohiaaGreatDoorRows
import Derived.Test.YtopnodadggohiaaGreatDoorCards
import Derived.Test.YtopnodadggohiaaGreatDoorTie
import Derived.Test.YtopnodadggohiaaGreatDoorFaceOfLaw
import Derived.Test.YtopnodadggohiaaGreatDoorLaidTabs
import Derived.WalkKit
import Derived.ProofKit
import Derived.OpenShut
import Derived.ChangeOld
import Derived.Below
import Derived.SevenTiedAt
import Derived.OpenVars
namespace Go.Proofs.YtopnodadggohiaaGreatDoor.fnExactFaceOf
open Go.ChangeShapes Go.WideShapes Go.ChangeAt Go.RowKit
set_option linter.unusedVariables false

theorem own : ownKnob Tryz.prog.godebug = none := by kernel_rfl
theorem laidOut : laidOutB Tryz.prog = true := by kernel_rfl

set_option maxRecDepth 100000 in
set_option maxHeartbeats 4000000 in
theorem lifted (os : Os) (started : os.Started) (H : Type) (enc : TypeId × Value → H) :
  ReturnsInHanded {} Tryz.checked os 3 .any (fun w args => (Rows.fnExactFaceOfSpec.pre enc Tryz.prog Tryz.f3 [] false w args ∧ laidMetH Tryz.prog laid7 w) ∧ sizedMet enc Tryz.prog Tryz.f3 (OpenSpec.ofChange Rows.fnExactFaceOfSpec) false w args)
   (Rows.fnExactFaceOfSpec.post enc Tryz.prog Tryz.f3 false true false false) := by
 refine returnsInHanded_of_change_and (C := Tryz.checked) (X := fun w _ => laidMetH Tryz.prog laid7 w) (fun _ _ _ hh h => h.of_heap hh) own started (by kernel_rfl) Tryz.func3
  (ChangeSpec.witness_shaped (enc := enc) (C := Tryz.checked) (os := os) (X := fun w _ => laidMetH Tryz.prog laid7 w) false (World.doorLaid Tryz.prog 4000 os) #[.agg #[.slice none 0 0, .slice none 0 0, .slice none 0 0, .slice none 0 0]] 8 rfl (World.shaped_of_RefB (by kernel_rfl) (by kernel_rfl)) (by kernel_rfl) (by kernel_rfl) (by kernel_rfl) (door_met os _)) ?_
 intro W base args ds gs before hval0 hW _ _ hL _
 have hval : ∀ (j : Nat) t v, Tryz.f3.params[j]? = some t → args[j]? = some v → Value.okWide Tryz.prog W .any base t v := hval0
 have hW' := hW
 obtain ⟨p, q, hA0, hV0, rfl, hfz, hnd⟩ := hW
 have hA : DataW.TrodAll enc Tryz.prog W 0 (fun _ => true) true Tryz.f3.params.toList args.toList ds p := hA0
 have hV : DataW.TrodVars enc Tryz.prog W (fun _ => true) ["loop.example/g00335/impl.stForms", "loop.example/g00335/impl.exForms"] gs q := hV0
 rw [Tryz.params3] at hA hval
 obtain ⟨v0, vs0, d0, ds0, p0, q0, hargs, rfl, rfl, h0, r0⟩ := trodAll_cons hA
 obtain ⟨rfl, rfl, rfl⟩ := trodAll_nil r0
 obtain rfl : args = #[v0] := by cases args; simp_all
 have hS := tabs_of_laid hL
 have hVk := hV
 obtain ⟨gd1, gd2, rfl⟩ : ∃ gd1 gd2, gs = [gd1, gd2] := by
  cases gs with
  | nil => exact hV.elim
  | cons gd1 gr =>
   obtain ⟨_, _, _, _, _, _, _, _, _, _, hn, _⟩ := hV
   cases gr with
   | nil => exact hn.elim
   | cons gd2 gr2 =>
    obtain ⟨_, _, _, _, _, _, _, _, _, _, hn2, _⟩ := hn
    cases gr2 with
    | nil => exact ⟨gd1, gd2, rfl⟩
    | cons _ _ => exact hn2.elim
 have k0 := h0
 have lt0 : ∀ x ∈ p0, x.block < W.heap.size := by obtain ⟨m, hm⟩ := k0; exact DataW.trod_lt m _ _ _ hm
 obtain ⟨x0, vs0', rfl, u0⟩ := open_Module (hval 0 27 v0 rfl rfl) h0
 clear hA0 hV0 hval0
 refine (faceof_walk x0 vs0' W hS u0).mono fun e W' ⟨he, bel⟩ => ?_
 subst he
 exact ⟨_, rfl, _, _, _, [], _, _, hW', trodAll_mk1 (shut_bool Tryz.underlying4 _), (trodAll_cons_mk (Below.trod laidOut (by kernel_rfl) (of_decide_eq_true (by kernel_rfl)) k0 bel lt0) trodAll_mk0), Below.trodVars laidOut bel (by kernel_rfl) hVk, bel.frame _, fun h => by cases h⟩

theorem over : Rows.FnExactFaceOfSaid :=
 OpenClaim.holds_of_wide 3 Tryz.f3 rfl rfl rfl rfl rfl rfl rfl ⟨rfl, rfl, rfl, rfl, rfl⟩ rfl rfl rfl rfl rfl (by kernel_rfl) Tryz.func3 (by kernel_rfl)
  (of_decide_eq_true (by kernel_rfl)) (by unfold Func.isWrapper; first | (rw [if_pos (by decide +kernel)]; kernel_rfl) | (rw [if_neg (by decide +kernel)]; exact ⟨rfl, rfl⟩))
  (fun os started H enc _ => lifted os started H enc)

theorem stand (j : Nat) (t : TypeId) (ht : #[27][j]? = some t) : Tryz.prog.wantsStandIn t = false := by
 have h : t ∈ [27] := List.mem_of_getElem? (i := j) (by simpa using ht)
 simp only [List.mem_cons, List.not_mem_nil, or_false] at h
 rcases h with rfl
 ·
  exact (show Tryz.prog.wantsStandIn 27 = false by kernel_rfl)
end Go.Proofs.YtopnodadggohiaaGreatDoor.fnExactFaceOf
namespace Go.Proofs.YtopnodadggohiaaGreatDoor
theorem fnExactFaceOf_card : Rows.FnExactFaceOfCardSaid :=
 Claim7.holds_tied_plain_at .later [] [.data, .data, .data, .listed, .data, .wider, .wider] true (true, "c3e03aa6091a785102e7c63e18acfb15d7c39341ec4c71df1512443396e57fa3") false
  fnExactFaceOf.over (fun _ h => by cases h) (by kernel_rfl) (fun _ h => by cases h) fnExactFaceOf_row_tie rfl ⟨rfl, rfl⟩ (by kernel_rfl) rfl
  (fun f fn hf hfn => by
   obtain rfl : f = 3 := Option.some.inj ((show Tryz.prog.funcNamed "loop.example/g00335/laws.FnExactFaceOf" = some 3 by kernel_rfl).symm.trans hf) |>.symm
   obtain rfl : fn = Tryz.f3 := (Option.some.inj (Tryz.func3.symm.trans hfn)).symm
   exact ⟨by kernel_rfl, fun j t ht => by
    rw [Tryz.params3] at ht
    exact fnExactFaceOf.stand j t ht⟩)
  (by kernel_rfl)
#print axioms fnExactFaceOf_card
end Go.Proofs.YtopnodadggohiaaGreatDoor

/- The eight small modules of FnRules are told of as the law says, whatever the input; the card, tied. -/
import Derived.Test.YtajnfknldofjlaaGreatDoorRows
import Derived.Test.YtajnfknldofjlaaGreatDoorCards
import Derived.Test.YtajnfknldofjlaaGreatDoorTie
import Derived.Test.YtajnfknldofjlaaGreatDoorPackF
import Derived.Test.YtajnfknldofjlaaGreatDoorLaidR
import Derived.WalkKit
import Derived.ProofKit
import Derived.OpenShut
import Derived.ChangeOld
import Derived.Below
import Derived.SevenTiedAt
import Derived.OpenVars
namespace Go.Proofs.YtajnfknldofjlaaGreatDoor.fnRules
open Go.ChangeShapes Go.WideShapes Go.ChangeAt Go.RowKit
set_option linter.unusedVariables false

theorem own : ownKnob Tryz.prog.godebug = none := by kernel_rfl
theorem laidOut : laidOutB Tryz.prog = true := by kernel_rfl

set_option maxRecDepth 100000 in
set_option maxHeartbeats 4000000 in
theorem lifted (os : Os) (started : os.Started) (H : Type) (enc : TypeId × Value → H) :
    ReturnsInHanded {} Tryz.checked os 3 .any (fun w args => (Rows.fnRulesSpec.pre enc Tryz.prog Tryz.f3 [] false w args ∧ laidMetH Tryz.prog laid7 w) ∧ sizedMet enc Tryz.prog Tryz.f3 (OpenSpec.ofChange Rows.fnRulesSpec) false w args)
      (Rows.fnRulesSpec.post enc Tryz.prog Tryz.f3 false true false false) := by
  refine handed_both (C := Tryz.checked) (X := fun w _ => laidMetH Tryz.prog laid7 w) (fun _ _ _ hh h => h.of_heap hh) own started (by kernel_rfl) Tryz.func3
    (ChangeSpec.witness_shaped (enc := enc) (C := Tryz.checked) (os := os) (X := fun w _ => laidMetH Tryz.prog laid7 w) false (World.doorLaid Tryz.prog 4000 os) #[.slice none 0 0] 8 rfl (World.shaped_of_RefB (by kernel_rfl) (by kernel_rfl)) (by kernel_rfl) (by kernel_rfl) (by kernel_rfl) (door_met os _)) ?_
  intro W base args ds gs before hval0 hW hSh hL
  have hval : ∀ (j : Nat) t v, Tryz.f3.params[j]? = some t → args[j]? = some v → Value.okWide Tryz.prog W .any base t v := hval0
  have hW' := hW
  obtain ⟨p, q, hA0, hV0, rfl, hfz, hnd⟩ := hW
  have hA : DataW.TrodAll enc Tryz.prog W 0 (fun _ => true) true Tryz.f3.params.toList args.toList ds p := hA0
  have hV : DataW.TrodVars enc Tryz.prog W (fun _ => true) ["loop.example/g00335/impl.stForms", "loop.example/g00335/impl.exForms", "loop.example/g00335/impl.stSorts", "loop.example/g00335/impl.exSorts"] gs q := hV0
  rw [Tryz.params3] at hA hval
  obtain ⟨v0, vs0, d0, ds0, p0, q0, hargs, rfl, rfl, h0, r0⟩ := trodAll_cons hA
  obtain ⟨rfl, rfl, rfl⟩ := trodAll_nil r0
  obtain rfl : args = #[v0] := by cases args; simp_all
  have hS := tabs_of_laid hL hSh
  have hVk := hV
  obtain ⟨gd1, gd2, gd3, gd4, rfl⟩ : ∃ gd1 gd2 gd3 gd4, gs = [gd1, gd2, gd3, gd4] := by
    cases gs with
    | nil => exact hV.elim
    | cons gd1 gr0 =>
      obtain ⟨_, _, _, _, _, _, _, _, _, _, hn0, _⟩ := hV
      cases gr0 with
      | nil => exact hn0.elim
      | cons gd2 gr1 =>
        obtain ⟨_, _, _, _, _, _, _, _, _, _, hn1, _⟩ := hn0
        cases gr1 with
        | nil => exact hn1.elim
        | cons gd3 gr2 =>
          obtain ⟨_, _, _, _, _, _, _, _, _, _, hn2, _⟩ := hn1
          cases gr2 with
          | nil => exact hn2.elim
          | cons gd4 gr3 =>
            obtain ⟨_, _, _, _, _, _, _, _, _, _, hn3, _⟩ := hn2
            cases gr3 with
            | nil => exact ⟨gd1, gd2, gd3, gd4, rfl⟩
            | cons _ _ => exact hn3.elim
  have k0 := h0
  have lt0 : ∀ x ∈ p0, x.block < W.heap.size := by obtain ⟨m, hm⟩ := k0; exact DataW.trod_lt m _ _ _ hm
  obtain ⟨a0, n0, c0, rfl⟩ := okWide_slice Tryz.underlying22 (hval 0 22 v0 rfl rfl)
  clear hA0 hV0 hval0
  refine (rules_walk a0 n0 c0 W hS).mono fun e W' ⟨he, bel⟩ => ?_
  subst he
  exact ⟨_, rfl, _, _, _, [], _, _, hW', trodAll_mk1 (shut_bool Tryz.underlying4 _), (trodAll_cons_mk (Below.trod laidOut (by kernel_rfl) (of_decide_eq_true (by kernel_rfl)) k0 bel lt0) trodAll_mk0), Below.trodVars laidOut bel (by kernel_rfl) hVk, bel.frame _, fun h => by cases h⟩

theorem and_t {a b : Bool} (h : a = true) (k : b = true) : (a && b) = true := by rw [h, k]; rfl
set_option maxHeartbeats 4000000 in
theorem closed : joinedFacts Tryz.pinned.checked.prog 3 Tryz.f3 Rows.fnRulesSpec Rows.fnRulesRow = true := by
  unfold joinedFacts
  repeat' (with_reducible refine and_t ?_ ?_)
  all_goals as_aux_lemma => kernel_rfl
theorem over : Rows.FnRulesSaid :=
  OpenClaim.holds_of_wide 3 Tryz.f3 rfl rfl rfl rfl rfl rfl rfl ⟨rfl, rfl, rfl, rfl, rfl⟩ rfl rfl rfl rfl rfl (by kernel_rfl) Tryz.func3 closed
    (of_decide_eq_true (by kernel_rfl)) (by unfold Func.isWrapper; first | (rw [if_pos (by decide +kernel)]; kernel_rfl) | (rw [if_neg (by decide +kernel)]; exact ⟨rfl, rfl⟩))
    (fun os started H enc _ => lifted os started H enc)

theorem stand (j : Nat) (t : TypeId) (ht : #[22][j]? = some t) : Tryz.prog.wantsStandIn t = false := by
  have h : t ∈ [22] := List.mem_of_getElem? (i := j) (by simpa using ht)
  simp only [List.mem_cons, List.not_mem_nil, or_false] at h
  rcases h with rfl
  · exact (show Tryz.prog.wantsStandIn 22 = false by kernel_rfl)
end Go.Proofs.YtajnfknldofjlaaGreatDoor.fnRules
namespace Go.Proofs.YtajnfknldofjlaaGreatDoor
theorem fnRules_card : Rows.FnRulesCardSaid :=
  Claim7.holds_tied_plain_at .later [] [.data, .data, .data, .sentinel, .sentinel, .listed, .data, .wider, .wider, .data, .data] true (true, "d7c70776fb187b3e0ed23c428d1b71e82dfd4a78c6c3dab1a5d80c49108131fa") true
    fnRules.over (fun _ h => by cases h) (by kernel_rfl) (fun _ h => by cases h) fnRules_row_tie rfl ⟨rfl, rfl⟩ (by kernel_rfl) rfl
    (fun f fn hf hfn => by
      obtain rfl : f = 3 := Option.some.inj ((show Tryz.prog.funcNamed "loop.example/g00335/laws.FnRules" = some 3 by kernel_rfl).symm.trans hf) |>.symm
      obtain rfl : fn = Tryz.f3 := (Option.some.inj (Tryz.func3.symm.trans hfn)).symm
      exact ⟨by kernel_rfl, fun j t ht => by
        rw [Tryz.params3] at ht
        exact fnRules.stand j t ht⟩)
    (by kernel_rfl)
#print axioms fnRules_card
end Go.Proofs.YtajnfknldofjlaaGreatDoor

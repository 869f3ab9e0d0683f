/- WorldOk answers as the specification at every world; it writes into no argument, the same behind another call. Condition: the tables of the program and of the standard library that it reads hold what their text lays. -/
import Derived.Test.YtegkhlkjfeafjaaGreatDoorRows
import Derived.Test.YtegkhlkjfeafjaaGreatDoorCards
import Derived.Test.YtegkhlkjfeafjaaGreatDoorTie
import Derived.Test.YtegkhlkjfeafjaaGreatDoorWorldLaw
import Derived.Test.YtegkhlkjfeafjaaGreatDoorPackU
import Derived.WalkKit
import Derived.ProofKit
import Derived.OpenShut
import Derived.ChangeOld
import Derived.Below
import Derived.SevenTiedAt
import Derived.OpenVars
namespace Go.Proofs.YtegkhlkjfeafjaaGreatDoor.fnExactWorldOk
set_option maxHeartbeats 4000000
open Go.ChangeShapes Go.WideShapes Go.ChangeAt Go.RowKit
set_option linter.unusedVariables false
theorem own:ownKnob Tryz.prog.godebug=none:=by kernel_rfl
theorem uM:laidOutB Tryz.prog=true:=by kernel_rfl
set_option maxRecDepth 100000 in
theorem aKs (os:Os)(started:os.Started)(H:Type)(enc:TypeId × Value->H):
  ReturnsInHanded {} Tryz.checked os 3 .any (fun w args=>(Rows.fnExactWorldOkSpec.pre enc Tryz.prog Tryz.f3 [] false w args/\laidMetH Tryz.prog zD w)/\sizedMet enc Tryz.prog Tryz.f3 (OpenSpec.ofChange Rows.fnExactWorldOkSpec) false w args)
   (Rows.fnExactWorldOkSpec.post enc Tryz.prog Tryz.f3 false true false false):=by
 refine returnsInHanded_of_change_and (C:=Tryz.checked) (X:=fun w _=>laidMetH Tryz.prog zD w) (fun _ _ _ hh h=>h.of_heap hh) own started V0 Tryz.func3
  (ChangeSpec.witness_shaped (enc:=enc) (C:=Tryz.checked) (os:=os) (X:=fun w _=>laidMetH Tryz.prog zD w) false (World.doorLaid Tryz.prog 4000 os) #[.agg #[.slice none 0 0,.slice none 0 0,.slice none 0 0]] 8 rfl (World.shaped_of_RefB V0 V0) V0 V0 V0 (aFj os _)) ?_
 intro W base args ds gs before hval0 hW _ _ hL _
 have hval:∀(j:Nat) t v,Tryz.f3.params[j]?=some t->args[j]?=some v->Value.okWide Tryz.prog W .any base t v:=hval0
 have hW':=hW;obtain⟨p,q,hA0,hV0,rfl,hfz,hnd⟩:=hW
 have hA:DataW.TrodAll enc Tryz.prog W 0 (fun _=>true) true Tryz.f3.params.toList args.toList ds p:=hA0
 have hV : DataW.TrodVars enc Tryz.prog W (fun _ => true) ["loop.example/g00335/impl.stForms", "loop.example/g00335/impl.exForms", "loop.example/g00335/impl.stSorts", "loop.example/g00335/impl.exSorts"] gs q := hV0
 rw[Tryz.params3]at hA hval;obtain⟨v0,vs0,d0,ds0,p0,q0,hargs,rfl,rfl,h0,r0⟩:=trodAll_cons hA;obtain⟨rfl,rfl,rfl⟩:=trodAll_nil r0
 obtain rfl:args=#[v0]:=by cases args;simp_all
 have hS:=rY hL;have hVk:=hV
 obtain⟨gd1,gd2,gd3,gd4,rfl⟩:∃gd1 gd2 gd3 gd4,gs=[gd1,gd2,gd3,gd4]:=by
  cases gs with
  | nil=>exact hV.elim
  | cons gd1 gr0=>
   obtain⟨_,_,_,_,_,_,_,_,_,_,hn0,_⟩:=hV
   cases gr0 with
   | nil=>exact hn0.elim
   | cons gd2 gr1=>
    obtain⟨_,_,_,_,_,_,_,_,_,_,hn1,_⟩:=hn0
    cases gr1 with
    | nil=>exact hn1.elim
    | cons gd3 gr2=>
     obtain⟨_,_,_,_,_,_,_,_,_,_,hn2,_⟩:=hn1
     cases gr2 with
     | nil=>exact hn2.elim
     | cons gd4 gr3=>
      obtain⟨_,_,_,_,_,_,_,_,_,_,hn3,_⟩:=hn2
      cases gr3 with
      | nil=>exact⟨gd1,gd2,gd3,gd4,rfl⟩
      | cons _ _=>exact hn3.elim
 have k0:=h0
 have lt0:∀x ∈ p0,x.block<W.heap.size:=by obtain⟨m,hm⟩:=k0;exact DataW.trod_lt m _ _ _ hm
 obtain⟨x0,vs0',rfl,u0⟩:=aPo (hval 0 26 v0 rfl rfl) h0;clear hA0 hV0 hval0
 refine(aOr x0 vs0' W ⟨hS,(lI hL).1,(lI hL).2⟩ u0).mono fun e W' ⟨he,bel⟩=>?_
 subst he
 exact⟨_,rfl,_,_,_,[],_,_,hW',trodAll_mk1 (shut_bool Tryz.underlying4 _),(trodAll_cons_mk (Below.trod uM V0 (of_decide_eq_true V0) k0 bel lt0) trodAll_mk0),Below.trodVars uM bel V0 hVk,bel.frame _,fun h=>by cases h⟩
theorem aRv {a b:Bool}(h:a=true)(k:b=true):(a && b)=true:=by rw[h,k];rfl
theorem closed:joinedFacts Tryz.pinned.checked.prog 3 Tryz.f3 Rows.fnExactWorldOkSpec Rows.fnExactWorldOkRow=true:=by
 unfold joinedFacts
 repeat' (with_reducible refine aRv ?_ ?_)
 all_goals as_aux_lemma=>kernel_rfl
theorem over:Rows.FnExactWorldOkSaid:=
 OpenClaim.holds_of_wide 3 Tryz.f3 rfl rfl rfl rfl rfl rfl rfl ⟨rfl,rfl,rfl,rfl,rfl⟩ rfl rfl rfl rfl rfl V0 Tryz.func3 closed
  (of_decide_eq_true V0) (by unfold Func.isWrapper;first|(rw[if_pos (by decide +kernel)];kernel_rfl)|(rw[if_neg (by decide +kernel)];exact⟨rfl,rfl⟩))
  (fun os started H enc _=>aKs os started H enc)
theorem stand (j:Nat)(t:TypeId)(ht:#[26][j]?=some t):Tryz.prog.wantsStandIn t=false:=by
 have h:t ∈ [26]:=zA3 (i:=j) (by simpa using ht)
 simp only[zH0,List.not_mem_nil,or_false]at h
 rcases h with rfl
 .
  exact(show Tryz.prog.wantsStandIn 26=false by kernel_rfl)
end Go.Proofs.YtegkhlkjfeafjaaGreatDoor.fnExactWorldOk
namespace Go.Proofs.YtegkhlkjfeafjaaGreatDoor
theorem fnExactWorldOk_card:Rows.FnExactWorldOkCardSaid:=
 Claim7.holds_tied_plain_at .later [] [.data, .data, .data, .listed, .data, .wider, .wider, .data, .data] true (true, "eda834b4b867c1792c7b010d22b6ff812aade1ce807ce559d68dbe8ef32afa32") false
  fnExactWorldOk.over (fun _ h=>by cases h) V0 (fun _ h=>by cases h) fnExactWorldOk_row_tie rfl ⟨rfl,rfl⟩ V0 rfl
  (fun f fn hf hfn=>by
   obtain rfl : f = 3 := Option.some.inj ((show Tryz.prog.funcNamed "loop.example/g00335/laws.FnExactWorldOk" = some 3 by kernel_rfl).symm.trans hf) |>.symm
   obtain rfl:fn=Tryz.f3:=(Option.some.inj (Tryz.func3.symm.trans hfn)).symm
   exact⟨by kernel_rfl,fun j t ht=>by
    rw[Tryz.params3]at ht
    exact fnExactWorldOk.stand j t ht⟩)
  V0
#print axioms fnExactWorldOk_card
end Go.Proofs.YtegkhlkjfeafjaaGreatDoor

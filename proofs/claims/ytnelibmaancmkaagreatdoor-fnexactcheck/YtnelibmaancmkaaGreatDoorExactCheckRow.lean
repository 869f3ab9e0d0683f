/- Check answers as the specification at every module and all faces; it writes into no argument, the same behind another call. Condition: the tables of the program and of the standard library that it reads hold what their text lays. -/
import Derived.Test.YtnelibmaancmkaaGreatDoorRows
import Derived.Test.YtnelibmaancmkaaGreatDoorCards
import Derived.Test.YtnelibmaancmkaaGreatDoorTie
import Derived.Test.YtnelibmaancmkaaGreatDoorPackR
import Derived.Test.YtnelibmaancmkaaGreatDoorPackS
import Derived.WalkKit
import Derived.ProofKit
import Derived.OpenShut
import Derived.ChangeOld
import Derived.Below
import Derived.SevenTiedAt
import Derived.OpenVars
namespace Go.Proofs.YtnelibmaancmkaaGreatDoor.fnExactCheck
open Go.ChangeShapes Go.WideShapes Go.ChangeAt Go.RowKit
set_option linter.unusedVariables false
theorem own:ownKnob Tryz.prog.godebug=none:=by kernel_rfl
theorem uM:laidOutB Tryz.prog=true:=by kernel_rfl
set_option maxRecDepth 100000 in
set_option maxHeartbeats 4000000 in
theorem aKs (os:Os)(started:os.Started)(H:Type)(enc:TypeId × Value->H):
  ReturnsInHanded {} Tryz.checked os 3 .any (fun w args=>(Rows.fnExactCheckSpec.pre enc Tryz.prog Tryz.f3 [] false w args/\laidMetH Tryz.prog zD w)/\sizedMet enc Tryz.prog Tryz.f3 (OpenSpec.ofChange Rows.fnExactCheckSpec) false w args)
   (Rows.fnExactCheckSpec.post enc Tryz.prog Tryz.f3 false true false false):=by
 refine returnsInHanded_of_change_and (C:=Tryz.checked) (X:=fun w _=>laidMetH Tryz.prog zD w) (fun _ _ _ hh h=>h.of_heap hh) own started V0 Tryz.func3
  (ChangeSpec.witness_shaped (enc:=enc) (C:=Tryz.checked) (os:=os) (X:=fun w _=>laidMetH Tryz.prog zD w) false (World.doorLaid Tryz.prog 4000 os) #[.agg #[.slice none 0 0,.slice none 0 0,.slice none 0 0,.slice none 0 0],.slice none 0 0] 8 rfl (World.shaped_of_RefB V0 V0) V0 V0 V0 (aFj os _)) ?_
 intro W base args ds gs before hval0 hW _ _ hL _
 have hval:∀(j:Nat) t v,Tryz.f3.params[j]?=some t->args[j]?=some v->Value.okWide Tryz.prog W .any base t v:=hval0
 have hW':=hW;obtain⟨p,q,hA0,hV0,rfl,hfz,hnd⟩:=hW
 have hA:DataW.TrodAll enc Tryz.prog W 0 (fun _=>true) true Tryz.f3.params.toList args.toList ds p:=hA0
 have hV : DataW.TrodVars enc Tryz.prog W (fun _ => true) ["loop.example/g00335/impl.stForms", "loop.example/g00335/impl.exForms", "loop.example/g00335/impl.stSorts", "loop.example/g00335/impl.exSorts"] gs q := hV0
 rw[Tryz.params3]at hA hval;obtain⟨v0,vs0,d0,ds0,p0,q0,hargs,rfl,rfl,h0,r0⟩:=trodAll_cons hA;obtain⟨v1,vs1,d1,ds1,p1,q1,rfl,rfl,rfl,h1,r1⟩:=trodAll_cons r0;obtain⟨rfl,rfl,rfl⟩:=trodAll_nil r1
 obtain rfl:args=#[v0,v1]:=by cases args;simp_all
 have hS:=rY hL;have hVk:=hV
 obtain⟨gd1,gd2,gd3,gd4,rfl⟩:∃gd1 gd2 gd3 gd4,gs=[gd1,gd2,gd3,gd4]:=by
  cases gs with
  | nil=>exact hV.elim
  | cons gd1 gr0=>
   obtain⟨_,_,_,_,_,_,_,_,_,_,hn0,_⟩:=hV
   cases gr0 with
   | nil=>exact hn0.elim
   | cons gd2 gr1=>
    obtain⟨_,_,_,_,_,_,_,_,_,_,hn1,_⟩:=hn0
    cases gr1 with
    | nil=>exact hn1.elim
    | cons gd3 gr2=>
     obtain⟨_,_,_,_,_,_,_,_,_,_,hn2,_⟩:=hn1
     cases gr2 with
     | nil=>exact hn2.elim
     | cons gd4 gr3=>
      obtain⟨_,_,_,_,_,_,_,_,_,_,hn3,_⟩:=hn2
      cases gr3 with
      | nil=>exact⟨gd1,gd2,gd3,gd4,rfl⟩
      | cons _ _=>exact hn3.elim
 have k0:=h0
 have lt0:∀x ∈ p0,x.block<W.heap.size:=by obtain⟨m,hm⟩:=k0;exact DataW.trod_lt m _ _ _ hm
 obtain⟨x0,vs0',rfl,u0⟩:=uG (hval 0 27 v0 rfl rfl) h0;have k1:=h1
 have lt1:∀x ∈ p1,x.block<W.heap.size:=by obtain⟨m,hm⟩:=k1;exact DataW.trod_lt m _ _ _ hm
 obtain⟨x1,u1⟩:=yY (hval 1 28 v1 rfl rfl) h1;clear hA0 hV0 hval0
 refine(aAj x0 vs0' x1 v1 W hS (lI hL).1 (lI hL).2 u0 u1).mono fun e W' ⟨he,bel⟩=>?_
 subst he
 exact⟨_,rfl,_,_,_,[],_,_,hW',trodAll_mk1 (shut_bool Tryz.underlying4 _),(trodAll_cons_mk (Below.trod uM V0 (of_decide_eq_true V0) k0 bel lt0) (trodAll_cons_mk (Below.trod uM V0 (of_decide_eq_true V0) k1 bel lt1) trodAll_mk0)),Below.trodVars uM bel V0 hVk,bel.frame _,fun h=>by cases h⟩
theorem over:Rows.FnExactCheckSaid:=
 OpenClaim.holds_of_wide 3 Tryz.f3 rfl rfl rfl rfl rfl rfl rfl ⟨rfl,rfl,rfl,rfl,rfl⟩ rfl rfl rfl rfl rfl V0 Tryz.func3 V0
  (of_decide_eq_true V0) (by unfold Func.isWrapper;first|(rw[if_pos (by decide +kernel)];kernel_rfl)|(rw[if_neg (by decide +kernel)];exact⟨rfl,rfl⟩))
  (fun os started H enc _=>aKs os started H enc)
theorem stand (j:Nat)(t:TypeId)(ht:#[27,28][j]?=some t):Tryz.prog.wantsStandIn t=false:=by
 have h:t ∈ [27,28]:=List.mem_of_getElem? (i:=j) (by simpa using ht)
 simp only[List.mem_cons,List.not_mem_nil,or_false]at h
 rcases h with rfl|rfl
 .
  exact(show Tryz.prog.wantsStandIn 27=false by kernel_rfl)
 .
  exact(show Tryz.prog.wantsStandIn 28=false by kernel_rfl)
end Go.Proofs.YtnelibmaancmkaaGreatDoor.fnExactCheck
namespace Go.Proofs.YtnelibmaancmkaaGreatDoor
theorem fnExactCheck_card:Rows.FnExactCheckCardSaid:=
 Claim7.holds_tied_plain_at .later [] [.data, .data, .data, .listed, .data, .wider, .wider, .data, .data] true (true, "97a77f1f1cf3f5d25393cb73bf7164f6cede125b41981a43471dd3c162c37707") false
  fnExactCheck.over (fun _ h=>by cases h) V0 (fun _ h=>by cases h) fnExactCheck_row_tie rfl ⟨rfl,rfl⟩ V0 rfl
  (fun f fn hf hfn=>by
   obtain rfl : f = 3 := Option.some.inj ((show Tryz.prog.funcNamed "loop.example/g00335/laws.FnExactCheck" = some 3 by kernel_rfl).symm.trans hf) |>.symm
   obtain rfl:fn=Tryz.f3:=(Option.some.inj (Tryz.func3.symm.trans hfn)).symm
   exact⟨by kernel_rfl,fun j t ht=>by
    rw[Tryz.params3]at ht
    exact fnExactCheck.stand j t ht⟩)
  V0
#print axioms fnExactCheck_card
end Go.Proofs.YtnelibmaancmkaaGreatDoor

/- FnFaces: the row and the tied card. -/
import Derived.Test.YtffphdacgblaoaaGreatDoorRows
import Derived.Test.YtffphdacgblaoaaGreatDoorCards
import Derived.Test.YtffphdacgblaoaaGreatDoorTie
import Derived.Test.YtffphdacgblaoaaGreatDoorEkL
import Derived.Test.YtffphdacgblaoaaGreatDoorPackU
import Derived.WalkKit
import Derived.ProofKit
import Derived.OpenShut
import Derived.ChangeOld
import Derived.Below
import Derived.SevenTiedAt
import Derived.OpenVars
namespace Go.Proofs.YtffphdacgblaoaaGreatDoor.fnFaces
set_option maxHeartbeats 4000000
open Go.ChangeShapes Go.WideShapes Go.ChangeAt Go.RowKit
set_option linter.unusedVariables false
theorem own:ownKnob Tryz.prog.godebug=none:=by kernel_rfl
theorem aFa:laidOutB Tryz.prog=true:=by kernel_rfl
set_option maxRecDepth 100000 in
theorem aOo (os:Os)(started:os.Started)(H:Type)(enc:TypeId × Value->H):
  ReturnsInHanded {} Tryz.checked os 3 .any (fun w args=>(Rows.fnFacesSpec.pre enc Tryz.prog Tryz.f3 [] false w args/\laidMetH Tryz.prog aCq w)/\sizedMet enc Tryz.prog Tryz.f3 (OpenSpec.ofChange Rows.fnFacesSpec) false w args)
   (Rows.fnFacesSpec.post enc Tryz.prog Tryz.f3 false true false false):=by
 refine returnsInHanded_of_change_and (C:=Tryz.checked) (X:=fun w _=>laidMetH Tryz.prog aCq w) (fun _ _ _ hh h=>h.of_heap hh) own started Q1 Tryz.func3
  (ChangeSpec.witness_shaped (enc:=enc) (C:=Tryz.checked) (os:=os) (X:=fun w _=>laidMetH Tryz.prog aCq w) false (World.doorLaid Tryz.prog 4000 os) #[.slice none 0 0] 8 rfl (World.shaped_of_RefB Q1 Q1) Q1 Q1 Q1 (aI5 os _)) ?_
 intro W base args ds gs before hval0 hW _ _ hL _
 have hval:∀(j:Nat) t v,Tryz.f3.params[j]?=some t->args[j]?=some v->Value.okWide Tryz.prog W .any base t v:=hval0
 have hW':=hW;obtain⟨p,q,hA0,hV0,rfl,hfz,hnd⟩:=hW
 have hA:DataW.TrodAll enc Tryz.prog W 0 (fun _=>true) true Tryz.f3.params.toList args.toList ds p:=hA0
 have hV : DataW.TrodVars enc Tryz.prog W (fun _ => true) ["loop.example/g00335/impl.stForms", "loop.example/g00335/impl.exForms", "loop.example/g00335/impl.stSorts", "loop.example/g00335/impl.exSorts"] gs q := hV0
 rw[Tryz.params3]at hA hval;obtain⟨v0,vs0,d0,ds0,p0,q0,hargs,rfl,rfl,h0,r0⟩:=trodAll_cons hA;obtain⟨rfl,rfl,rfl⟩:=trodAll_nil r0
 obtain rfl:args=#[v0]:=by cases args;simp_all
 have hS:=uB hL;have hVk:=hV
 obtain⟨gd1,gd2,gd3,gd4,rfl⟩:∃gd1 gd2 gd3 gd4,gs=[gd1,gd2,gd3,gd4]:=by
  cases gs with
  | nil=>exact hV.elim
  | cons gd1 gr0=>
   obtain⟨_,_,_,_,_,_,_,_,_,_,hn0,_⟩:=hV
   cases gr0 with
   | nil=>exact hn0.elim
   | cons gd2 gr1=>
    obtain⟨_,_,_,_,_,_,_,_,_,_,hn1,_⟩:=hn0
    cases gr1 with
    | nil=>exact hn1.elim
    | cons gd3 gr2=>
     obtain⟨_,_,_,_,_,_,_,_,_,_,hn2,_⟩:=hn1
     cases gr2 with
     | nil=>exact hn2.elim
     | cons gd4 gr3=>
      obtain⟨_,_,_,_,_,_,_,_,_,_,hn3,_⟩:=hn2
      cases gr3 with
      | nil=>exact⟨gd1,gd2,gd3,gd4,rfl⟩
      | cons _ _=>exact hn3.elim
 have k0:=h0
 have lt0:∀x ∈ p0,x.block<W.heap.size:=by obtain⟨m,hm⟩:=k0;exact DataW.trod_lt m _ _ _ hm
 obtain⟨a0,n0,c0,zs0,rfl,f0⟩:=aCh (hval 0 22 v0 rfl rfl) h0;clear hA0 hV0 hval0
 refine(aC7 a0 n0 c0 (zs0.take n0) W ⟨hS,(mG hL).1,(mG hL).2⟩ (aGy.row f0).1 (by have h9:=(aGy.row f0).2;unfold maxLen at h9;omega)).mono fun e W' ⟨he,bel⟩=>?_
 subst he
 exact⟨_,rfl,_,_,_,[],_,_,hW',trodAll_mk1 (shut_bool Tryz.underlying4 _),(trodAll_cons_mk (Below.trod aFa Q1 (of_decide_eq_true Q1) k0 bel lt0) trodAll_mk0),Below.trodVars aFa bel Q1 hVk,bel.frame _,fun h=>by cases h⟩
theorem aRz {a b:Bool}(h:a=true)(k:b=true):(a && b)=true:=by rw[h,k];rfl
theorem closed:joinedFacts Tryz.pinned.checked.prog 3 Tryz.f3 Rows.fnFacesSpec Rows.fnFacesRow=true:=by
 unfold joinedFacts
 repeat' (with_reducible refine aRz ?_ ?_)
 all_goals as_aux_lemma=>kernel_rfl
theorem over:Rows.FnFacesSaid:=
 OpenClaim.holds_of_wide 3 Tryz.f3 rfl rfl rfl rfl rfl rfl rfl ⟨rfl,rfl,rfl,rfl,rfl⟩ rfl rfl rfl rfl rfl Q1 Tryz.func3 closed
  (of_decide_eq_true Q1) (by unfold Func.isWrapper;first|(rw[if_pos (by decide +kernel)];kernel_rfl)|(rw[if_neg (by decide +kernel)];exact⟨rfl,rfl⟩))
  (fun os started H enc _=>aOo os started H enc)
theorem stand (j:Nat)(t:TypeId)(ht:#[22][j]?=some t):Tryz.prog.wantsStandIn t=false:=by
 have h:t ∈ [22]:=zA3 (i:=j) (by simpa using ht)
 simp only[zG3,List.not_mem_nil,or_false]at h
 rcases h with rfl
 .
  exact(show Tryz.prog.wantsStandIn 22=false by kernel_rfl)
end Go.Proofs.YtffphdacgblaoaaGreatDoor.fnFaces
namespace Go.Proofs.YtffphdacgblaoaaGreatDoor
theorem fnFaces_card:Rows.FnFacesCardSaid:=
 Claim7.holds_tied_plain_at .later [] [.data, .data, .data, .listed, .data, .wider, .wider, .data, .data] true (true, "e5f09cfb7d26c8ce86fe4dad43e828e2a01008407fa512eec4625a23a2c889ed") false
  fnFaces.over (fun _ h=>by cases h) Q1 (fun _ h=>by cases h) fnFaces_row_tie rfl ⟨rfl,rfl⟩ Q1 rfl
  (fun f fn hf hfn=>by
   obtain rfl : f = 3 := Option.some.inj ((show Tryz.prog.funcNamed "loop.example/g00335/laws.FnFaces" = some 3 by kernel_rfl).symm.trans hf) |>.symm
   obtain rfl:fn=Tryz.f3:=(Option.some.inj (Tryz.func3.symm.trans hfn)).symm
   exact⟨by kernel_rfl,fun j t ht=>by
    rw[Tryz.params3]at ht
    exact fnFaces.stand j t ht⟩)
  Q1
#print axioms fnFaces_card
end Go.Proofs.YtffphdacgblaoaaGreatDoor

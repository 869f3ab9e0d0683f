/- FnMismatch: of any list of bytes, drawn objects that Link does not call well are refused by Run; where they are well and one of them has imports, turning the fingerprint of an import of the first such one makes Link answer that it is missing, and Run refuse. The row and the tied card: the program's package variables are as its start lays them. -/
import Derived.Test.YtcbhdhmhidpdgaaGreatDoorRows
import Derived.Test.YtcbhdhmhidpdgaaGreatDoorCards
import Derived.Test.YtcbhdhmhidpdgaaGreatDoorTie
import Derived.Test.YtcbhdhmhidpdgaaGreatDoorLnMismatch
import Derived.Test.YtcbhdhmhidpdgaaGreatDoorLaidFour
import Derived.WalkKit
import Derived.ProofKit
import Derived.OpenShut
import Derived.ChangeOld
import Derived.Below
import Derived.SevenTiedAt
import Derived.OpenVars
namespace Go.Proofs.YtcbhdhmhidpdgaaGreatDoor.fnMismatch
set_option maxHeartbeats 4000000
open Go.ChangeShapes Go.WideShapes Go.ChangeAt Go.RowKit
set_option linter.unusedVariables false
theorem own:ownKnob Tryz.prog.godebug=none:=by kernel_rfl
theorem aDt:laidOutB Tryz.prog=true:=by kernel_rfl
set_option maxRecDepth 100000 in
theorem aOi (os:Os)(started:os.Started)(H:Type)(enc:TypeId × Value->H):
  ReturnsInHanded {} Tryz.checked os 3 .any (fun w args=>(Rows.fnMismatchSpec.pre enc Tryz.prog Tryz.f3 [] false w args/\laidMetH Tryz.prog aG2 w)/\sizedMet enc Tryz.prog Tryz.f3 (OpenSpec.ofChange Rows.fnMismatchSpec) false w args)
   (Rows.fnMismatchSpec.post enc Tryz.prog Tryz.f3 false true false false):=by
 refine returnsInHanded_of_change_and (C:=Tryz.checked) (X:=fun w _=>laidMetH Tryz.prog aG2 w) (fun _ _ _ hh h=>h.of_heap hh) own started A1 Tryz.func3
  (ChangeSpec.witness_shaped (enc:=enc) (C:=Tryz.checked) (os:=os) (X:=fun w _=>laidMetH Tryz.prog aG2 w) false (World.doorLaid Tryz.prog 4000 os) #[.slice none 0 0] 8 rfl (World.shaped_of_RefB A1 A1) A1 A1 A1 (aIf os _)) ?_
 intro W base args ds gs before hval0 hW _ _ hL _;have hval:∀(j:Nat) t v,Tryz.f3.params[j]?=some t->args[j]?=some v->Value.okWide Tryz.prog W .any base t v:=hval0;have hW':=hW;obtain⟨p,q,hA0,hV0,rfl,hfz,hnd⟩:=hW;have hA:DataW.TrodAll enc Tryz.prog W 0 (fun _=>true) true Tryz.f3.params.toList args.toList ds p:=hA0;have hV : DataW.TrodVars enc Tryz.prog W (fun _ => true) ["loop.example/g00335/impl.errPerm", "loop.example/g00335/impl.errTag", "loop.example/g00335/impl.errBound", "loop.example/g00335/impl.opRows"] gs q := hV0
 rw[Tryz.params3]at hA hval;obtain⟨v0,vs0,d0,ds0,p0,q0,hargs,rfl,rfl,h0,r0⟩:=trodAll_cons hA;obtain⟨rfl,rfl,rfl⟩:=trodAll_nil r0;obtain rfl:args=#[v0]:=by cases args;simp_all
 have hVk:=hV;obtain⟨gd1,gd2,gd3,gd4,rfl⟩:∃gd1 gd2 gd3 gd4,gs=[gd1,gd2,gd3,gd4]:=by
  cases gs with
  | nil=>exact hV.elim| cons gd1 gr0=>
   obtain⟨_,_,_,_,_,_,_,_,_,_,hn0,_⟩:=hV;cases gr0 with
   | nil=>exact hn0.elim| cons gd2 gr1=>
    obtain⟨_,_,_,_,_,_,_,_,_,_,hn1,_⟩:=hn0;cases gr1 with
    | nil=>exact hn1.elim| cons gd3 gr2=>
     obtain⟨_,_,_,_,_,_,_,_,_,_,hn2,_⟩:=hn1;cases gr2 with
     | nil=>exact hn2.elim| cons gd4 gr3=>
      obtain⟨_,_,_,_,_,_,_,_,_,_,hn3,_⟩:=hn2;cases gr3 with
      | nil=>exact⟨gd1,gd2,gd3,gd4,rfl⟩| cons _ _=>exact hn3.elim
 have k0:=h0;have lt0:∀x ∈ p0,x.block<W.heap.size:=by obtain⟨m,hm⟩:=k0;exact DataW.trod_lt m _ _ _ hm
 obtain⟨a0,n0,c0,zs0,rfl,f0⟩:=aBd (hval 0 22 v0 rfl rfl) h0;clear hA0 hV0 hval0;refine(rR a0 n0 c0 (zs0.take n0) W (aFo.row f0).1 (by have h9:=(aFo.row f0).2;unfold maxLen at h9;omega)).mono fun e W' ⟨he,bel⟩=>?_;subst he;exact⟨_,rfl,_,_,_,[],_,_,hW',trodAll_mk1 (shut_bool Tryz.underlying4 _),(trodAll_cons_mk (Below.trod aDt A1 (of_decide_eq_true A1) k0 bel lt0) trodAll_mk0),Below.trodVars aDt bel A1 hVk,bel.frame _,fun h=>by cases h⟩
theorem aTs {a b:Bool}(h:a=true)(k:b=true):(a && b)=true:=by rw[h,k];rfl
theorem closed:joinedFacts Tryz.pinned.checked.prog 3 Tryz.f3 Rows.fnMismatchSpec Rows.fnMismatchRow=true:=by
 unfold joinedFacts
 repeat' (with_reducible refine aTs ?_ ?_)
 all_goals as_aux_lemma=>kernel_rfl
theorem over:Rows.FnMismatchSaid:=
 OpenClaim.holds_of_wide 3 Tryz.f3 rfl rfl rfl rfl rfl rfl rfl ⟨rfl,rfl,rfl,rfl,rfl⟩ rfl rfl rfl rfl rfl A1 Tryz.func3 closed
  (of_decide_eq_true A1) (by unfold Func.isWrapper;first|(rw[if_pos (by decide +kernel)];kernel_rfl)|(rw[if_neg (by decide +kernel)];exact⟨rfl,rfl⟩))
  (fun os started H enc _=>aOi os started H enc)
theorem stand (j:Nat)(t:TypeId)(ht:#[22][j]?=some t):Tryz.prog.wantsStandIn t=false:=by
 have h:t ∈ [22]:=zA3 (i:=j) (by simpa using ht);simp only[zG3,List.not_mem_nil,or_false]at h;rcases h with rfl
 .
  exact(show Tryz.prog.wantsStandIn 22=false by kernel_rfl)
end Go.Proofs.YtcbhdhmhidpdgaaGreatDoor.fnMismatch
namespace Go.Proofs.YtcbhdhmhidpdgaaGreatDoor
theorem fnMismatch_card:Rows.FnMismatchCardSaid:=
 Claim7.holds_tied_plain_at .later [] [.sentinel, .sentinel, .sentinel, .data] true (true, "143fdc6c63f9b1decb6e6fcb40863581bc02f1229e8b6dd72c2df750ff351d15") true
  fnMismatch.over (fun _ h=>by cases h) A1 (fun _ h=>by cases h) fnMismatch_row_tie rfl ⟨rfl,rfl⟩ A1 rfl
  (fun f fn hf hfn=>by
   obtain rfl : f = 3 := Option.some.inj ((show Tryz.prog.funcNamed "loop.example/g00335/laws.FnMismatch" = some 3 by kernel_rfl).symm.trans hf) |>.symm
   obtain rfl:fn=Tryz.f3:=(Option.some.inj (Tryz.func3.symm.trans hfn)).symm;exact⟨by kernel_rfl,fun j t ht=>by
    rw[Tryz.params3]at ht;exact fnMismatch.stand j t ht⟩)
  A1
#print axioms fnMismatch_card
end Go.Proofs.YtcbhdhmhidpdgaaGreatDoor

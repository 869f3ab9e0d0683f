import Derived.Test.YtcbhdhmhidpdgaaGreatDoorPackA
import Derived.ProofKit
import Derived.LaidMore
import Derived.OpenShut
import Derived.OpenVars
import Derived.ChangeVars
import Derived.LaidLaws
namespace Go.Proofs.YtcbhdhmhidpdgaaGreatDoor
open Go.ChangeShapes Go.WideShapes Go.ChangeAt Go.RowKit
set_option linter.unusedVariables false
set_option maxRecDepth 100000
theorem A4{p:Prop}(h:p:=by kernel_rfl):p:=h
def aG2:List (String × DataW Unit):=Rows.fnMismatchRow.laid
theorem aIf (os:Os)(args:Array Value):laidMetH Tryz.prog aG2 ((World.doorLaid Tryz.prog 4000 os).forCall (fun _ _=>0) ⟨#[],args,[]⟩).memory:=
 laidMetH_of_parts3 (fuel:=8) (laidMet_of_run' 8 A4 A4) A4 A4
theorem aBd {H:Type}{enc:TypeId × Value->H}{w:World}{b0:Nat}{v:Value}{d:DataW H}{ps:List MemPlace}
  (hv:Value.okWide Tryz.prog w .any b0 22 v) (h:DataW.Trod enc Tryz.prog w 0 (fun _=>true) true 22 v d ps):∃a n c zs,v=.slice a n c/\aFo .u8 w a n c zs:=by
 obtain⟨a,n,c,rfl⟩:=okWide_slice Tryz.underlying22 hv;obtain⟨fuel,hf⟩:=h;rcases open_ints Tryz.underlying22 Tryz.underlying5 A4 hf with⟨Kl,_⟩|⟨x,l,c,zs,Kl,_,hl,hm,hz,_,As,hwz⟩
 .
  simp[Value.cells]at Kl;obtain⟨rfl,rfl,rfl⟩:=Kl;exact⟨_,_,_,[],rfl,.inl ⟨rfl,rfl,rfl,rfl⟩⟩
 .
  simp[Value.cells]at Kl;obtain⟨rfl,rfl,rfl⟩:=Kl;exact⟨_,_,_,zs,rfl,.inr ⟨_,rfl,hl,hm,by simpa using hz,As,hwz⟩⟩
end Go.Proofs.YtcbhdhmhidpdgaaGreatDoor

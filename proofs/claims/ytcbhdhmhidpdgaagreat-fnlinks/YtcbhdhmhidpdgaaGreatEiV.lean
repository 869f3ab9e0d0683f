import Derived.Test.YtcbhdhmhidpdgaaGreatPackL
namespace Go.Proofs.YtcbhdhmhidpdgaaGreat
open Go.RowKit
set_option linter.unusedVariables false
set_option maxRecDepth 100000
namespace Eg
def aUi:Con:=⟨100,true,[.rc 13,.sl .bt 0 4],.int (-1) 100,true⟩
def aUj:Con:=⟨101,true,[.rc 13,.sl .bt 0 4],.int (-1) 100,true⟩
def aUk:Con:=⟨102,true,[.rc 12,.sl .bt 0 4],.int (-1) 100,true⟩
def aUm:Con:=⟨103,true,[.rc 12,.sl .bt 0 4],.int (-1) 100,true⟩
def aVc:Con:=⟨73,true,[.rc 13],.bool,true⟩
def aUl:Con:=⟨84,true,[.sl .bt 0 4,.bool],.bool,true⟩
def aUo:Con:=⟨99,true,[.rc 4],.bool,true⟩
def aUp:Con:=⟨74,true,[.sl (.rc 4) 0 3,.sl .bt 0 4],.int (-1) 100,true⟩
def aVe:Con:=⟨72,true,[.sl (.rc 4) 0 3],.bool,true⟩
def aVd:Con:=⟨75,true,[.sl (.rc 0) 0 2,.sl .bt 0 4],.bool,true⟩
theorem aWa:ConOk aUi:=bQ (cz) A3 (show bL ⟨true,false,[0,1,2,4,5,10,22],[],[(22,.bt),(78,.rc 1)],[],24⟩ aUi Tryz.f100=true by kernel_rfl)
theorem aWb:ConOk aUj:=bQ (cz) A3 (show bL ⟨true,false,[0,1,2,4,5,10,22],[],[(22,.bt),(79,.rc 12)],[],24⟩ aUj Tryz.f101=true by kernel_rfl)
theorem aWc:ConOk aUk:=bQ (cz) A3 (show bL ⟨true,false,[0,1,2,4,5,10,22],[],[(22,.bt),(108,.rc 2)],[],24⟩ aUk Tryz.f102=true by kernel_rfl)
theorem aWg:ConOk aUm:=bQ (cz) A3 (show bL ⟨true,false,[0,1,2,4,5,10,21],[],[(22,.bt),(77,.rc 0)],[],23⟩ aUm Tryz.f103=true by kernel_rfl)
theorem aWe:ConOk aVc:=bQ (cn aWa (cn aWb (cn aWc (cn aWg (cz))))) A3 (show bL ⟨true,false,[0,1,2,3,4,5,6,7,12,35,40,53,58,103,108,139],[],[(22,.bt),(78,.rc 1),(79,.rc 12),(108,.rc 2),(77,.rc 0)],[aUi,aUj,aUk,aUm],140⟩ aVc Tryz.f73=true by kernel_rfl)
theorem aWd:ConOk aUl:=bQ (cz) A3 (show bL ⟨true,false,[0,1,4,5,6,7,8,16,20,75,85],[],[(22,.bt)],[],86⟩ aUl Tryz.f84=true by kernel_rfl)
theorem aWk:ConOk aUo:=bQ (cn aWd (cz)) A3 (show bL ⟨true,false,[0,1,2,3,4,5,15,20,40,43,60,69,93],[],[(22,.bt),(73,.rc 3),(99,.ii)],[aUl],94⟩ aUo Tryz.f99=true by kernel_rfl)
theorem aU8:ConOk aUp:=bQ (cz) A3 (show bL ⟨true,false,[0,1,4,5,9,20],[],[(22,.bt),(48,.rc 4)],[],22⟩ aUp Tryz.f74=true by kernel_rfl)
theorem aWj:ConOk aVe:=bQ (cn aWk (cn aU8 (cz))) A3 (show bL ⟨true,false,[0,2,3,6,10,29],[],[(48,.rc 4),(22,.bt)],[aUo,aUp],30⟩ aVe Tryz.f72=true by kernel_rfl)
theorem aWi:ConOk aVd:=bQ (cz) A3 (show bL ⟨true,false,[0,1,4,5,9,19],[],[(77,.rc 0),(22,.bt)],[],20⟩ aVd Tryz.f75=true by kernel_rfl)
theorem oN {c:Con}(h:ConOk c){τ:Sm}{w:World}{vs:List Value}(hT:TH τ w)(Dp:Tg τ)(hA:∀I,aCu τ w I c.args vs)(hst:c.st=true:=by rfl)(hg:bH c.args=false:=by rfl)(hc:eO c.args=false:=by rfl):
  Calls Tryz.prog c.f vs.toArray w fun e w'=>∃v,e=.returned v/\w.grownBy w' none/\∃τ' I,c.res.ok true τ' w.heap.size I v:=by
 let I:Inp:=⟨0,0,undef,undef,undef,undef,undef,undef,undef,false⟩
 refine(h τ w I vs hT (fun _=>Dp) ⟨fun e=>(by rw[hg]at e;cases e),fun e=>(by rw[hc]at e;cases e)⟩ (hA I)).mono ?_;rintro e w' ⟨v,τ',rfl,fr,_,_,hr⟩;have hK:c.K I=[]:=by unfold Con.K;rw[hg,hc];rfl
 rw[hst]at hr fr;refine⟨v,rfl,⟨fr.os,fr.tape,fr.output,fr.size,fun b hb _=>?_⟩,τ',I,hr⟩;cases e:τ b with
 | none=>exact fr.blk b hb e (by show b ∉ c.K I;rw[hK];simp)
 | some s=>exact(fr.str rfl b hb (by show τ b ≠ none;rw[e];simp)).2
end Eg
end Go.Proofs.YtcbhdhmhidpdgaaGreat

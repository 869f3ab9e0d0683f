/- FnLinks: of any list of bytes, drawn objects that Link calls well have data of their own, one piece behind the other, of whose words those with a tag are the imports' entries, each of a module that stands ahead, and the words are a memory that is well; where Link does not call them well no module is left, and the reason is one of the loading reasons. No condition but that code is bytes. -/
import Derived.Test.YtcbhdhmhidpdgaaGreatRows
import Derived.Test.YtcbhdhmhidpdgaaGreatLnLinks
import Derived.WalkKit
import Derived.ProofKit
import Derived.OpenShut
import Derived.ShutString
import Derived.ChangeOld
import Derived.Below
namespace Go.Proofs.YtcbhdhmhidpdgaaGreat.fnLinks
open Go.ChangeShapes Go.WideShapes Go.ChangeAt Go.RowKit
open Go.ChangeMaps (open_string shut_string)
set_option linter.unusedVariables false
theorem own:ownKnob Tryz.prog.godebug=none:=by kernel_rfl
theorem aL3:laidOutB Tryz.prog=true:=by kernel_rfl
def aRj (k:IntKind)(w:World)(a:Option Addr)(len cap:Nat)(zs:List Int):Prop:=
 (a=none/\len=0/\cap=0/\zs=[]) ∨
 ∃x,a=some x/\len<=cap/\cap<=maxLen/\zs.length=cap/\(∀i,i<zs.length->w.cell? (x.add i)=some (.int k (zs.getD i 0)))/\∀n ∈ zs,(Lit.int k n).wf=true
theorem aVo (a0:Option Addr)(Ue Wq:Nat)(z0:List Int)(w:World)(w0:aRj .u8 w a0 Ue Wq z0):
  Calls Tryz.prog 3 #[.slice a0 Ue Wq] w fun e w'=>e=.returned (.bool true)/\Below w.heap.size w w':=by
 intros;apply aBy <;> assumption
set_option maxRecDepth 100000 in
theorem aPf (os:Os)(Jt:os.Started)(H:Type)(enc:TypeId × Value->H):
  ReturnsInHanded {} Tryz.checked os 3 .any (Rows.fnLinksSpec.pre6 enc Tryz.prog Tryz.f3 Rows.fnLinksRow.domain false) (Rows.fnLinksSpec.post enc Tryz.prog Tryz.f3 false true false false):=by
 refine returnsInHanded_of_change (C:=Tryz.checked) own Jt A1 Tryz.func3
  (ChangeSpec.witness6 (enc:=enc) (C:=Tryz.checked) false ⟨#[],#[.slice none 0 0],[]⟩ 8 A1 A1 A1 A1) ?_
 intro W base args ds gs before hval0 hW hcnd _;have Yo:∀(j:Nat) t v,Tryz.f3.params[j]?=some t->args[j]?=some v->Value.okWide Tryz.prog W .any base t v:=hval0;have hW':=hW;obtain⟨p,q,hA0,hV,rfl,hfz,Bw⟩:=hW;have hA:DataW.TrodAll enc Tryz.prog W 0 (fun _=>true) true Tryz.f3.params.toList args.toList ds p:=hA0;rw[Tryz.params3]at hA Yo;obtain⟨v0,vs0,d0,ds0,p0,q0,hargs,rfl,rfl,h0,r0⟩:=trodAll_cons hA;obtain⟨rfl,rfl,rfl⟩:=trodAll_nil r0;obtain rfl:args=#[v0]:=by cases args;simp_all
 obtain⟨rfl,rfl⟩:=trodVars_none hV;obtain⟨a0,Ue,Wq,rfl⟩:=okWide_slice Tryz.underlying22 (Yo 0 22 v0 rfl rfl);have k0:=h0;have lt0:∀x ∈ p0,x.block<W.heap.size:=by obtain⟨m,hm⟩:=k0;exact DataW.trod_lt m _ _ _ hm
 obtain⟨z0,w0⟩:∃zs,aRj .u8 W a0 Ue Wq zs:=by
  obtain⟨fuel,hf⟩:=h0;rcases open_ints Tryz.underlying22 Tryz.underlying5 A1 hf with⟨Kv,_⟩|⟨x,l,c,zs,Kv,_,hl,hm,hz,_,Ai,hwz⟩
  .
   simp[Value.cells]at Kv;obtain⟨rfl,rfl,rfl⟩:=Kv;exact⟨[],.inl ⟨rfl,rfl,rfl,rfl⟩⟩
  .
   simp[Value.cells]at Kv;obtain⟨rfl,rfl,rfl⟩:=Kv;exact⟨zs,.inr ⟨_,rfl,hl,hm,by simpa using hz,Ai,hwz⟩⟩
 clear hA0 hval0;refine(aVo a0 Ue Wq z0 W w0).mono fun e W' ⟨he,bel⟩=>?_;subst he;exact⟨_,rfl,_,_,_,[],_,[],hW',trodAll_mk1 (shut_bool Tryz.underlying4 _),(trodAll_cons_mk (Below.trod aL3 A1 (of_decide_eq_true A1) k0 bel lt0) trodAll_mk0),rfl,bel.frame _,fun h=>by cases h⟩
theorem over:Rows.fnLinksRow.holds Tryz.pinned (OpenSpec.ofChange Rows.fnLinksSpec):=
 OpenClaim.holds_of_wide 3 Tryz.f3 rfl rfl rfl rfl rfl rfl rfl ⟨rfl,rfl,rfl,rfl,rfl⟩ rfl rfl rfl rfl rfl A1 Tryz.func3 A1
  (of_decide_eq_true A1) (by unfold Func.isWrapper;first|(rw[if_pos (by decide +kernel)];kernel_rfl)|(rw[if_neg (by decide +kernel)];exact⟨rfl,rfl⟩))
  (fun os Jt H enc _=>aPf os Jt H enc)
end Go.Proofs.YtcbhdhmhidpdgaaGreat.fnLinks
namespace Go.Proofs.YtcbhdhmhidpdgaaGreat
theorem fnLinks_holds:Rows.FnLinksSaid:=fnLinks.over
#print axioms fnLinks_holds
end Go.Proofs.YtcbhdhmhidpdgaaGreat

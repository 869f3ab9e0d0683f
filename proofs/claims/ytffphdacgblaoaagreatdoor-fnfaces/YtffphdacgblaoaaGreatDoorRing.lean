import Derived.Test.YtffphdacgblaoaaGreatDoorPackE
import Derived.RangeFuncCalls
import Derived.OwnWalkIn
import Derived.OrdersIn
namespace Go.Proofs.YtffphdacgblaoaaGreatDoor
open Go.RowKit
section
variable {P:Program} {ops:Array Oper} {Q:Exit->Act->World->Prop} {md:Region.Mode} {S:World->Prop} {l n:Nat}
theorem aD9 {row:String}{args:Array Value}{w:World}{R:Value->World->Prop}(h:Rows P row args w R):RowsIn (Fence.wide.inRound l) n P row args w R:=by
 intro c cs _;obtain⟨v,w',hr,hs⟩:=h c cs;exact⟨v,w',hr,stepsIn_wide.2 hs⟩
theorem aLl {o:Oper}{a:Act}{w:World}{K:Act->World->Prop}(hnd:∀c,o.op ≠ .defer c)(h:o.wp P a w K Q):o.wpIn (Fence.wide.inRound l) n P a w K Q:=by
 refine⟨fun _ _=>trivial, ?_⟩
 rw[Oper.semAt_eq _ _ _ hnd];unfold Oper.wp at h;generalize (execOp a.eval o).run P w=r at h ⊢
 cases r with
 | ok x w'=>
  cases x with
  | enter f args=>exact⟨fun h0=>(by cases h0),(CallsIn.inRound l (callsIn_wide.2 h)).mono (fun e w'' he=>by cases e <;> exact he)⟩
  | row r args=>exact⟨fun h0=>(by cases h0),aD9 h⟩
  | round=>exact h.elim
  | _=>exact h
 | halt x w'=>cases x <;> first|exact h|exact h.elim
def xG (ops:Array Oper):Bool:=ops.all fun o=>match o.op with
 | .defer _=>false
 | _=>true
theorem aCk {i:Nat}{o:Oper}(h:xG ops=true)(ho:ops[i]?=some o):∀c,o.op ≠ .defer c:=by
 intro c hc;obtain⟨hi,rfl⟩:=zJ0.1 ho
 have:=Array.all_eq_true.1 h i hi
 rw[hc]at this;cases this
theorem pD (hd:xG ops=true)(hQ:¬LetsOut Q):∀(fuel:Nat) (Ad:Array Bool) (a:Act) (w:World),wpAny P md ops Q fuel Ad a w->wpAnyIn (Fence.wide.inRound l) n P md ops Q fuel Ad a w
 | 0,_,_,_,h=>h
 | fuel+1,Ad,a,w,h=>by
  refine⟨h.1,fun i hi=>?_⟩
  have h1:=h.2 i hi;unfold wpOp at h1;unfold wpOpIn
  cases ho:ops[i]? with
  | none=>rw[ho]at h1;exact pD hd hQ fuel _ a w h1
  | some o=>
   rw[ho]at h1
   simp only at h1 ⊢
   split
   .
    rename_i hw
    rw[if_pos hw]at h1
    rcases h1 with h1|⟨_,h1⟩
    .
     exact Oper.wpIn_mono (fun a' w' h2=>pD hd hQ fuel _ a' w' h2) (aLl (aCk hd ho) h1)
    .
     exact absurd h1 hQ
   .
    rename_i hw
    rw[if_neg hw]at h1
    exact⟨fun _ _=>trivial,pD hd hQ fuel _ _ w h1⟩
theorem aA2:∀(fuel:Nat) (Ad:Array Bool)(a:Act)(w:World),wpAnyH P md ops Q S fuel Ad a w->wpAny P md ops Q fuel Ad a w
 | 0,_,_,_,h=>h
 | fuel+1,_,_,_,h=>⟨h.1,fun i hi=>wpOp_mono (fun a' w' h'=>aA2 fuel _ a' w' h'.2) (h.2 i hi)⟩
theorem ro {id:Nat}{a:Act}{w:World}(hm:P.follows .mixedOrders=true)(hd:xG ops=true)(hQ:¬LetsOut Q)(hS:S w.drew)
  (h:S w.drew->wpAnyH P .any ops Q S ops.size (Array.replicate ops.size false) a w.drew):(Code.region id ops true).wpIn (Fence.wide.inRound l) n P Q a w:=
 wpIn_region_any hm (pD hd hQ _ _ _ _ (aA2 _ _ _ _ (h hS)))
end
end Go.Proofs.YtffphdacgblaoaaGreatDoor

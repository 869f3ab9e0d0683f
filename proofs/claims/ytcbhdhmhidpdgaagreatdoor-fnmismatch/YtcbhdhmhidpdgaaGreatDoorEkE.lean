import Derived.Test.YtcbhdhmhidpdgaaGreatDoorPackR
namespace Go.Proofs.YtcbhdhmhidpdgaaGreatDoor
open Go.RowKit
set_option linter.unusedVariables false
set_option linter.unusedSimpArgs false
set_option maxRecDepth 100000
namespace Eg
def j1:AS:=⟨[(0,.c (.ptr 0 0)),(1,.c .str),(2,.c (.sl 0)),(3,.c (.bl [] [])),(4,.c (.bl [] [])),(10,.c (.ptr 1 0))],[sf (.rc 4) 0 2 false],[.cur,bM],0,[],[],true⟩
def j2:AS:=⟨[(0,.c (.ptr 0 0)),(1,.c .str),(2,.c (.sl 0)),(3,.c (.bl [] [])),(4,.c (.bl [] [])),(10,.c (.ptr 1 0)),(11,.c (.ptr 2 0))],[sf (.rc 4) 0 2 false],[.cur,bM,bG .nil .nil],0,[],[],true⟩
def j3:AS:=⟨[(0,.c (.ptr 0 0)),(2,.c (.sl 0)),(3,.c (.bl [] [])),(4,.c (.bl [] [])),(10,.c (.ptr 1 0)),(11,.c (.ptr 2 0))],[sf (.rc 4) 0 2 false,sf .bt 0 4 false],[.cur,bM,bG (.sl 1) .nil],0,[],[],true⟩
def tO (f:Func):Code:=.seq (pc 4 f) (.seq (.block 1 (.seq (pc 6 f) (.cond (.tmp 42) (pc 7 f) .skip))) (pc 5 f))
theorem aTp:Tryz.f50.body=some (.seq (pc 0 Tryz.f50) (.seq (pc 1 Tryz.f50) (.seq (pc 2 Tryz.f50) (.seq (.seq (pc 3 Tryz.f50) (.block 0 (.loop (tO Tryz.f50)))) (pc 8 Tryz.f50))))):=by kernel_rfl
theorem ck0:nI (gM false) 1 1 (pc 0 Tryz.f50) (eV aAo) j1 none=true:=by kernel_rfl
theorem ck1:nI (gM false) 1 1 (pc 1 Tryz.f50) j1 j2 none=true:=by kernel_rfl
theorem ck2:nI (gM false) 1 1 (pc 2 Tryz.f50) j2 j3 none=true:=by kernel_rfl
theorem ckl:le 1 1 (aS 0 []) j3 [some 0,none,some 1]=true:=by kernel_rfl
theorem ck3:nI (gM false) 3 3 (pc 3 Tryz.f50) (aS 0 []) (aS 0 (aI 0)) none=true:=by kernel_rfl
def ckR (f:Func)(i:Nat):Bool:=nI (gM false) 3 3 (pc 4 f) (aS 0 (aI i)) (aS (i+1) (aI i)) (some (0,aS 0 [])) && nI (gM false) 3 3 (pc 6 f) (aS (i+1) (aI i)) (aS (i+1) (aJ i)) none && nI (gM false) 3 3 .skip (aS (i+1) (aJ i)) (aS 0 (aI i)) none && nI (gM false) 3 3 (pc 5 f) (aS 0 (aI i)) (aS 0 (aI (i+1))) none
theorem aVr:ckR Tryz.f50 0=true:=by kernel_rfl
theorem aVq:ckR Tryz.f50 1=true:=by kernel_rfl
theorem aVp:nI (gM false) 3 3 (pc 4 Tryz.f50) (aS 0 (aI 2)) (aS 3 (aI 2)) (some (0,aS 0 []))=true:=by kernel_rfl
theorem ck8:(match nR (gM true) 3 3 100 (pc 8 Tryz.f50) (aS 0 []) with|some l=>xO Tryz.f50 true (.rc 13) l && aM9 false true l|none=>false)=true:=by kernel_rfl
section
variable {C0:Cx} {fv:Value} {cb k:Nat} {A J:AS} {τ τ':Sm} {V:Vl} {a:Act} {w w':World} {Q:Exit->Act->World->Prop}
theorem noX {p:Prop}{j:Nat}{J':AS}(h:(none:Option (Nat × AS))=some (j,J')):p:=by cases h
theorem Lp.round {i n:Nat}(hK:C0.K=[cb])(hst:C0.st=true)(hi:i<=1)(hc:ckR Tryz.f50 i=true)(hx:∀τ V a w,Lp C0 fv cb 2 (aS 0 []) τ V a w->Q (.exit 0) a w)(hn:∀τ V a w,Lp C0 fv cb (i+1) (aS 0 (aI (i+1))) τ V a w->Code.rounds Tryz.prog (tO Tryz.f50) Q n a w)(h:Lp C0 fv cb i (aS 0 (aI i)) τ V a w):Code.rounds Tryz.prog (tO Tryz.f50) Q (n+1) a w:=by
 simp only[ckR,zC0]at hc;obtain⟨⟨⟨c4,c6⟩,cs⟩,c5⟩:=hc;rw[zE2];refine wp_seq (h.go hK rfl c4 (okS _ _) (fun j J' e=>by cases e;exact okS _ _) (fun τ V a w h=>?_) (fun j J' e τ V a w h=>by cases e;exact hx _ _ _ _ (h.mono A0)));refine wp_seq (wp_block (wp_seq (h.go hK rfl c6 (okS _ _) (fun j J' e=>noX e) (fun τ V a w h=>?_) (fun j J' e=>noX e))));have last:∀τ V a w,Lp C0 fv cb (i+1) (aS 0 (aI i)) τ V a w->(pc 5 Tryz.f50).wp Tryz.prog (Exit.then (Code.rounds Tryz.prog (tO Tryz.f50) Q n) Q) a w:=fun τ V a w h=>h.go hK rfl c5 (okS _ _) (fun j J' e=>noX e) (fun τ V a w h=>hn _ _ _ _ h) (fun j J' e=>noX e);obtain⟨b,hb,_⟩:∃b,a.eval (.tmp 42)=.bool b/\True:=by
  obtain⟨b,hb,_⟩:=(h.hs.sl 42).1;exact⟨b,hb,trivial⟩
 refine wp_cond_split hb (fun _=>?_) (fun _=>?_)
 .
  exact h.r7 hst hi fun τ V a w h=>last _ _ _ _ h
 .
  exact h.go hK rfl cs (okS _ _) (fun j J' e=>noX e) (fun τ V a w h=>last _ _ _ _ (h.mono A0)) (fun j J' e=>noX e)
theorem Lp.loop (hK:C0.K=[cb])(hst:C0.st=true)(hx:∀τ V a w,Lp C0 fv cb 2 (aS 0 []) τ V a w->Q (.exit 0) a w)(h:Lp C0 fv cb 0 (aS 0 (aI 0)) τ V a w):(Code.loop (tO Tryz.f50)).wp Tryz.prog Q a w:=by
 refine zH1 3 (h.round hK hst A0 aVr hx (fun τ V a w h=>h.round hK hst A0 aVq hx (fun τ V a w h=>?_)));rw[zE2];refine wp_seq (h.go hK rfl aVp (okS _ _) (fun j J' e=>by cases e;exact okS _ _) (fun τ V a w h=>?_) (fun j J' e τ V a w h=>by cases e;exact hx _ _ _ _ h));obtain⟨_,q1,q2,_⟩:=h.hs.kn.sy 0 (sf (.rc 4) 3 2 false) rfl (show 0<3 by omega);have q1:3<=ln (V.ρ 0):=q1;have q2:ln (V.ρ 0)<=2:=q2;omega
theorem aVa:ConOk aAo:=by
 intro τ0 w0 I vs hT Dm Ep Bs;refine calls_of_wp (fn:=Tryz.f50) A1 aTp ?_;have hs0:Hs ⟨true,[I.cb],τ0,w0⟩ (fun _=>True) (gM false) 1 1 (rho ([]++iT aAo.args vs)) (aMz I) (eV aAo) τ0 ⟨rho ([]++iT aAo.args vs),aMz I,fun _=>0⟩ { tmps:=vs.toArray++Array.replicate (Tryz.f50.ntmps-vs.toArray.size) undef,defers:=[] } w0:=aAh (c:=aAo) (fn:=Tryz.f50) (G:=gM false) rfl hT Dm Ep Bs rfl ⟨by kernel_rfl,by decide⟩ (fun _=>True);have hE:Env ⟨true,[I.cb],τ0,w0⟩ (fun _=>True) (gM false) 1 1 (rho ([]++iT aAo.args vs)):=⟨⟨rfl,hT,cn kOnce cz⟩,fun h9=>by cases h9⟩
 refine wp_seq (nV hE ck0 hs0 (fun τ V a w hs=>?_) (fun j J' e=>noX e));refine wp_seq (nV hE ck1 hs (fun τ V a w hs=>?_) (fun j J' e=>noX e));refine wp_seq (nV hE ck2 hs (fun τ V a w hs=>?_) (fun j J' e=>noX e));have hs:=aOj ckl hs;have kn:=hs.kn;have eb0:=hs.fb 0 A0;obtain⟨t1,t2⟩:=aCq (V:=V.by [some 0,none,some 1]) (okS 0 []).b;have low:∀n,n=1\/n=2->w0.heap.size<=(V.by [some 0,none,some 1]).β n:=fun n hn=>by
  have h9:(V.by [some 0,none,some 1]).β n ∈ [I.cb]\/w0.heap.size<=(V.by [some 0,none,some 1]).β n:=by
   rcases hn with rfl|rfl
   .
    exact(kn.bk 1 bM rfl (show 1<3 by omega)).2.2.2
   .
    exact(kn.bk 2 (bG (.sl 2) (.sl 1)) rfl (show 2<3 by omega)).2.2.2
  refine h9.resolve_left fun hm=>?_;have e9:(V.by [some 0,none,some 1]).β n=(V.by [some 0,none,some 1]).β 0:=(List.mem_singleton.1 hm).trans eb0.symm;rcases hn with rfl|rfl
  .
   exact kn.dj 1 0 bM .cur rfl rfl (show 1<3 by omega) (show 0<3 by omega) A0 e9
  .
   exact kn.dj 2 0 (bG (.sl 2) (.sl 1)) .cur rfl rfl (show 2<3 by omega) (show 0<3 by omega) A0 e9
 have lp:Lp ⟨true,[I.cb],τ0,w0⟩ ((V.by [some 0,none,some 1]).ρ 0) I.cb 0 (aS 0 []) τ (V.by [some 0,none,some 1]) a w:=⟨hs.again t1 t2 (okS 0 []).s (zB0 _) (zB0 _) hs.nt,kn.fr,eb0,low 1 (.inl rfl),low 2 (.inr rfl),rfl,⟨0,[],zB0 _,World.ownsRow_nil w _ _ _,fun x hx=>by cases hx⟩,fun h9=>hs.tq rfl h9⟩
 refine wp_seq (wp_seq (lp.go rfl rfl ck3 (okS _ _) (fun j J' e=>noX e) (fun τ V a w lp=>?_) (fun j J' e=>noX e)));refine wp_block (lp.loop rfl rfl (fun τ V a w lp=>?_));show(pc 8 Tryz.f50).wp Tryz.prog _ a w
 have kn:=lp.hs.kn;obtain⟨t1,t2⟩:=aCq (V:=V) (okS 0 []).b;have Xu:=lp.hs.again (U':=Us (V.ρ 0) w) (G':=gM true) (e':=3) (eb':=3) t1 t2 (okS 0 []).s (zB0 _) (zB0 _) lp.hs.nt;obtain⟨s0,l0,u0,_⟩:=kn.sy 0 (sf (.rc 4) 0 2 false) rfl (show 0<3 by omega);obtain⟨s1,l1,u1,_⟩:=kn.sy 1 (sf (.rc 0) 0 2 false) rfl (show 1<3 by omega);have Yk:Env ⟨true,[V.β 0,V.β 1,V.β 2],τ,w⟩ (Us (V.ρ 0) w) (gM true) 3 3 V.ρ:=by
  refine⟨⟨rfl,kn.fr.th,cn kOnce (cn fH (cn uH (cn aG6 cz)))⟩,fun _=>⟨by omega,rfl,⟨s0,l0,u0⟩,⟨s1,l1,u1⟩,fun b o n c i v e9 hi hc=>?_,rfl⟩⟩;obtain⟨n',xs,_,ho,hu⟩:=lp.own;rw[lp.r0];rcases ho.2 with⟨e8,_⟩|⟨g,cap,cur,e8,_,h2,_,_,_,h6⟩
  .
   rw[e8]at e9;cases e9
  .
   rw[e8]at e9;simp only[Value.slice.injEq,zG2,Addr.mk.injEq]at e9;obtain⟨⟨rfl,rfl,_⟩,rfl,rfl⟩:=e9;have hc:w.cell? ⟨g,0+i,none⟩=some v:=hc;rw[cell_of_row w g _ _ _ (0,0) h2,zJ0]at hc;refine hu v ?_;rw[<-h6];refine zA3 (i:=i) ?_;rw[List.getElem?_take,if_pos A0];simpa using hc
 obtain⟨l,hl,Dv⟩:∃l,nR (gM true) 3 3 100 (pc 8 Tryz.f50) (aS 0 [])=some l/\(xO Tryz.f50 true (.rc 13) l && aM9 false true l)=true:=by
  have h9:=ck8;cases hx:nR (gM true) 3 3 100 (pc 8 Tryz.f50) (aS 0 []) with
  | none=>rw[hx]at h9;cases h9| some l=>rw[hx]at h9;exact⟨l,rfl,h9⟩
 simp only[zC0]at Dv;refine xM Yk 100 (pc 8 Tryz.f50) _ l _ _ _ _ _ hl Xu ?_;rintro z a' w' ⟨p,hp,hm,τ2,V2,De⟩;obtain⟨e1,xs,e2,e3⟩:=lY Dv.1 p hp;obtain⟨_,e5⟩:=sM Dv.2 p hp;obtain⟨v,r1,r2⟩:=yL (I:=I) De rfl e2 e3;have Fx:=aAl (e5 rfl);have hcw:=(De.kn.bk 0 _ Fx (dB Fx)).1;rw[De.fb 0 A0,lp.b0]at hcw;have fin:a'.defers=[]/\∃v,(results Tryz.f50 a'.tmps).run Tryz.prog w'=.ok v w'/\∃u τ',Ending.returned v=.returned u/\Fr ⟨aAo.st,aAo.K I,τ0,w0⟩ τ' w'/\(aAo.st=true->Tg τ0->Tg τ')/\aAo.After w' I/\aAo.res.ok aAo.st τ' w0.heap.size I u:=by
  refine⟨De.df,v,r1,v,τ2,rfl,lp.fr.trans2 De.kn.fr (fun b hb Ad=>?_),fun _ h9=>De.tq rfl (lp.tq h9),⟨(fun h9=>by cases h9),fun _=>hcw⟩,r2⟩;simp only[zG3,List.not_mem_nil,or_false]at hb;rcases hb with rfl|rfl|rfl
  .
   rw[lp.b0];exact List.mem_singleton.2 rfl
  .
   have:=lp.b1;exact absurd Ad (Nat.not_lt.2 this)
  .
   have:=lp.b2;exact absurd Ad (Nat.not_lt.2 this)
 exact QA61
end
end Eg
end Go.Proofs.YtcbhdhmhidpdgaaGreatDoor

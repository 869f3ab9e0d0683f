import Derived.Test.YtcbhdhmhidpdgaaGreatPackQ
namespace Go.Proofs.YtcbhdhmhidpdgaaGreat
open Go.RowKit
set_option linter.unusedVariables false
set_option linter.unusedSimpArgs false
set_option maxRecDepth 100000
namespace Eg
def j1:AS:=⟨[(0,.c (.ptr 0 0)),(1,.c .str),(2,.c (.sl 0)),(3,.c (.bl [] [])),(4,.c (.bl [] [])),(10,.c (.ptr 1 0))],[sf (.rc 4) 0 2 false],[.cur,bM],0,[],[],true⟩
def j2:AS:=⟨[(0,.c (.ptr 0 0)),(1,.c .str),(2,.c (.sl 0)),(3,.c (.bl [] [])),(4,.c (.bl [] [])),(10,.c (.ptr 1 0)),(11,.c (.ptr 2 0))],[sf (.rc 4) 0 2 false],[.cur,bM,bG .nil .nil],0,[],[],true⟩
def j3:AS:=⟨[(0,.c (.ptr 0 0)),(2,.c (.sl 0)),(3,.c (.bl [] [])),(4,.c (.bl [] [])),(10,.c (.ptr 1 0)),(11,.c (.ptr 2 0))],[sf (.rc 4) 0 2 false,sf .bt 0 4 false],[.cur,bM,bG (.sl 1) .nil],0,[],[],true⟩
def tW (f:Func):Code:=.seq (pc 4 f) (.seq (.block 1 (.seq (pc 6 f) (.cond (.tmp 42) (pc 7 f) .skip))) (pc 5 f))
theorem aUs:Tryz.f43.body=some (.seq (pc 0 Tryz.f43) (.seq (pc 1 Tryz.f43) (.seq (pc 2 Tryz.f43) (.seq (.seq (pc 3 Tryz.f43) (.block 0 (.loop (tW Tryz.f43)))) (pc 8 Tryz.f43))))):=by kernel_rfl
theorem ck0:nS (gM false) 1 1 (pc 0 Tryz.f43) (fE aA0) j1 none=true:=by kernel_rfl
theorem ck1:nS (gM false) 1 1 (pc 1 Tryz.f43) j1 j2 none=true:=by kernel_rfl
theorem ck2:nS (gM false) 1 1 (pc 2 Tryz.f43) j2 j3 none=true:=by kernel_rfl
theorem ckl:le 1 1 (aS 0 []) j3 [some 0,none,some 1]=true:=by kernel_rfl
theorem ck3:nS (gM false) 3 3 (pc 3 Tryz.f43) (aS 0 []) (aS 0 (aI 0)) none=true:=by kernel_rfl
def ckR (f:Func)(i:Nat):Bool:=nS (gM false) 3 3 (pc 4 f) (aS 0 (aI i)) (aS (i+1) (aI i)) (some (0,aS 0 [])) && nS (gM false) 3 3 (pc 6 f) (aS (i+1) (aI i)) (aS (i+1) (aJ i)) none && nS (gM false) 3 3 .skip (aS (i+1) (aJ i)) (aS 0 (aI i)) none && nS (gM false) 3 3 (pc 5 f) (aS 0 (aI i)) (aS 0 (aI (i+1))) none
theorem aWx:ckR Tryz.f43 0=true:=by kernel_rfl
theorem aWw:ckR Tryz.f43 1=true:=by kernel_rfl
theorem aWv:nS (gM false) 3 3 (pc 4 Tryz.f43) (aS 0 (aI 2)) (aS 3 (aI 2)) (some (0,aS 0 []))=true:=by kernel_rfl
theorem ck8:(match oC (gM true) 3 3 100 (pc 8 Tryz.f43) (aS 0 []) with|some l=>yA Tryz.f43 true (.rc 13) l && aN5 false true l|none=>false)=true:=by kernel_rfl
section
variable {C0:Cx} {fv:Value} {cb k:Nat} {A J:AS} {τ τ':Sm} {V:Vl} {a:Act} {w w':World} {Q:Exit->Act->World->Prop}
theorem noX {p:Prop}{j:Nat}{J':AS}(h:(none:Option (Nat × AS))=some (j,J')):p:=by cases h
theorem Lp.round {i n:Nat}(hK:C0.K=[cb])(hst:C0.st=true)(hi:i<=1)(hc:ckR Tryz.f43 i=true)(hx:∀τ V a w,Lp C0 fv cb 2 (aS 0 []) τ V a w->Q (.exit 0) a w)(hn:∀τ V a w,Lp C0 fv cb (i+1) (aS 0 (aI (i+1))) τ V a w->Code.rounds Tryz.prog (tW Tryz.f43) Q n a w)(h:Lp C0 fv cb i (aS 0 (aI i)) τ V a w):Code.rounds Tryz.prog (tW Tryz.f43) Q (n+1) a w:=by
 simp only[ckR,zC0]at hc;obtain⟨⟨⟨c4,c6⟩,cs⟩,c5⟩:=hc;rw[zE2];refine wp_seq (h.go hK rfl c4 (okS _ _) (fun j J' e=>by cases e;exact okS _ _) (fun τ V a w h=>?_) (fun j J' e τ V a w h=>by cases e;exact hx _ _ _ _ (h.mono A0)));refine wp_seq (wp_block (wp_seq (h.go hK rfl c6 (okS _ _) (fun j J' e=>noX e) (fun τ V a w h=>?_) (fun j J' e=>noX e))));have last:∀τ V a w,Lp C0 fv cb (i+1) (aS 0 (aI i)) τ V a w->(pc 5 Tryz.f43).wp Tryz.prog (Exit.then (Code.rounds Tryz.prog (tW Tryz.f43) Q n) Q) a w:=fun τ V a w h=>h.go hK rfl c5 (okS _ _) (fun j J' e=>noX e) (fun τ V a w h=>hn _ _ _ _ h) (fun j J' e=>noX e);obtain⟨b,hb,_⟩:∃b,a.eval (.tmp 42)=.bool b/\True:=by
  obtain⟨b,hb,_⟩:=(h.hs.sl 42).1;exact⟨b,hb,trivial⟩
 refine wp_cond_split hb (fun _=>?_) (fun _=>?_)
 .
  exact h.r7 hst hi fun τ V a w h=>last _ _ _ _ h
 .
  exact h.go hK rfl cs (okS _ _) (fun j J' e=>noX e) (fun τ V a w h=>last _ _ _ _ (h.mono A0)) (fun j J' e=>noX e)
theorem Lp.loop (hK:C0.K=[cb])(hst:C0.st=true)(hx:∀τ V a w,Lp C0 fv cb 2 (aS 0 []) τ V a w->Q (.exit 0) a w)(h:Lp C0 fv cb 0 (aS 0 (aI 0)) τ V a w):(Code.loop (tW Tryz.f43)).wp Tryz.prog Q a w:=by
 refine zH1 3 (h.round hK hst A0 aWx hx (fun τ V a w h=>h.round hK hst A0 aWw hx (fun τ V a w h=>?_)));rw[zE2];refine wp_seq (h.go hK rfl aWv (okS _ _) (fun j J' e=>by cases e;exact okS _ _) (fun τ V a w h=>?_) (fun j J' e τ V a w h=>by cases e;exact hx _ _ _ _ h));obtain⟨_,q1,q2,_⟩:=h.hs.kn.sy 0 (sf (.rc 4) 3 2 false) rfl (show 0<3 by omega);have q1:3<=ln (V.ρ 0):=q1;have q2:ln (V.ρ 0)<=2:=q2;omega
theorem aWf:ConOk aA0:=by
 intro τ0 w0 I vs hT Dp Eo Br;refine calls_of_wp (fn:=Tryz.f43) A1 aUs ?_;have hs0:Hs ⟨true,[I.cb],τ0,w0⟩ (fun _=>True) (gM false) 1 1 (rho ([]++jC aA0.args vs)) (aNw I) (fE aA0) τ0 ⟨rho ([]++jC aA0.args vs),aNw I,fun _=>0⟩ { tmps:=vs.toArray++Array.replicate (Tryz.f43.ntmps-vs.toArray.size) undef,defers:=[] } w0:=aAs (c:=aA0) (fn:=Tryz.f43) (G:=gM false) rfl hT Dp Eo Br rfl ⟨by kernel_rfl,by decide⟩ (fun _=>True);have hE:Env ⟨true,[I.cb],τ0,w0⟩ (fun _=>True) (gM false) 1 1 (rho ([]++jC aA0.args vs)):=⟨⟨rfl,hT,cn kOnce cz⟩,fun h9=>by cases h9⟩
 refine wp_seq (oG hE ck0 hs0 (fun τ V a w hs=>?_) (fun j J' e=>noX e));refine wp_seq (oG hE ck1 hs (fun τ V a w hs=>?_) (fun j J' e=>noX e));refine wp_seq (oG hE ck2 hs (fun τ V a w hs=>?_) (fun j J' e=>noX e));have hs:=aPg ckl hs;have kn:=hs.kn;have eb0:=hs.fb 0 A0;obtain⟨t1,t2⟩:=aC4 (V:=V.by [some 0,none,some 1]) (okS 0 []).b;have low:∀n,n=1\/n=2->w0.heap.size<=(V.by [some 0,none,some 1]).β n:=fun n hn=>by
  have h9:(V.by [some 0,none,some 1]).β n ∈ [I.cb]\/w0.heap.size<=(V.by [some 0,none,some 1]).β n:=by
   rcases hn with rfl|rfl
   .
    exact(kn.bk 1 bM rfl (show 1<3 by omega)).2.2.2
   .
    exact(kn.bk 2 (bG (.sl 2) (.sl 1)) rfl (show 2<3 by omega)).2.2.2
  refine h9.resolve_left fun hm=>?_;have e9:(V.by [some 0,none,some 1]).β n=(V.by [some 0,none,some 1]).β 0:=(List.mem_singleton.1 hm).trans eb0.symm;rcases hn with rfl|rfl
  .
   exact kn.dj 1 0 bM .cur rfl rfl (show 1<3 by omega) (show 0<3 by omega) A0 e9
  .
   exact kn.dj 2 0 (bG (.sl 2) (.sl 1)) .cur rfl rfl (show 2<3 by omega) (show 0<3 by omega) A0 e9
 have lp:Lp ⟨true,[I.cb],τ0,w0⟩ ((V.by [some 0,none,some 1]).ρ 0) I.cb 0 (aS 0 []) τ (V.by [some 0,none,some 1]) a w:=⟨hs.again t1 t2 (okS 0 []).s (zB0 _) (zB0 _) hs.nt,kn.fr,eb0,low 1 (.inl rfl),low 2 (.inr rfl),rfl,⟨0,[],zB0 _,World.ownsRow_nil w _ _ _,fun x hx=>by cases hx⟩,fun h9=>hs.tq rfl h9⟩
 refine wp_seq (wp_seq (lp.go rfl rfl ck3 (okS _ _) (fun j J' e=>noX e) (fun τ V a w lp=>?_) (fun j J' e=>noX e)));refine wp_block (lp.loop rfl rfl (fun τ V a w lp=>?_));show(pc 8 Tryz.f43).wp Tryz.prog _ a w
 have kn:=lp.hs.kn;obtain⟨t1,t2⟩:=aC4 (V:=V) (okS 0 []).b;have Jw:=lp.hs.again (U':=Us (V.ρ 0) w) (G':=gM true) (e':=3) (eb':=3) t1 t2 (okS 0 []).s (zB0 _) (zB0 _) lp.hs.nt;obtain⟨s0,l0,u0,_⟩:=kn.sy 0 (sf (.rc 4) 0 2 false) rfl (show 0<3 by omega);obtain⟨s1,l1,u1,_⟩:=kn.sy 1 (sf (.rc 0) 0 2 false) rfl (show 1<3 by omega);have Zh:Env ⟨true,[V.β 0,V.β 1,V.β 2],τ,w⟩ (Us (V.ρ 0) w) (gM true) 3 3 V.ρ:=by
  refine⟨⟨rfl,kn.fr.th,cn kOnce (cn fU (cn uR (cn aHo cz)))⟩,fun _=>⟨by omega,rfl,⟨s0,l0,u0⟩,⟨s1,l1,u1⟩,fun b o n c i v e9 hi hc=>?_,rfl⟩⟩;obtain⟨n',xs,_,ho,hu⟩:=lp.own;rw[lp.r0];rcases ho.2 with⟨e8,_⟩|⟨g,cap,cur,e8,_,h2,_,_,_,h6⟩
  .
   rw[e8]at e9;cases e9
  .
   rw[e8]at e9;simp only[Value.slice.injEq,zG2,Addr.mk.injEq]at e9;obtain⟨⟨rfl,rfl,_⟩,rfl,rfl⟩:=e9;have hc:w.cell? ⟨g,0+i,none⟩=some v:=hc;rw[cell_of_row w g _ _ _ (0,0) h2,zJ1]at hc;refine hu v ?_;rw[<-h6];refine zA3 (i:=i) ?_;rw[List.getElem?_take,if_pos A0];simpa using hc
 obtain⟨l,hl,Dx⟩:∃l,oC (gM true) 3 3 100 (pc 8 Tryz.f43) (aS 0 [])=some l/\(yA Tryz.f43 true (.rc 13) l && aN5 false true l)=true:=by
  have h9:=ck8;cases hx:oC (gM true) 3 3 100 (pc 8 Tryz.f43) (aS 0 []) with
  | none=>rw[hx]at h9;cases h9| some l=>rw[hx]at h9;exact⟨l,rfl,h9⟩
 simp only[zC0]at Dx;refine xZ Zh 100 (pc 8 Tryz.f43) _ l _ _ _ _ _ hl Jw ?_;rintro z a' w' ⟨p,hp,hm,τ2,V2,Df⟩;obtain⟨e1,xs,e2,e3⟩:=mK Dx.1 p hp;obtain⟨_,e5⟩:=sT Dx.2 p hp;obtain⟨v,r1,r2⟩:=yW (I:=I) Df rfl e2 e3;have Fx:=aAx (e5 rfl);have hcw:=(Df.kn.bk 0 _ Fx (dE Fx)).1;rw[Df.fb 0 A0,lp.b0]at hcw;have fin:a'.defers=[]/\∃v,(results Tryz.f43 a'.tmps).run Tryz.prog w'=.ok v w'/\∃u τ',Ending.returned v=.returned u/\Fr ⟨aA0.st,aA0.K I,τ0,w0⟩ τ' w'/\(aA0.st=true->Tg τ0->Tg τ')/\aA0.After w' I/\aA0.res.ok aA0.st τ' w0.heap.size I u:=by
  refine⟨Df.df,v,r1,v,τ2,rfl,lp.fr.trans2 Df.kn.fr (fun b hb Ad=>?_),fun _ h9=>Df.tq rfl (lp.tq h9),⟨(fun h9=>by cases h9),fun _=>hcw⟩,r2⟩;simp only[zG3,List.not_mem_nil,or_false]at hb;rcases hb with rfl|rfl|rfl
  .
   rw[lp.b0];exact List.mem_singleton.2 rfl
  .
   have:=lp.b1;exact absurd Ad (Nat.not_lt.2 this)
  .
   have:=lp.b2;exact absurd Ad (Nat.not_lt.2 this)
 exact QA60
end
end Eg
end Go.Proofs.YtcbhdhmhidpdgaaGreat

import Derived.Test.YtcbhdhmhidpdgaaGreatCpL
namespace Go.Proofs.YtcbhdhmhidpdgaaGreat
open Go.RowKit
set_option linter.unusedVariables false
set_option linter.unusedSimpArgs false
set_option maxRecDepth 100000
theorem QA127{p:Prop}(h:p:=by
 rcases this with rfl|rfl|rfl <;> rfl):p:=h
namespace Cp
structure Us (E:En) (d:GD) (w:World) (c:Nat) (d':GD) (w':World):Prop where
 gs:GS E d' w'
 r:∀i,i ≠ 1->d'.r i=d.r i
 fr:d'.fr=d.fr
 p:d'.p=d.p
 n:(d'.r 1).n<=(d.r 1).n+c
 kt:Kt w w'
 sl:d'.sl=d.sl
 s4:d'.s4=d.s4
section
variable {E:En} {d d1 d2:GD} {w w1 w2:World} {c c':Nat}
theorem Us.start (h:GS E d w):Us E d w 0 d w:=⟨h,fun _ _=>rfl,rfl,rfl,zB0 _,Kt.refl w,rfl,rfl⟩
theorem Us.trans (s:Us E d w c d1 w1)(t:Us E d1 w1 c' d2 w2):Us E d w (c+c') d2 w2:=⟨t.gs,fun i hi=>(t.r i hi).trans (s.r i hi),t.fr.trans s.fr,t.p.trans s.p,by have:=s.n;have:=t.n;omega,s.kt.trans t.kt,t.sl.trans s.sl,t.s4.trans s.s4⟩
theorem Us.on (s:Us E d w c d1 w1)(hE:eA E)(hb:Below w1.heap.size w1 w2):Us E d w c d1 w2:=⟨s.gs.on hE hb,s.r,s.fr,s.p,s.n,s.kt.trans (Kt.below hb),s.sl,s.s4⟩
theorem Us.wide (s:Us E d w c d1 w1)(hc:c<=c'):Us E d w c' d1 w1:=⟨s.gs,s.r,s.fr,s.p,by have:=s.n;omega,s.kt,s.sl,s.s4⟩
theorem Us.b {g:Nat}{T:TypeId}{vs:List Value}(s:Us E d w c d1 w1)(hb:Blk w g T vs)(hm:aHg T=false:=by decide):Blk w1 g T vs:=s.kt.b hm hb
end
def XF:Nat->List Eg.Fd
 | 0=>[.n,.n,.b 4,.b 4,.l 0 0 0]| n+1=>[.n,.n,.b 4,.b 4,.l (5+n) 0 3]
theorem aRd {n:Nat}(hn:n<=3)(q:Bool):(if q then Eg.Lt (5+n) else (Eg.Dt (5+n)).2)=XF n:=by
 have:n=0\/n=1\/n=2\/n=3:=A0;rcases this with rfl|rfl|rfl|rfl <;> cases q <;> rfl
theorem aS6 {τ:Eg.Sm}{W:World}(hT:Eg.TH τ W){n nk ck i:Nat}{ak:Option Addr}{v0 v1 v2 v3:Value}(hn:n<=3)(h:Eg.RV τ (XF n) [v0,v1,v2,v3,.slice ak nk ck])(hi:i<nk):
  ∃m b off us,m<=3/\ak=some ⟨b,off,none⟩/\Eg.RV τ (XF m) us/\us.length=5/\∀z u,us[z]?=some u->W.cell? ⟨b,off+i*5+z,none⟩=some u:=by
 match n,h with
 | 0,h=>
  obtain⟨_,_,e0,_,_,_,e1,_,_,_,e2,_,_,_,e3,_,_,_,e4,⟨k,hk,hs⟩,_⟩:=h;cases e0;cases e1;cases e2;cases e3;cases e4;obtain⟨a,c,e,_⟩:=hs.sh hT;cases e;omega
 | n+1,h=>
  obtain⟨_,_,e0,_,_,_,e1,_,_,_,e2,_,_,_,e3,_,_,_,e4,⟨k,hk,hs⟩,_⟩:=h;cases e0;cases e1;cases e2;cases e3;cases e4;obtain⟨a,c,e,_⟩:=hs.sh hT;cases e;obtain⟨b,j,c',s,e,_,_,_,_,_,_,hg⟩:=hs.get hT A0;simp only[Value.slice.injEq,true_and]at e;obtain⟨rfl,rfl⟩:=e;have Ra:(Eg.Rs.rc (5+n)).k=5:=by
   have:n=0\/n=1\/n=2:=A0;exact QA127
  rw[Ra]at hg ⊢;obtain⟨us,hu,hc⟩:=hg i hi;have Ir:Eg.RV τ (XF n) us:=by
   have:=aRd (n:=n) A0 s.q;rw[<-this];exact hu
  refine⟨n,b,j*5,us,by omega,rfl,Ir, ?_,fun z u hz=>?_⟩
  .
   rw[Eg.RV.length Ir];have:n=0\/n=1\/n=2:=A0;exact QA127
  .
   rw[<-Nat.add_mul];exact hc z u hz
theorem aPj {τ:Eg.Sm}{W:World}(hT:Eg.TH τ W){ks:List Ex}{a:Option Addr}{q i n:Nat}{e:Ex}{v0 v1 v2 v3:Value}(h:aX W a q 5 (exs ks))(hn:n<=3)(ht:Eg.RV τ (XF n) [v0,v1,v2,v3,.slice a ks.length q])(hi:ks[i]?=some e):∃b off u0 u1 u2 u3 u4,a=some ⟨b,off,none⟩/\aL W e.fl [u0,u1,u2,u3,u4]/\(∃m,m<=3/\Eg.RV τ (XF m) [u0,u1,u2,u3,u4])/\W.cell? ⟨b,off+i*5,none⟩=some u0/\W.cell? ⟨b,off+i*5+1,none⟩=some u1/\W.cell? ⟨b,off+i*5+2,none⟩=some u2/\W.cell? ⟨b,off+i*5+3,none⟩=some u3/\W.cell? ⟨b,off+i*5+4,none⟩=some u4:=by
 obtain⟨b,off,u0,u1,u2,u3,u4,rfl,hr,r0,r1,r2,r3,r4⟩:=mC h hi;obtain⟨m,b',Lg,us,hm,e9,hu,hl,hc⟩:=aS6 hT hn ht (i:=i) (zC1.1 hi).1;cases e9
 match us,hl with
 | [x0,x1,x2,x3,x4],_=>
  have q0:=hc 0 _ rfl;have q1:=hc 1 _ rfl;have q2:=hc 2 _ rfl;have q3:=hc 3 _ rfl;have q4:=hc 4 _ rfl;rw[zG1,r0]at q0;rw[r1]at q1;rw[r2]at q2;rw[r3]at q3;rw[r4]at q4;cases q0;cases q1;cases q2;cases q3;cases q4;exact⟨b,off,_,_,_,_,_,rfl,hr,⟨m,hm,hu⟩,r0,r1,r2,r3,r4⟩
theorem El.imp {E:En}{d:GD}(h:El E d){v v0 v1 v2:Value}(hv:Eg.RV E.τ0 [.b 4,.b 4,.n] [v0,v1,v2]):El E ((d.at d.sl d.s4).put 1 ⟨v,(d.r 1).n+1,(d.r 1).xs++[v0,v1,v2]⟩):=
 ⟨h.e0,by
  obtain⟨xss,e,hx⟩:=h.e1;refine⟨xss++[[v0,v1,v2]],by show(d.r 1).xs++_=_;rw[e,List.flatten_append];simp,fun us hu=>?_⟩;rcases List.mem_append.1 hu with hu|hu
  .
   exact hx us hu
  .
   rw[List.mem_singleton.1 hu];exact hv,h.e2,h.n2,h.e3,h.m3,h.e4,h.n4,h.rp,h.hl⟩
end Cp
end Go.Proofs.YtcbhdhmhidpdgaaGreat

import Derived.Test.YtcbhdhmhidpdgaaGreatDoorPackM
import Derived.Test.YtcbhdhmhidpdgaaGreatDoorCpN
import Derived.Deep.Cut
import Derived.Deep.CutRange
import Derived.Deep.RegionHeld3
namespace Go.Proofs.YtcbhdhmhidpdgaaGreatDoor
open Go.RowKit
set_option linter.unusedVariables false
set_option linter.unusedSimpArgs false
set_option maxRecDepth 100000
theorem aP7 (a:Option Addr)(c:Nat)(w:World):
  Calls Tryz.prog 57 #[.slice a 0 c] w fun e w'=>e=.returned (.slice none 0 0)/\w'=w:=by
 go_enter Tryz.func57,Tryz.ntmps57;go_wp2_with fail;refine zH1 1 ?_;rw[zE2];go_wp2;go_ret;exact⟨rfl,rfl⟩
theorem aAq (a:Option Addr)(n c:Nat)(l:List In6)(w:World)(h:aA0 w a n l)(hn:n<=1000000):
  Calls Tryz.prog 57 #[.slice a n c] w fun e w'=>∃v,e=.returned v/\Own w' w.heap.size v (12*n) (aCd l)/\Below w.heap.size w w':=by
 rcases zG0 n with h0|hp
 .
  subst h0;have:l=[]:=List.length_eq_zero_iff.1 h.1;subst this;refine(aP7 a c w).mono ?_;rintro e w' ⟨rfl,rfl⟩;exact⟨_,rfl,aDd _ _,zD2 _ _⟩
 .
  obtain⟨b,off,rfl,_⟩:=h.2 hp;exact aP6 b off n c l w h hp hn
section
namespace Eg
variable{C:Cx}{base:Nat}{τ:Sm}{v:Value}{w:World}
theorem Fr.own{k:Rs}{n:Nat}{xss:List (List Value)}(h:Fr C τ w)(ho:w.ownsRow base k.ty k.k v n xss.flatten)(hx:∀us ∈ xss,EV τ false k us)(hl:xss.length=n)(hb:C.w0.heap.size<=base)(hn:∀g,v.ownBlock=some g->τ g=none):
  ∃τ',Fr C τ' w/\SV τ' k n v/\Sub τ τ'/\(∀b,v.ownBlock ≠ some b->τ' b=τ b)/\(Tg τ->Tg τ'):=by
 rcases ho.2 with⟨rfl,rfl⟩|⟨g,cap,cur,rfl,Lf,hgh,Gk,Dl,Gj,Ti⟩
 .
  exact⟨τ,h,SV.nil k,Sub.refl _,fun _ _=>rfl,fun h=>h⟩
 .
  have hg:τ g=none:=hn g rfl;have hs:=rE (s:=⟨k,false,n,cap⟩) hg;refine⟨upd τ g ⟨k,false,n,cap⟩,⟨h.th.upd hs (fun b _ _=>rfl) ⟨⟨cur,(0,0),hgh,fun _=>rfl,Gj⟩,Gk,Dl,fun i hi=>?_⟩,h.sub.trans hs,h.os,h.tape,h.output,h.size,fun b Dy Be=>(eF A0).trans (h.non b Dy Be),h.blk,fun hst b Dy Be=>?_⟩,.inr ⟨g,0,cap,_,by rw[Nat.zero_mul],lM _ _ _,rfl,by simp,Gk,by simp⟩,hs,fun b Ae=>eF (fun e=>Ae A76),fun ht=>ht.upd rfl⟩
  .
   have hi:i<xss.length:=by rw[hl];exact hi
   have hm:=List.getElem_mem hi;refine⟨xss[i],(hx _ hm).length,(hx _ hm).sub hs,fun j u hu=>?_⟩;have e:=flat_get xss i _ j u (fun us hu=>(hx us hu).length) (zA0 hi) hu;rw[<-Ti,List.getElem?_take]at e;rw[cell_of_row w g _ _ _ (0,0) hgh];split at e
   .
    simpa using e
   .
    cases e
  .
   obtain⟨e1,e2⟩:=h.str hst b Dy Be;exact⟨(eF A0).trans e1,e2⟩
theorem aHy (l:List Int)(k:IntKind):(l.map fun x=>[Value.int k x]).flatten=l.map (Value.int k):=by
 induction l with
 | nil=>rfl| cons x l ih=>simp[ih]
theorem Fr.bytes{n:Nat}{l:List Int}(h:Fr C τ w)(ho:Own w base v n l)(hb:C.w0.heap.size<=base)(hn:∀g,v.ownBlock=some g->τ g=none):
  ∃τ',Fr C τ' w/\SV τ' .bt n v/\Sub τ τ'/\(∀b,v.ownBlock ≠ some b->τ' b=τ b)/\(Tg τ->Tg τ'):=
 h.own (k:=.bt) (xss:=l.map fun x=>[.int .u8 x]) (by rw[aHy];exact ho.1) (fun us hu=>by
  obtain⟨x,hx,rfl⟩:=zE1.1 hu;exact⟨x,rfl,ho.2 x hx⟩) (by
  have:=ho.1.1;simp at this ⊢;exact this) hb hn
theorem sv_ln{k:Rs}{n:Nat}(h:SV τ k n v):ln v=n:=by
 rcases h with⟨rfl,rfl⟩|⟨_,_,_,_,rfl,_⟩ <;> rfl
theorem aIx{k:Rs}{n lo hi:Nat}(h:SV τ k n v)(h1:lo<=n)(h2:n<=hi):SVb τ k lo hi v:=by
 have:=sv_ln h;exact⟨by rw[this];exact h,by omega,by omega⟩
theorem nZ{c:Con}{I:Inp}(h:bF c.args=false)(h':eJ c.args=false):c.After w I:=⟨(fun h9=>by rw[h]at h9;cases h9),(fun h9=>by rw[h']at h9;cases h9)⟩
set_option maxHeartbeats 1000000 in
theorem aR6:ConOk vC:=by
 intro τ w I vs hT Dm Ep Bs;obtain⟨v0,_,rfl,⟨x,rfl,h1,h2⟩,rfl⟩:=Bs;show Calls Tryz.prog 186 #[.int .i64 x] w _
 have fin:∀z:Int,mn<=z->z<=mx->∃v τ',Ending.returned (.int .i64 z)=.returned v/\Fr ⟨vC.st,vC.K I,τ,w⟩ τ' w/\(vC.st=true->Tg τ->Tg τ')/\vC.After w I/\vC.res.ok vC.st τ' w.heap.size I v:=fun z z1 z2=>⟨_,τ,rfl,Fr.refl hT,fun _ h=>h,nZ rfl rfl,z,rfl,z1,z2⟩;clear hT Dm Ep h1 h2;go_enter Tryz.func186,Tryz.ntmps186;go_wp2;go_ret;exact fin _ (by unfold mn wrap64 wrap32;omega) (by unfold mx wrap64 wrap32;omega)
theorem aOu:ConOk aJv:=by
 intro τ w I vs hT Dm Ep Bs;obtain⟨v0,_,rfl,rfl,v1,_,rfl,hv,rfl⟩:=Bs;have hc:=Ep.cur rfl;obtain⟨l,⟨a,c,e,hb,Fu,_,Ek⟩,hl⟩:=rd_b (m:=9000) hT ⟨ln v1,hv.2.2,hv.1⟩;subst e;refine(aA4 I.cb a l.length c l w hc.cur hb Ek A0).mono ?_;rintro e w' ⟨a',n',c',l',rfl,Xy,hm⟩;have hd:=hm.drawn;have Ae:∀g s,τ g=some s->some g ≠ some I.cb:=by rintro g s hg e9;cases e9;rw[hc.nc]at hg;cases hg
 have fr:Fr ⟨true,[I.cb],τ,w⟩ τ w':=⟨hT.on fun g s hg=>hd.2.block g (hT.lt hg) (Ae g s hg),Sub.refl _,hd.2.os,hd.2.tape,hd.2.output,hd.2.size,fun _ _ h9=>h9,fun g hg _ hk=>hd.2.block g hg (by intro e9;cases e9;simp at hk),fun _ g hg Df=>⟨rfl,hd.2.block g hg (by
  cases e9:τ g with
  | none=>exact absurd e9 Df| some s=>exact Ae g s e9)⟩⟩
 obtain⟨τ',f1,f2,f3,f4,f5⟩:=fr.bytes hm.own (zB0 _) (fun g hg=>hT.fresh (hm.block g hg).1);exact⟨_,τ',rfl,f1,fun _ h=>f5 h,⟨fun h9=> A14,fun _=>hd.1⟩,aIx f2 (zD1 _) A0,fun _ g hg=>(hm.block g hg).1⟩
theorem aPh{n:Nat}(hT:TH τ w)(h:SV τ (.rc 21) n v):∃a c l,v=.slice a n c/\aA0 w a n l:=by
 obtain⟨a,c,rfl,h1,h2,h3⟩:=h.sh hT;rcases zG0 n with rfl|h0
 .
  exact⟨a,c,[],rfl,rfl,fun h=>by cases h⟩
 obtain⟨b,j,c',s,e,_,_,hs,hk,_,_,hg⟩:=h.get hT h0;simp only[Value.slice.injEq,true_and]at e;obtain⟨rfl,rfl⟩:=e;have Cc:∀q,q<=n->∃l:List In6,l.length=q/\∀z u,(gP l)[z]?=some u->w.cell? ⟨b,j*6+z,none⟩=some u:=by
  intro q;induction q with
  | zero=>intro _;exact⟨[],rfl,fun z u h=>by simp[gP]at h⟩
  | succ q ih=>
   intro hq;obtain⟨l,l1,l2⟩:=ih A0;obtain⟨vs,v1,v2⟩:=hg q A0;have v1:RV τ (if s.q then Lt 21 else (Dt 21).2) vs:=v1;have v1:RV τ (Dt 21).2 vs:=by split at v1 <;> exact v1
   obtain⟨x0,_,rfl,⟨y0,rfl,_⟩,x1,_,rfl,⟨y1,rfl,_⟩,x2,_,rfl,⟨y2,rfl,_⟩,x3,_,rfl,⟨y3,rfl,_⟩,x4,_,rfl,⟨y4,rfl,_⟩,x5,_,rfl,⟨y5,rfl,_⟩,rfl⟩:=v1;refine⟨l++[⟨y0,y1,y2,y3,y4,y5⟩],by simp[l1],fun z u hu=>?_⟩;have Hi:(gP (l++[⟨y0,y1,y2,y3,y4,y5⟩]))=gP l++(In6.vals ⟨y0,y1,y2,y3,y4,y5⟩):=by
    clear hu l2 l1 v2 ih hg;induction l with
    | nil=>simp[gP]| cons x l ih=>simp[gP,ih]
   rw[Hi]at hu;by_cases hz:z<(gP l).length
   .
    rw[List.getElem?_append_left hz]at hu;exact l2 z u hu
   .
    rw[List.getElem?_append_right A0]at hu;have h9:=v2 (z-(gP l).length) u hu;have hl6:=aEi l;rw[show(j+q)*(Rs.rc 21).k+(z-(gP l).length)=j*6+z by show(j+q)*6+_=_;omega]at h9;exact h9
 obtain⟨l,l1,l2⟩:=Cc n (zB0 _);exact⟨_,_,l,rfl,l1,fun _=>⟨b,j*6,rfl,l2⟩⟩
theorem kL4 (m:Nat)(hm:m<=1000000):ConOk (cL4 m):=by
 intro τ w I vs hT Dm Ep Bs;obtain⟨v0,_,rfl,hv,rfl⟩:=Bs;obtain⟨a,c,l,e,hI⟩:=aPh hT hv.1;have Ce:=hv.2.2;obtain⟨n,hn⟩:=zx (ln v0);rw[<-hn]at e hI Ce;subst e;refine(aAq a n c l w hI A0).mono ?_;rintro e w' ⟨v,rfl,ho,hb⟩;have fr:=((Fr.refl (st:=true) (K:=[]) hT).below hb).fr;obtain⟨τ',f1,f2,f3,f4,f5⟩:=fr.bytes ho (zB0 _) (fun g hg=>hT.fresh (ho.1.lt g hg).1);exact⟨_,τ',rfl,f1,fun _ h=>f5 h,nZ rfl rfl,aIx f2 (zD1 _) A0,fun _ g hg=>(ho.1.lt g hg).1⟩
theorem aO1:ConOk (cL4 100):=kL4 100 A6
theorem aT5:ConOk aTn:=by
 intro τ w I vs hT Dm Ep Bs;obtain⟨v0,_,rfl,hv,v1,_,rfl,Qd,rfl⟩:=Bs;obtain⟨l,⟨a,c,e,hb,Fu,_,Ek⟩,hl⟩:=rd_b (m:=4) hT ⟨ln v0,hv.2.2,hv.1⟩;subst e;obtain⟨l2,⟨a2,c2,e,hb2,hnc2,_,hnil2⟩,Dv⟩:=aT0 (m:=3) hT ⟨ln v1,Qd.2.2,Qd.1⟩;subst e;refine(kF a l.length c l a2 l2.length c2 l2 w hb Ek hb2 A0 A0).mono ?_;rintro e w' ⟨rfl,Fh⟩;have h9:=kE (l++cW l2) (l.length+l2.length);exact⟨_,τ,rfl,((Fr.refl (st:=true) (K:=[]) hT).below Fh).fr,fun _ h=>h,nZ rfl rfl,_,rfl,by unfold mn;omega,by unfold mx;omega⟩
end Eg
end
section
namespace Eg
section
variable {τ:Sm} {w:World}
def xpF (r:List Fl):Prop:=∃x:Xp,r=x.fl
def ipF (r:List Fl):Prop:=∃x:Ip,r=x.fl
def ojF (r:List Fl):Prop:=(∃x:Oj,r=x.fl)/\aO r<=9126
theorem aUr (hT:TH τ w):RdT τ w 18 4 xpF:=by
 rintro us ⟨v0,_,rfl,h0,v1,_,rfl,⟨x,rfl,_⟩,v2,_,rfl,⟨y,rfl,_⟩,rfl⟩;obtain⟨l,r0,n0⟩:=rd_b hT h0;exact⟨_,⟨⟨l,x,y⟩,rfl⟩,⟨_,_,rfl,r0,_,_,rfl,rfl,_,_,rfl,rfl,rfl⟩,by simp[Xp.fl,aO,Fl.len];omega⟩
theorem aUq (hT:TH τ w):RdT τ w 19 8 ipF:=by
 rintro us ⟨v0,_,rfl,h0,v1,_,rfl,h1,v2,_,rfl,⟨y,rfl,_⟩,rfl⟩;obtain⟨l,r0,n0⟩:=rd_b hT h0;obtain⟨m,r1,n1⟩:=rd_b hT h1;exact⟨_,⟨⟨l,m,y⟩,rfl⟩,⟨_,_,rfl,r0,_,_,rfl,r1,_,_,rfl,rfl,rfl⟩,by simp[Ip.fl,aO,Fl.len];omega⟩
theorem rdOj {M1 M2 M3:Nat}(hT:TH τ w){us:List Value}(h:RV τ [.b 4,.l 18 0 M1,.l 19 0 M2,.n,.b M3] us):∃o:Oj,aL w o.fl us/\o.ex.length<=M1/\o.im.length<=M2/\o.code.length<=M3/\aO o.fl<=4+M1*5+M2*9+M3:=by
 obtain⟨v0,_,rfl,h0,v1,_,rfl,h1,v2,_,rfl,h2,v3,_,rfl,⟨y,rfl,_⟩,v4,_,rfl,h4,rfl⟩:=h;obtain⟨l0,r0,n0⟩:=rd_b hT h0;obtain⟨s1,f1,r1,n1,m1⟩:=aCk hT h1 fun _=>aUr hT;obtain⟨s2,f2,r2,n2,m2⟩:=aCk hT h2 fun _=>aUq hT;obtain⟨l4,r4,n4⟩:=rd_b hT h4;obtain⟨l1,rfl⟩:=gJ Xp.fl s1 f1;obtain⟨l2,rfl⟩:=gJ Ip.fl s2 f2;rw[zB2]at n1 m1 n2 m2;refine⟨⟨l0,l1,l2,y,l4⟩,⟨_,_,rfl,r0,_,_,rfl,r1,_,_,rfl,r2,_,_,rfl,rfl,_,_,rfl,r4,rfl⟩,n1,n2,n4, ?_⟩;simp only[Oj.fl,aO,Fl.len,zB2];omega
theorem aUp (hT:TH τ w):RdT τ w 20 9126 ojF:=fun us h=>by
 obtain⟨o,h1,_,_,_,h5⟩:=rdOj (M1:=8) (M2:=9) (M3:=9001) hT h;exact⟨_,⟨⟨o,rfl⟩,by omega⟩,h1,by omega⟩
theorem rdOjs (hT:TH τ w){n:Nat}{v:Value}(h:SV τ (.rc 20) n v):∃l:List Oj,l.length=n/\(Fl.l 5 (l.map Oj.fl)).Rd w v/\∀o ∈ l,aO o.fl<=9126:=by
 obtain⟨rs,h1,h2,h3,h4⟩:=aRu hT h fun _=>aUp hT;obtain⟨l,rfl⟩:=gJ Oj.fl rs (fun r hr=>(h1 r hr).1);rw[zB2]at h3;exact⟨l,h3,h2,fun o ho=>(h1 _ (List.mem_map_of_mem ho)).2⟩
end
end Eg
end
section
theorem QA51{p:Prop}(h:p:=by
 have:t=0\/t=1\/t=2:=A0
 rcases this with rfl|rfl|rfl <;> cases hq:s.q <;> rw[hq]at hu <;> exact Eg.RV.length hu):p:=h
namespace Cp
variable{W:World}
def BT (τ:Eg.Sm)(t n:Nat)(v:Value):Prop:=n=0\/(t<=2/\Eg.SV τ (.rc (9+t)) n v)
theorem aU2{τ:Eg.Sm}(hT:Eg.TH τ W){nk ck i:Nat}{ak:Option Addr}{m:Nat}(h:Eg.FV τ (.l 8 0 m) (.slice ak nk ck))(hi:i<nk):
  ∃b off us,ak=some ⟨b,off,none⟩/\Eg.RV τ (XF 3) us/\us.length=5/\∀z u,us[z]?=some u->W.cell? ⟨b,off+i*5+z,none⟩=some u:=by
 obtain⟨k,hk,hs⟩:=h;obtain⟨a,c,e,_⟩:=hs.sh hT;cases e;obtain⟨b,j,c',s,e,_,_,_,_,_,_,hg⟩:=hs.get hT A0;simp only[Value.slice.injEq,true_and]at e;obtain⟨rfl,rfl⟩:=e;have My:(Eg.Rs.rc 8).k=5:=rfl;rw[My]at hg ⊢;obtain⟨us,hu,hc⟩:=hg i hi;have Ik:Eg.RV τ (XF 3) us:=by
  have:=aQg (n:=3) A0 s.q;rw[<-this];exact hu
 exact⟨b,j*5,us,rfl,Ik,Eg.RV.length Ik,fun z u hz=>by rw[<-Nat.add_mul];exact hc z u hz⟩
theorem aOn{τ:Eg.Sm}(hT:Eg.TH τ W){ks:List Ex}{a:Option Addr}{q i m:Nat}{e:Ex}(h:aW W a q 5 (exs ks))(ht:Eg.FV τ (.l 8 0 m) (.slice a ks.length q))(hi:ks[i]?=some e):∃b off u0 u1 u2 u3 u4,a=some ⟨b,off,none⟩/\aL W e.fl [u0,u1,u2,u3,u4]/\Eg.RV τ (XF 3) [u0,u1,u2,u3,u4]/\W.cell? ⟨b,off+i*5,none⟩=some u0/\W.cell? ⟨b,off+i*5+1,none⟩=some u1/\W.cell? ⟨b,off+i*5+2,none⟩=some u2/\W.cell? ⟨b,off+i*5+3,none⟩=some u3/\W.cell? ⟨b,off+i*5+4,none⟩=some u4:=by
 obtain⟨b,off,u0,u1,u2,u3,u4,rfl,hr,r0,r1,r2,r3,r4⟩:=lS h hi;obtain⟨b',Kw,us,e9,hu,hl,hc⟩:=aU2 hT ht (i:=i) (zC1.1 hi).1;cases e9
 match us,hl with
 | [x0,x1,x2,x3,x4],_=>
  have q0:=hc 0 _ rfl;have q1:=hc 1 _ rfl;have q2:=hc 2 _ rfl;have q3:=hc 3 _ rfl;have q4:=hc 4 _ rfl;rw[zG1,r0]at q0;rw[r1]at q1;rw[r2]at q2;rw[r3]at q3;rw[r4]at q4;cases q0;cases q1;cases q2;cases q3;cases q4;exact⟨b,off,_,_,_,_,_,rfl,hr,hu,r0,r1,r2,r3,r4⟩
theorem aKf{τ:Eg.Sm}(hT:Eg.TH τ W){l:List Go.Proofs.YtcbhdhmhidpdgaaGreatDoor.St}{a:Option Addr}{q i t:Nat}{e:Go.Proofs.YtcbhdhmhidpdgaaGreatDoor.St}(h:aW W a q 6 (sts l))(ht:BT τ t l.length (.slice a l.length q))(hi:l[i]?=some e):
  ∃b off v0 v1 v2 v3 v4 v5,a=some ⟨b,off,none⟩/\aL W e.fl [v0,v1,v2,v3,v4,v5]/\Eg.FV τ (.l 8 0 2) v3/\(∃t' n',BT τ t' n' v4/\∃a' c',v4=.slice a' n' c')/\(∃t' n',BT τ t' n' v5/\∃a' c',v5=.slice a' n' c')/\W.cell? ⟨b,off+i*6+3,none⟩=some v3/\W.cell? ⟨b,off+i*6+4,none⟩=some v4/\W.cell? ⟨b,off+i*6+5,none⟩=some v5:=by
 obtain⟨b,off,v0,v1,v2,v3,v4,v5,rfl,hr,r0,r1,r2,r3,r4,r5⟩:=aIz h hi;have Wk:=(zC1.1 hi).1;rcases ht with h0|⟨ht2,hs⟩
 .
  omega
 obtain⟨b',j,c',s,e9,_,_,_,_,_,_,hg⟩:=hs.get hT A0;have hk6:(Eg.Rs.rc (9+t)).k=6:=by
  have:t=0\/t=1\/t=2:=A0;exact QA127
 rw[hk6]at e9 hg;simp only[Value.slice.injEq,zG2,Addr.mk.injEq,true_and,and_true]at e9;obtain⟨⟨rfl,rfl⟩,rfl⟩:=e9;obtain⟨us,hu,hc⟩:=hg i Wk;have q3:us[3]?=some v3:=by
  have hl:us.length=6:=by
   exact QA51
  obtain⟨u,hz⟩:∃u,us[3]?=some u:=⟨_,zA0 A0⟩
  have:=hc 3 u hz;rw[Nat.add_mul,r3]at this;cases this;exact hz
 have q4:us[4]?=some v4:=by
  have hl:us.length=6:=by
   exact QA51
  obtain⟨u,hz⟩:∃u,us[4]?=some u:=⟨_,zA0 A0⟩
  have:=hc 4 u hz;rw[Nat.add_mul,r4]at this;cases this;exact hz
 have q5:us[5]?=some v5:=by
  have hl:us.length=6:=by
   exact QA51
  obtain⟨u,hz⟩:∃u,us[5]?=some u:=⟨_,zA0 A0⟩
  have:=hc 5 u hz;rw[Nat.add_mul,r5]at this;cases this;exact hz
 have none0:∀v,Eg.FV τ (.l 0 0 0) v->∃t' n',BT τ t' n' v/\∃a' c',v=.slice a' n' c':=fun v ⟨k,hk,hs⟩=>by
  obtain⟨a,c,e,_⟩:=hs.sh hT;exact⟨0,k,.inl A0,a,c,e⟩
 have Oa:∀v t9 m,t9<=2->Eg.FV τ (.l (9+t9) 0 m) v->∃t' n',BT τ t' n' v/\∃a' c',v=.slice a' n' c':=fun v t9 m ht9 ⟨k,hk,hs⟩=>by
  obtain⟨a,c,e,_⟩:=hs.sh hT;exact⟨t9,k,.inr ⟨ht9,hs⟩,a,c,e⟩
 have Cc:Eg.FV τ (.l 8 0 2) v3/\(∃t' n',BT τ t' n' v4/\∃a' c',v4=.slice a' n' c')/\(∃t' n',BT τ t' n' v5/\∃a' c',v5=.slice a' n' c'):=by
  have:t=0\/t=1\/t=2:=A0;rcases this with rfl|rfl|rfl
  .
   have Ik:Eg.RV τ (Eg.Dt 9).2 us:=by cases hq:s.q <;> rw[hq]at hu <;> exact hu
   obtain⟨y3,z3,f3⟩:=Eg.RV.get Ik (i:=3) rfl;obtain⟨y4,z4,f4⟩:=Eg.RV.get Ik (i:=4) rfl;obtain⟨y5,z5,f5⟩:=Eg.RV.get Ik (i:=5) rfl;rw[q3]at z3;rw[q4]at z4;rw[q5]at z5;cases z3;cases z4;cases z5;exact⟨f3,none0 _ f4,none0 _ f5⟩
  .
   have Ik:Eg.RV τ (Eg.Dt 10).2 us:=by cases hq:s.q <;> rw[hq]at hu <;> exact hu
   obtain⟨y3,z3,f3⟩:=Eg.RV.get Ik (i:=3) rfl;obtain⟨y4,z4,f4⟩:=Eg.RV.get Ik (i:=4) rfl;obtain⟨y5,z5,f5⟩:=Eg.RV.get Ik (i:=5) rfl;rw[q3]at z3;rw[q4]at z4;rw[q5]at z5;cases z3;cases z4;cases z5;exact⟨f3,Oa _ 0 _ A0 f4,Oa _ 0 _ A0 f5⟩
  .
   have Ik:Eg.RV τ (Eg.Dt 11).2 us:=by cases hq:s.q <;> rw[hq]at hu <;> exact hu
   obtain⟨y3,z3,f3⟩:=Eg.RV.get Ik (i:=3) rfl;obtain⟨y4,z4,f4⟩:=Eg.RV.get Ik (i:=4) rfl;obtain⟨y5,z5,f5⟩:=Eg.RV.get Ik (i:=5) rfl;rw[q3]at z3;rw[q4]at z4;rw[q5]at z5;cases z3;cases z4;cases z5;exact⟨f3,Oa _ 1 _ A0 f4,Oa _ 1 _ A0 f5⟩
 exact⟨_,_,v0,v1,v2,v3,v4,v5,rfl,hr,Cc.1,Cc.2.1,Cc.2.2,r3,r4,r5⟩
end Cp
end
namespace Cp
def UB (l:List Go.Proofs.YtcbhdhmhidpdgaaGreatDoor.St):Prop:=∀(t:Nat) (E:En) (d:GD) (w:World) (Q:Ending->World->Prop) (p:Pr) (a:Option Addr) (q:Nat),dX E->(∀f ∈ E.fs,∀y ∈ f.procs,y.kinds.length<=1048576)->GS E d w->(d.r 1).n+aK l<=1000000->eE E.m E.fs p l=true->aW E.w0 a q 6 (sts l)->BT E.τ0 t l.length (.slice a l.length q)->(∀d' w',Us E d w (aK l) d' w'->Q (.returned (.tuple #[])) w') →
 Calls Tryz.prog 53 #[.pointer (some ⟨E.g,0,none⟩),.slice a l.length q] w Q
set_option maxHeartbeats 40000000 in
theorem rD (l:List Go.Proofs.YtcbhdhmhidpdgaaGreatDoor.St)(IH:∀k n name ks bs es,Go.Proofs.YtcbhdhmhidpdgaaGreatDoor.St.mk k n name ks bs es ∈ l->UB bs/\UB es):UB l:=by
 intro t E d w Q p a q hE Ca hG hn hg hL ht kk;have HE:=hid hE;have Jo:=hid Ca;have Ks:=hid IH;have HK:=hid kk;have HL:=hid hL;have Do:=hid hg;have HT:=hid ht;have Gn:=hid hn;have hl9:l.length<=9223372036854775807:=by
  have:=hL.len9;rwa [bA,zB2]at this
 obtain⟨nl,Kh⟩:=zx (l.length);have Wy:=hid Kh.symm;rw[<-Kh]at hl9 ⊢;have S0:=(Us.start hG);clear kk hE Ca hg hL ht hG Kh IH hn;go_enter Tryz.func53,Tryz.ntmps53;go_wp2_with fail;go_loopw [4] (fun i wr=>∃(j:Nat) (d':GD),j<=nl/\i=.int .i64 j/\Hid (Us E d w (aK (l.take j)) d' wr)) (fun i _=>nl-(intOf i).toNat)
 case atStart=>exact⟨0,d,zD1 _,rfl,by show Us _ _ _ _ _ _;simpa [aK] using S0⟩
 case round=>
  obtain⟨j,d2,hj,rfl,Hs⟩:=hrel;by_cases Ad:j<nl
  .
   obtain⟨e,he⟩:∃e,l[j]?=some e:=⟨_,zA0 A61⟩
   have Ax:=hid (eT he);have Lw:Hid (aK (l.take j)+gD e<=aK l):=by
    exact QA113
   have Ly:=sD Do.out e (zA3 he);obtain⟨b,off,s0,s1,s2,s3,s4,s5,rfl,Sx,t3,⟨t4,m4,bt4,a4',c4',e4'⟩,⟨t5,m5,bt5,a5',c5',e5'⟩,r3,r4,r5⟩:=aKf HE.out.th HL.out HT.out he;cases e with
   | mk sk sn name ks bs es=>
   obtain⟨IB,IE⟩:=Ks.out sk sn name ks bs es (zA3 he);have Ra:=hid IB;have To:=hid IE;obtain⟨_,_,e0,_,_,_,e1,_,_,_,e2,_,_,_,e3,Tc,_,_,e4,Tb,_,_,e5,hl5,_⟩:=Sx;cases e0;cases e1;cases e2;cases e3;cases e4;cases e5;obtain⟨ak,ck,rfl,hLK⟩:=Tc.list;obtain⟨ab,cb,rfl,Gu⟩:=Tb.list;obtain⟨ae,ce,rfl,Gt⟩:=hl5.list;have ek:(exs ks).length=ks.length:=by rw[aX,zB2]
   have eb:(sts bs).length=bs.length:=by rw[bA,zB2]
   have ee:(sts es).length=es.length:=by rw[bA,zB2]
   simp only[Value.slice.injEq]at e4' e5';obtain⟨rfl,rfl,rfl⟩:=e4';obtain⟨rfl,rfl,rfl⟩:=e5';rw[ek]at t3 r3;rw[eb]at bt4 r4;rw[ee]at bt5 r5;have Yo:=hid hLK;have Vv:=hid Gu;have HLE2:=hid Gt;have HT3:=hid t3;have HT4:=hid bt4;have HT5:=hid bt5;have hnd:gD (.mk sk sn name ks bs es)=1+(aD ks+aK bs+aK es):=by simp[gD]
   have HND':Hid (aK (l.take (j+1))=aK (l.take j)+(1+(aD ks+aK bs+aK es))):=by show _=_;rw[Ax.out,hnd]
   have Ce:(d.r 1).n+(aK (l.take j)+(1+(aD ks+aK bs+aK es)))<=1000000:=by have:=Lw.out;have:=Gn.out;rw[<-hnd];omega
   simp only[wZ,zC0,zE3]at Ly;obtain⟨⟨⟨⟨⟨_,_⟩,_⟩,Af⟩,Az⟩,Bt⟩:=Ly;have Dg:=hid Af;have HG5:=hid Az;have Ed:=hid Bt;obtain⟨nk,hnk⟩:=zx (ks.length);obtain⟨nb,Ba⟩:=zx (bs.length);obtain⟨ne,Ae⟩:=zx (es.length);have Am:=hid hnk.symm;have Dz:=hid Ba.symm;have Kr:=hid Ae.symm;have hnk9:nk<=9223372036854775807:=by
    have:=hLK.len9;omega
   rw[<-hnk]at r3;rw[<-Ba]at r4;rw[<-Ae]at r5;have R3:=hid r3;have R4:=hid r4;have R5:=hid r5;have Gs:(j:Int)<(nl:Int):=A0;clear Tc Tb hl5 hLK Gu Gt ek eb ee t3 bt4 bt5 Af Az Bt hnk Ba Ae r3 r4 r5 IB IE he hnd;go_wp2_with fail;go_loopw [5] (fun i wr=>∃(z:Nat) (d':GD),z<=nk/\i=.int .i64 z/\Hid (Us E d w (aK (l.take j)+aD (ks.take z)) d' wr)) (fun i _=>nk-(intOf i).toNat)
   case atStart=>exact⟨0,d2,zD1 _,rfl,by show Us _ _ _ _ _ _;simpa [aD] using Hs.out⟩
   case round=>
    obtain⟨z,d3,hz,rfl,Hz⟩:=hrel;have r3:=aB R3.out Hz.out.gs.bel;by_cases Ug:z<nk
    .
     obtain⟨x,hx⟩:∃x,ks[z]?=some x:=⟨_,zA0 (by rw[Am.out];exact Ug)⟩
     have HXD:=hid (bR hx);have HXL:Hid (aD (ks.take z)+cQ x<=aD ks):=by
      show _<=_
      rw[<-bR hx,<-List.take_append_drop (z+1) ks,jW,List.take_append_drop];omega
     have HXM:Hid (x ∈ ks):=zA3 hx;obtain⟨bk,ok,u0,u1,u2,u3,u4,rfl,hvx,htx,y0,y1,y2,y3,y4⟩:=aOn HE.out.th Yo.out HT3.out hx;have HVX:Hid (aL E.w0 x.fl [u0,u1,u2,u3,u4]/\Eg.RV E.τ0 (XF 3) [u0,u1,u2,u3,u4]):=⟨hvx,htx⟩
     have y0:=aB y0 Hz.out.gs.bel;have y1:=aB y1 Hz.out.gs.bel;have y2:=aB y2 Hz.out.gs.bel;have y3:=aB y3 Hz.out.gs.bel;have y4:=aB y4 Hz.out.gs.bel;have Xm:(z:Int)<(nk:Int):=A0;clear hvx htx hx;go_wp2_with fail;refine aNf x 3 E d3 wr _ p _ _ _ _ _ (zB0 3) HVX.out.2 HE.out Jo.out Hz.out.gs (by have:=HXL.out;have:=Hz.out.n;omega) (dG Dg.out x HXM.out) HVX.out.1 (fun d4 w4 t4'=>?_);have q4:=Hz.out.trans t4';clear y0 y1 y2 y3 y4 r3 t4';go_wp2;go_roundw
     case rel=>exact⟨z+1,d4,by omega,by go_num,by show Us _ _ _ _ _ _;rw[HXD.out];exact q4.wide A0⟩
     case measure=>simp[intOf];omega
    .
     have:nk=z:=A0;subst this;have q3:Us E d w (aK (l.take j)+aD ks) d3 wr:=by have:=Hz.out;rwa [zD3 (l:=ks) A18]at this
     have r4:=aB R4.out q3.gs.bel;clear Hz Hs;go_wp2_with fail;have Kf:=Ra.out t4 E d3 wr;rw[Dz.out]at Kf;refine Kf _ p ab cb HE.out Jo.out q3.gs (by have:=q3.n;omega) HG5.out Vv.out (by have:=HT4.out;rw[Dz.out]at this;exact this) (fun d4 w4 t4'=>?_);have q4:=q3.trans t4';clear q3 t4' r3 r4 Kf;have r5:=aB R5.out q4.gs.bel;go_wp2_with fail;have Kf:=To.out t5 E d4 w4;rw[Kr.out]at Kf;refine Kf _ p ae ce HE.out Jo.out q4.gs (by have:=q4.n;omega) Ed.out HLE2.out (by have:=HT5.out;rw[Kr.out]at this;exact this) (fun d5 w5 t5'=>?_);have q5:=q4.trans t5';clear q4 t5' r5 Kf;go_wp2;go_roundw
     case rel=>exact⟨j+1,d5,by omega,by go_num,by show Us _ _ _ _ _ _;rw[HND'.out];exact q5.wide A0⟩
     case measure=>simp[intOf];omega
  .
   have:nl=j:=A0;subst this;have q0:Us E d w (aK l) d2 wr:=by have:=Hs.out;rwa [zD3 A72]at this
   clear Hs S0;go_wp2_with fail;exact nY Tryz.results53 (HK.out _ _ q0)
mutual
theorem aJ8:∀s:Go.Proofs.YtcbhdhmhidpdgaaGreatDoor.St,∀k n name ks bs es,s=Go.Proofs.YtcbhdhmhidpdgaaGreatDoor.St.mk k n name ks bs es->UB bs/\UB es
 | .mk k n name ks bs es,_,_,_,_,_,_,h=>by
  cases h;exact⟨rD bs (nU bs),rD es (nU es)⟩
theorem nU:∀l:List Go.Proofs.YtcbhdhmhidpdgaaGreatDoor.St,∀k n name ks bs es,Go.Proofs.YtcbhdhmhidpdgaaGreatDoor.St.mk k n name ks bs es ∈ l->UB bs/\UB es
 | [],_,_,_,_,_,_,h=>by cases h
 | x :: l,k,n,name,ks,bs,es,h=>(zG3.1 h).elim (fun q=>aJ8 x k n name ks bs es q.symm) (nU l k n name ks bs es)
end
theorem aFx (l:List Go.Proofs.YtcbhdhmhidpdgaaGreatDoor.St):UB l:=rD l (nU l)
end Cp
section
namespace Cp
variable{E:En}{xs:List Value}
theorem aGp{W:World}{T base k n m c:Nat}{a:Option Addr}(h:W.ownsRow base T k (.slice a n c) n xs)(hm:m<=n):W.ownsRow base T k (.slice a m c) m (xs.take (m*k)):=by
 have hl:=h.1;have hmk:=Nat.mul_le_mul_right k hm;refine⟨by rw[List.length_take];omega, ?_⟩;rcases h.2 with⟨e,h0⟩|⟨g,cap,cur,e,h1,h2,h3,h4,h5,h6⟩
 .
  cases e;exact .inl ⟨by rw[show m=0 by omega],by omega⟩
 .
  cases e;refine .inr ⟨g,_,cur,rfl,h1,h2,by omega,h4,h5, ?_⟩;rw[<-h6,List.take_take,Nat.min_eq_left hmk]
theorem aJn (w:World)(r:Option Nat):w.grownBy w r:=aP w r
theorem GS.cut{d:GD}{w:World}(h:GS E d w)(hE:dX E){i m n c:Nat}{a:Option Addr}(hi:i<5)(hv:(d.r i).v=.slice a n c)(hm:m<=(d.r i).n)(a9:Nat)(b9:Int)(he:El E ((d.at a9 b9).put i ⟨.slice a m c,m,(d.r i).xs.take (m*RK i)⟩)):
  GS E ((d.at a9 b9).put i ⟨.slice a m c,m,(d.r i).xs.take (m*RK i)⟩) (w.setCell ⟨E.g,RP i,none⟩ (.slice a m c))/\Kt w (w.setCell ⟨E.g,RP i,none⟩ (.slice a m c)):=by
 have hr:=h.row i hi;have hn:(d.r i).n=n:=by
  obtain⟨a',c',e,_⟩:=aH hr;rw[hv]at e;simp only[Value.slice.injEq]at e;exact e.2.1.symm
 rw[hv,hn]at hr;have ho:=aGp hr (m:=m) A0;refine⟨h.put hE hi (q:=⟨.slice a m c,m,(d.r i).xs.take (m*RK i)⟩) (aJn w _) ho (fun b hb=>.inl ?_) a9 b9 he,h.kt hi (aJn w _) _⟩;rw[hv];have hb:(Value.slice a m c).ownBlock=some b:=hb;cases a with
 | none=>cases hb| some p=>exact hb
theorem aFg(h:aCj xs)(m:Nat):aCj (xs.take m):=fun u hu=>h u (List.mem_of_mem_take hu)
theorem aFp.take {b:Nat}{xs:List Value}(h:aFp b xs)(m:Nat):aFp b (xs.take m):=fun u hu=>h u (List.mem_of_mem_take hu)
theorem El.cut0{d:GD}(h:El E d)(h0:d.sl=0){m:Nat}(hm:m<=(d.r 0).n)(v:Value):El E ((d.at ((d.r 0).n-m) d.s4).put 0 ⟨v,m,(d.r 0).xs.take (m*6)⟩):=
 ⟨aFg h.e0 _,h.e1,h.e2,h.n2,h.e3.mono (by show(d.r 0).n+d.sl<=m+((d.r 0).n-m);omega),by have:=h.m3;show(d.r 3).n<=m+((d.r 0).n-m);omega,h.e4,h.n4,h.rp,h.hl⟩
theorem El.cut3{d:GD}(h:El E d){m:Nat}(hm:m<=(d.r 3).n)(v:Value):El E ((d.at d.sl (d.s4+((m:Int)-(d.r 3).n))).put 3 ⟨v,m,(d.r 3).xs.take (m*1)⟩):=
 ⟨h.e0,h.e1,h.e2,h.n2,h.e3.take _,by have:=h.m3;show m<=(d.r 0).n+d.sl;omega,h.e4,by have:=h.n4;show((d.r 4).n:Int)+(d.s4+((m:Int)-(d.r 3).n))=(m:Nat);omega,h.rp,h.hl⟩
theorem El.cut4{d:GD}(h:El E d){m:Nat}(hm:m=(d.r 3).n)(h3:aFp (d.r 0).n (d.r 3).xs)(h0:(d.r 3).n<=(d.r 0).n)(v:Value):El E ((d.at 0 0).put 4 ⟨v,m,(d.r 4).xs.take (m*1)⟩):=
 ⟨h.e0,h.e1,h.e2,h.n2,h3,h0,h.e4.take _,by subst hm;show(((d.r 3).n:Nat):Int)+0=((d.r 3).n:Nat);omega,h.rp,h.hl⟩
end Cp
end
namespace Cp
theorem aI4 {E:En}(hE:dX E){j:Nat}{p:Pr}(hj:E.m.procs[j]?=some p):∃b off n q v0 v1 v2 v3 v4,E.m3=.slice (some ⟨b,off,none⟩) n q/\E.m.procs.length=n/\aL E.w0 p.fl [v0,v1,v2,v3,v4]/\Eg.FV E.τ0 (.b 4) v0/\(∃n4 a4 q4,v4=.slice a4 n4 q4/\BT E.τ0 2 n4 v4) ∧
  E.w0.cell? ⟨b,off+j*5,none⟩=some v0/\E.w0.cell? ⟨b,off+j*5+1,none⟩=some v1/\E.w0.cell? ⟨b,off+j*5+2,none⟩=some v2/\E.w0.cell? ⟨b,off+j*5+3,none⟩=some v3/\E.w0.cell? ⟨b,off+j*5+4,none⟩=some v4:=by
 obtain⟨ap,np,qp,em,Eu,hL⟩:=aC6 hE.rm;obtain⟨b,off,v0,v1,v2,v3,v4,rfl,hr,r0,r1,r2,r3,r4⟩:=aI5 hL hj;have Qn:=(zC1.1 hj).1;obtain⟨y3,z3,f3⟩:=Eg.RV.get hE.tm (i:=3) (f:=.l 12 1 3) rfl;have z3:some E.m3=some y3:=z3;cases z3;rw[em]at f3;obtain⟨k,hk,hs⟩:=f3;obtain⟨a,c,e,_⟩:=hs.sh hE.th;cases e;obtain⟨b',j',c',s,e9,_,_,_,_,_,_,hg⟩:=hs.get hE.th A0;have My:(Eg.Rs.rc 12).k=5:=rfl;rw[My]at e9 hg;simp only[Value.slice.injEq,zG2,Addr.mk.injEq,true_and,and_true]at e9;obtain⟨⟨rfl,rfl⟩,rfl⟩:=e9;obtain⟨us,hu,hc⟩:=hg j A0;have Ik:Eg.RV E.τ0 (Eg.Dt 12).2 us:=by cases hq:s.q <;> rw[hq]at hu <;> exact hu
 obtain⟨y0,z0,f0⟩:=Eg.RV.get Ik (i:=0) rfl;obtain⟨y4,z4,f4⟩:=Eg.RV.get Ik (i:=4) (f:=.l 11 0 11) rfl;have q0:=hc 0 _ z0;have q4:=hc 4 _ z4;rw[Nat.add_mul,zG1,r0]at q0;rw[Nat.add_mul,r4]at q4;cases q0;cases q4;obtain⟨k4,_,Mq⟩:=f4;obtain⟨a4,c4,e4,_⟩:=Mq.sh hE.th;exact⟨_,_,_,_,v0,v1,v2,v3,v4,em,Eu,hr,f0,⟨k4,a4,c4,e4,.inr ⟨zB0 2,Mq⟩⟩,r0,r1,r2,r3,r4⟩
end Cp
namespace Cp
def rd0:RD:=⟨.slice none 0 0,0,[]⟩
def GD.zero (g np:Nat):GD:=⟨⟨[],false,[],[],[]⟩,.slice none 0 0,.bool false,.slice none 0 0,.slice none 0 0,.slice none 0 0,0,0,0,0,fun i=>if i=2 then ⟨.slice (some ⟨g,0,none⟩) np np,np,List.replicate np (.int .i64 0)⟩ else rd0⟩
theorem aUw {W:World}{base:Nat}{T:TypeId}{k:Nat}:W.ownsRow base T k (.slice none 0 0) 0 []:=⟨by simp,.inl ⟨rfl,rfl⟩⟩
theorem GS.start {E:En}(hE:dX E){w1 w:World}{gb:Nat}(hb:Below E.w0.heap.size E.w0 w1)(h1:E.w0.heap.size<=gb)(h2:gb<w1.heap.size)(hz:w1.heap[gb]?=some (.cells (List.replicate E.m.procs.length (Value.int .i64 0)).toArray 3 (0,0)))(hg:E.g=w1.heap.size)(hw:w=w1.alloc (.cells (cells E (GD.zero gb E.m.procs.length)).toArray 143 (0,0))):GS E (GD.zero gb E.m.procs.length) w:=by
 subst hw;have hl:∀i b,i<5->((GD.zero gb E.m.procs.length).r i).v.ownBlock=some b->i=2/\b=gb:=fun i b hi e=>by
  by_cases h:i=2
  .
   subst h;cases e;exact⟨rfl,rfl⟩
  .
   have:(GD.zero gb E.m.procs.length).r i=rd0:=if_neg h;rw[this]at e;cases e
 refine⟨?_,hb.alloc hb.size _,fun i hi=>?_,fun i j b hi hj hij e1 e2=>?_,fun i b hi e=>?_, ?_⟩
 .
  rw[hg];exact Blk.new w1 143 (cells E (GD.zero gb E.m.procs.length))
 .
  by_cases h:i=2
  .
   subst h;have hp:E.m.procs.length<=maxLen:=by have:=hE.ok.procs;unfold maxLen;omega
   have Mt:(w1.alloc (.cells (cells E (GD.zero gb E.m.procs.length)).toArray 143 (0,0))).heap[gb]?=w1.heap[gb]?:=((zD2 w1.heap.size w1).alloc (zB0 _) _).block gb h2;have e2:(GD.zero gb E.m.procs.length).r 2=⟨.slice (some ⟨gb,0,none⟩) E.m.procs.length E.m.procs.length,E.m.procs.length,List.replicate E.m.procs.length (.int .i64 0)⟩:=rfl;rw[e2];exact⟨by show(List.replicate _ _).length=_*1;simp,.inr ⟨gb,E.m.procs.length,_,rfl,h1,Mt.trans hz,zB0 _,hp,by show(List.replicate _ _).toArray.size=_*1;simp,by show List.take (_*1) (List.replicate _ _)=List.replicate _ _;simp⟩⟩
  .
   have:(GD.zero gb E.m.procs.length).r i=rd0:=if_neg h;rw[this];exact aUw
 .
  have a:=hl i b hi e1;have c:=hl j b hj e2;omega
 .
  have a:=hl i b hi e;omega
 .
  refine⟨(fun u hu=>by cases hu),⟨[],rfl,(fun us hu=>by cases hu)⟩,(fun u hu=>⟨0,(List.mem_replicate.1 hu).2⟩),rfl,(fun u hu=>by cases hu),zD1 _,(fun u hu=>by cases hu),rfl, ?_,⟨by simp[GD.zero],by simp[GD.zero]⟩⟩;have nb:aV E.w0 none 0 []:=⟨rfl,(fun _ h=>by cases h),(fun h=>by cases h)⟩
  exact⟨_,_,rfl,⟨none,0,rfl,nb,zB0 _,zD1 _,fun _=>rfl⟩,_,_,rfl,rfl,_,_,rfl,⟨none,0,rfl,zB0 _,zD1 _,(fun _=>rfl),(fun h=>by cases h)⟩,_,_,rfl,⟨none,0,rfl,zB0 _,zD1 _,(fun _=>rfl),(fun h=>by cases h)⟩,_,_,rfl,⟨none,0,rfl,zB0 _,zD1 _,(fun _=>rfl),(fun h=>by cases h)⟩,rfl⟩
end Cp
namespace Cp
theorem aRs {W:World}{base n j:Nat}{T:TypeId}{v:Value}{xs:List Value}(h:W.ownsRow base T 1 v n xs)(hj:j<n):∃b c u,v=.slice (some ⟨b,0,none⟩) n c/\xs[j]?=some u/\u ∈ xs/\W.cell? ⟨b,j,none⟩=some u:=by
 obtain⟨a,c,rfl,_,_,_,ha⟩:=aH h;obtain⟨b,rfl⟩:=ha A0;have hl:=h.1;obtain⟨u,hu⟩:∃u,xs[j]?=some u:=⟨_,zA0 A0⟩
 exact⟨b,c,u,rfl,hu,zA3 hu,dL h _ _ hu⟩
theorem GS.fixAt {E:En}{d:GD}{w:World}(h:GS E d w)(h1:d.sl=0)(h4:d.s4=0){k:Nat}(hk:k<(d.r 3).n):∃(b3 c3 b4 c4 b2 c2 x y:Nat) (z:Int),
  w.cell? ⟨E.g,15,none⟩=some (.slice (some ⟨b3,0,none⟩) (d.r 3).n c3)/\w.cell? ⟨b3,k,none⟩=some (.int .i64 (x:Int))/\x<(d.r 0).n ∧
  w.cell? ⟨E.g,16,none⟩=some (.slice (some ⟨b4,0,none⟩) (d.r 3).n c4)/\w.cell? ⟨b4,k,none⟩=some (.int .i64 (y:Int)) ∧
  w.cell? ⟨E.g,14,none⟩=some (.slice (some ⟨b2,0,none⟩) E.m.procs.length c2)/\y<E.m.procs.length/\w.cell? ⟨b2,y,none⟩=some (.int .i64 z):=by
 have n4:=h.el.n4;have e4n:(d.r 4).n=(d.r 3).n:=A0;have n2:=h.el.n2;obtain⟨b3,c3,u3,e3,_,m3,k3⟩:=aRs (h.row 3 A0) hk;obtain⟨b4,c4,u4,e4,_,m4,k4⟩:=aRs (h.row 4 A0) (j:=k) A0;obtain⟨x,rfl,hx⟩:=h.el.e3 u3 m3;obtain⟨y,rfl,hy⟩:=h.el.e4 u4 m4;obtain⟨b2,c2,u2,e2,_,m2,k2⟩:=aRs (h.row 2 A0) (j:=y) A0;obtain⟨z,rfl⟩:=h.el.e2 u2 m2;rw[e4n]at e4;rw[n2]at e2;exact⟨b3,c3,b4,c4,b2,c2,x,y,z,h.blk.cell (i:=15) (by rw[<-e3];rfl),k3,by omega,h.blk.cell (i:=16) (by rw[<-e4];rfl),k4,h.blk.cell (i:=14) (by rw[<-e2];rfl),hy,k2⟩
end Cp
section
theorem A44{p:Prop}(h:p:=by simp only[zB1,zC3];omega):p:=h
namespace Cp
theorem aPn (w:World)(k i:Nat)(v:Value):w.grownBy (w.setCell ⟨k,i,none⟩ v) (some k):=
 ⟨rfl,rfl,rfl,by simp,fun j hj Ae=>heap_setCell_other w ⟨k,i,none⟩ j v (fun e=>Ae A82)⟩
section
variable {E:En} {d d':GD} {w w':World}
theorem GS.far (h:GS E d w)(hE:dX E){r:Option Nat}(hg:w.grownBy w' r)(hb:∀b,r=some b->E.w0.heap.size<=b)(hr:∀b,r=some b->∃cs T fl,w.heap[b]?=some (Obj.cells cs T fl)/\aGx T=false):GS E d w':=by
 have Ae:∀b cs T,w.heap[b]?=some (Obj.cells cs T (0,0))->aGx T=true->some b ≠ r:=fun b cs T hb hm e=>by
  obtain⟨Qt,T',fl',e1,e2⟩:=hr b e.symm;rw[hb]at e1;cases e1;rw[hm]at e2;cases e2
 have Au:∀i,i<5->∀b,(d.r i).v.ownBlock=some b->w'.heap[b]?=w.heap[b]?:=fun i hi b e=>by
  obtain⟨cs,h1⟩:=iU (h.row i hi) e;exact hg.block b ((h.row i hi).lt b e).2 (Ae b cs _ h1 mL)
 exact⟨(hg.block E.g h.lt (Ae E.g _ _ h.blk rfl)).trans h.blk,h.bel.grown hg h.bel.size hb,fun i hi=>bT (h.row i hi) (Au i hi),h.dj,h.ng,h.el⟩
theorem GS.farS (h:GS E d w)(hE:dX E){b i:Nat}{T:TypeId}{vs:List Value}(hb:Blk w b T vs)(Ad:E.w0.heap.size<=b)(hm:aGx T=false)(v:Value):GS E d (w.setCell ⟨b,i,none⟩ v):=
 h.far hE (aPn w b i v) (fun c e=>by cases e;exact Ad) (fun c e=>by cases e;exact⟨_,_,_,hb,hm⟩)
theorem GS.frame (h:GS E d w)(hE:dX E)(x:Int):GS E { d with fr:=x } (w.setCell ⟨E.g,11,none⟩ (.int .i64 x))/\Kt w (w.setCell ⟨E.g,11,none⟩ (.int .i64 x)):=by
 have e:=h.el;exact⟨h.own hE (d':={ d with fr:=x }) (cs:=[.int .i64 x]) (o:=11) rfl (h.blk.set (i:=11) (.int .i64 x)) ⟨e.e0,e.e1,e.e2,e.n2,e.e3,e.m3,e.e4,e.n4,e.rp,e.hl⟩,h.kto [.int .i64 x] 11⟩
theorem GS.mostS (h:GS E d w)(hE:dX E)(x:Int):GS E { d with mo:=x } (w.setCell ⟨E.g,12,none⟩ (.int .i64 x))/\Kt w (w.setCell ⟨E.g,12,none⟩ (.int .i64 x)):=by
 have e:=h.el;exact⟨h.own hE (d':={ d with mo:=x }) (cs:=[.int .i64 x]) (o:=12) rfl (h.blk.set (i:=12) (.int .i64 x)) ⟨e.e0,e.e1,e.e2,e.n2,e.e3,e.m3,e.e4,e.n4,e.rp,e.hl⟩,h.kto [.int .i64 x] 12⟩
structure Xo (E:En) (w:World) (v:Value) (n:Nat) (xss:List (List Value)):Prop where
 own:w.ownsRow E.w0.heap.size 69 3 v n xss.flatten
 len:xss.length=n
 ty:∀us ∈ xss,Eg.RV E.τ0 [.b 4,.n,.n] us
theorem Xo.nil (E:En)(w:World):Xo E w (.slice none 0 0) 0 []:=⟨⟨by simp,.inl ⟨rfl,rfl⟩⟩,rfl,fun us h=>by cases h⟩
theorem Xo.kt {v:Value}{n:Nat}{xss:List (List Value)}(h:Xo E w v n xss)(k:Kt w w'):Xo E w' v n xss:=⟨bT h.own fun b hb=>by
 obtain⟨cs,e⟩:=iU h.own hb;exact k.blk b cs _ _ e rfl,h.len,h.ty⟩
theorem Xo.on {v:Value}{n:Nat}{xss:List (List Value)}(h:Xo E w v n xss)(k:Below w.heap.size w w'):Xo E w' v n xss:=⟨bT h.own fun b hb=>k.block b (h.own.lt b hb).2,h.len,h.ty⟩
theorem aRo (hE:dX E)(h:GS E d w){v:Value}{n:Nat}{xss:List (List Value)}(hX:Xo E w v n xss):
  ∃τ',Eg.Fr ⟨true,[],E.τ0,E.w0⟩ τ' w/\Eg.Tg τ'/\Eg.Sub E.τ0 τ'/\Eg.SV τ' (.rc 18) n v/\Eg.SV τ' (.rc 19) (d.r 1).n (d.r 1).v/\(∀b,w.heap.size<=b->τ' b=none)/\∀b,v.ownBlock ≠ some b->(d.r 1).v.ownBlock ≠ some b->τ' b=E.τ0 b:=by
 have f0:Eg.Fr ⟨true,[],E.τ0,E.w0⟩ E.τ0 w:=((Eg.Fr.refl (st:=true) (K:=[]) hE.th).below h.bel).fr;have h1:=h.row 1 A0;obtain⟨Fe,ey,hy⟩:=h.el.e1;obtain⟨τ1,f1,s1,u1,n1,t1⟩:=f0.own (k:=.rc 18) (xss:=xss) (base:=E.w0.heap.size) hX.own hX.ty hX.len (zB0 _) (fun g hg=>hE.th.fresh (hX.own.lt g hg).1);have Ah:Fe.length=(d.r 1).n:=by
  have e1:=h1.1;rw[ey]at e1;have e2:=Eg.flat_len Fe (k:=3) fun us hu=>Eg.RV.length (hy us hu);have e1:Fe.flatten.length=(d.r 1).n*3:=e1;omega
 obtain⟨τ2,f2,s2,u2,n2,t2⟩:=f1.own (k:=.rc 19) (v:=(d.r 1).v) (n:=(d.r 1).n) (xss:=Fe) (base:=E.w0.heap.size) (by rw[<-ey];exact h1) (fun us hu=>(hy us hu).sub u1) Ah (zB0 _) (fun g hg=>by
  have Ae:v.ownBlock ≠ some g:=fun e=>by
   obtain⟨c1,e1⟩:=iU hX.own e;obtain⟨c2,e2⟩:=iU h1 hg;rw[e1]at e2;cases e2
  rw[n1 g Ae];exact hE.th.fresh (h1.lt g hg).1)
 exact⟨τ2,f2,t2 (t1 hE.tg),u1.trans u2,s1.sub u2,s2,fun b hb=>f2.th.fresh hb,fun b h1 h2=>(n2 b h2).trans (n1 b h1)⟩
theorem aQb:∀(n:Nat) (xs:List Value),xs.length=n*6->aCj xs->∃l:List In6,l.length=n/\xs=gP l
 | 0,xs,h,_=>⟨[],rfl,List.length_eq_zero_iff.1 A0⟩| n+1,xs,h,ha=>by
  obtain⟨x0,x1,x2,x3,x4,x5,ys,rfl⟩:∃x0 x1 x2 x3 x4 x5 ys,xs=x0 :: x1 :: x2 :: x3 :: x4 :: x5 :: ys:=by
   match xs,h with
   | [],h=>exact absurd h A8| [_],h=>exact absurd h A44| [_,_],h=>exact absurd h A44| [_,_,_],h=>exact absurd h A44| [_,_,_,_],h=>exact absurd h A44| [_,_,_,_,_],h=>exact absurd h A44| x0 :: x1 :: x2 :: x3 :: x4 :: x5 :: ys,_=>exact⟨x0,x1,x2,x3,x4,x5,ys,rfl⟩
  obtain⟨l,hl,e⟩:=aQb n ys (by simp only[zB1]at h;omega) (fun u hu=>ha u (by simp[hu]));obtain⟨y0,rfl⟩:=ha x0 A8;obtain⟨y1,rfl⟩:=ha x1 A8;obtain⟨y2,rfl⟩:=ha x2 A8;obtain⟨y3,rfl⟩:=ha x3 A8;obtain⟨y4,rfl⟩:=ha x4 A8;obtain⟨y5,rfl⟩:=ha x5 A8;exact⟨⟨y0,y1,y2,y3,y4,y5⟩ :: l,by simp[hl],by rw[e];rfl⟩
theorem GS.codeRow (h:GS E d w):∃a c l,(d.r 0).v=.slice a (d.r 0).n c/\aA0 w a (d.r 0).n l:=by
 have h0:=h.row 0 A0;obtain⟨a,c,e,_,_,_,ha⟩:=aH h0;obtain⟨l,hl,ex⟩:=aQb (d.r 0).n (d.r 0).xs h0.1 h.el.e0;refine⟨a,c,l,e,hl,fun hn=>?_⟩;obtain⟨b,rfl⟩:=ha hn;refine⟨b,0,rfl,fun k u hu=>?_⟩;rw[zJ0];rw[e]at h0;exact dL h0 k u (by rw[ex];exact hu)
end
end Cp
end
section
namespace Cp
def zOb:List Value:=[.slice none 0 0,.slice none 0 0,.slice none 0 0,.int .i64 0,.slice none 0 0]
theorem aNe (τ:Eg.Sm):Eg.RV τ (Eg.Dt 20).2 zOb:=⟨_,_,rfl,⟨0,zD1 _,Eg.SV.nil _⟩,_,_,rfl,⟨0,⟨zB0 _,zD1 _⟩,Eg.SV.nil _⟩,_,_,rfl,⟨0,⟨zB0 _,zD1 _⟩,Eg.SV.nil _⟩,_,_,rfl,⟨0,rfl,by unfold Eg.I64;omega⟩,_,_,rfl,⟨0,zD1 _,Eg.SV.nil _⟩,rfl⟩
structure Lo (E:En) (gm gr go:Nat) (rq:RD) (nm:Value) (d:GD) (w:World) (xv:Value) (xn:Nat) (dt:Int):Prop where
 gs:GS E d w
 sl:d.sl=0
 s4:d.s4=0
 r1:d.r 1=rq
 bm:Blk w gm 86 E.ms
 br:Blk w gr 39 zOb
 bo:Blk w go 39 [nm,xv,rq.v,.int .i64 dt,.slice none 0 0]
 xo:∃xss,Xo E w xv xn xss
 di:Eg.I64 dt
 lt:E.w0.heap.size<=gm/\E.w0.heap.size<=gr/\E.w0.heap.size<=go/\gm ≠ go/\gr ≠ go
section
variable {E:En} {gm gr go:Nat} {rq:RD} {nm:Value} {d d' d1:GD} {w w' w1:World} {xv:Value} {xn:Nat} {dt:Int}
theorem Lo.start (hE:dX E)(g:GS E d w)(h1:d.sl=0)(h4:d.s4=0)(hb:Below w.heap.size w w')(bm:Blk w gm 86 E.ms)(br:Blk w gr 39 zOb)(bo:Blk w' go 39 [nm,.slice none 0 0,(d.r 1).v,.int .i64 0,.slice none 0 0])(lm:E.w0.heap.size<=gm)(lr:E.w0.heap.size<=gr)(lo:w.heap.size<=go):Lo E gm gr go (d.r 1) nm d w' (.slice none 0 0) 0 0:=
 ⟨g.on hE hb,h1,h4,rfl,bm.below hb bm.lt,br.below hb br.lt,bo,⟨[],Xo.nil E w'⟩,by unfold Eg.I64;omega,lm,lr,zF2 g.bel.size lo,by have:=bm.lt;omega,by have:=br.lt;omega⟩
theorem Lo.kt (h:Lo E gm gr go rq nm d w xv xn dt)(g:GS E d' w')(k:Kt w w')(h1:d'.sl=0)(h4:d'.s4=0)(hr:d'.r 1=d.r 1):Lo E gm gr go rq nm d' w' xv xn dt:=
 ⟨g,h1,h4,hr.trans h.r1,k.b A6 h.bm,k.b A6 h.br,k.b A6 h.bo,by
  obtain⟨xss,hx⟩:=h.xo;exact⟨xss,hx.kt k⟩,h.di,h.lt⟩
theorem Lo.on (h:Lo E gm gr go rq nm d w xv xn dt)(hE:dX E)(hb:Below w.heap.size w w'):Lo E gm gr go rq nm d w' xv xn dt:=h.kt (h.gs.on hE hb) (Kt.below hb) h.sl h.s4 rfl
theorem Lo.pc {c:Nat}(h:Lo E gm gr go rq nm d w xv xn dt)(p:Pc E d w c d1 w1):Lo E gm gr go rq nm d1 w1 xv xn dt:=h.kt p.gs p.kt p.sl p.s4 p.r1
theorem Xo.ne {xss:List (List Value)}(h:Xo E w xv xn xss){b T:Nat}{vs:List Value}(hb:Blk w b T vs)(hT:T ≠ 69):xv.ownBlock ≠ some b:=fun e=>by
 obtain⟨cs,h1⟩:=iU h.own e;rw[hb]at h1;cases h1;exact hT rfl
theorem Lo.data (h:Lo E gm gr go rq nm d w xv xn dt)(hE:dX E){x:Int}(hx:Eg.I64 x):Lo E gm gr go rq nm d (w.setCell ⟨go,3,none⟩ (.int .i64 x)) xv xn x:=by
 have Ad:=h.lt;refine⟨h.gs.farS hE h.bo A0 A6 _,h.sl,h.s4,h.r1,h.bm.other Ad.2.2.2.1,h.br.other Ad.2.2.2.2,h.bo.set (i:=3) (.int .i64 x), ?_,hx,h.lt⟩;obtain⟨xss,hX⟩:=h.xo;exact⟨xss,bT hX.own fun b hb=>heap_setCell_other w ⟨go,3,none⟩ b _ (fun e=>hX.ne h.bo A6 (by rw[show b=go from e]at hb;exact hb)),hX.len,hX.ty⟩
theorem Lo.app {xss:List (List Value)}(h:Lo E gm gr go rq nm d w xv xn dt)(hE:dX E)(hX:Xo E w xv xn xss){v':Value}{us:List Value}(ho:w1.ownsRow E.w0.heap.size 69 3 v' (xn+1) (xss.flatten++us))(hg:w.grownBy w1 xv.ownBlock)(hu:Eg.RV E.τ0 [.b 4,.n,.n] us):
  (∀(b T:Nat) (vs:List Value),Blk w b T vs->T ≠ 69->Blk w1 b T vs)/\Lo E gm gr go rq nm d (w1.setCell ⟨go,1,none⟩ v') v' (xn+1) dt:=by
 have Cc:∀(b T:Nat) (vs:List Value),Blk w b T vs->T ≠ 69->Blk w1 b T vs:=fun b T vs hb hT=>hb.below_row hg (hX.ne hb hT);have Ad:=h.lt;have bo1:=Cc _ _ _ h.bo A6;have g1:GS E d w1:=h.gs.far hE hg (fun b e=>(hX.own.lt b e).1) (fun b e=>by
  obtain⟨cs,e1⟩:=iU hX.own e;exact⟨cs,_,_,e1,by decide⟩)
 have hX':Xo E w1 v' (xn+1) (xss++[us]):=⟨by simpa using ho,by simp[hX.len],fun vs hv=>by
  rcases List.mem_append.1 hv with hv|hv
  .
   exact hX.ty vs hv
  .
   rw[List.mem_singleton.1 hv];exact hu⟩
 refine⟨Cc,⟨g1.farS hE bo1 A0 A6 _,h.sl,h.s4,h.r1,(Cc _ _ _ h.bm A6).other Ad.2.2.2.1,(Cc _ _ _ h.br A6).other Ad.2.2.2.2,bo1.set (i:=1) v',⟨xss++[us],bT hX'.own fun b hb=>heap_setCell_other w1 ⟨go,1,none⟩ b _ (fun e=>hX'.ne bo1 A6 (by rw[show b=go from e]at hb;exact hb)),hX'.len,hX'.ty⟩,h.di,h.lt⟩⟩
theorem Lo.cuts {c:Nat}(h:Lo E gm gr go rq nm d w xv xn dt)(hE:dX E)(p:Pc E d w c d1 w1):∃a0 n0 c0 a3 n3 c3 a4 n4 c4,
  (w1.cell? ⟨E.g,10,none⟩=some (.slice a0 n0 c0)/\((d.r 0).n:Int)<=(c0:Int)/\c0<=maxLen/\w1.frozen? ⟨E.g,10,none⟩=false) ∧
  ((w1.setCell ⟨E.g,10,none⟩ (.slice a0 (d.r 0).n c0)).cell? ⟨E.g,15,none⟩=some (.slice a3 n3 c3)/\((d.r 3).n:Int)<=(c3:Int)/\c3<=maxLen/\(w1.setCell ⟨E.g,10,none⟩ (.slice a0 (d.r 0).n c0)).frozen? ⟨E.g,15,none⟩=false) ∧
  (((w1.setCell ⟨E.g,10,none⟩ (.slice a0 (d.r 0).n c0)).setCell ⟨E.g,15,none⟩ (.slice a3 (d.r 3).n c3)).cell? ⟨E.g,16,none⟩=some (.slice a4 n4 c4)/\((d.r 3).n:Int)<=(c4:Int)/\c4<=maxLen/\((w1.setCell ⟨E.g,10,none⟩ (.slice a0 (d.r 0).n c0)).setCell ⟨E.g,15,none⟩ (.slice a3 (d.r 3).n c3)).frozen? ⟨E.g,16,none⟩=false) ∧
  ∃d4:GD,(d4.r 0).n=(d.r 0).n/\Kt w (((w1.setCell ⟨E.g,10,none⟩ (.slice a0 (d.r 0).n c0)).setCell ⟨E.g,15,none⟩ (.slice a3 (d.r 3).n c3)).setCell ⟨E.g,16,none⟩ (.slice a4 (d.r 3).n c4))/\Lo E gm gr go rq nm d4 (((w1.setCell ⟨E.g,10,none⟩ (.slice a0 (d.r 0).n c0)).setCell ⟨E.g,15,none⟩ (.slice a3 (d.r 3).n c3)).setCell ⟨E.g,16,none⟩ (.slice a4 (d.r 3).n c4)) xv xn dt:=by
 obtain⟨a0,c0,e0,l0,m0,_⟩:=aH (p.gs.row 0 A0);obtain⟨a3,c3,e3,l3,m3,_⟩:=aH (p.gs.row 3 A0);obtain⟨a4,c4,e4,l4,m4,_⟩:=aH (p.gs.row 4 A0);have hn4:(d1.r 4).n=(d1.r 3).n:=by have:=p.gs.el.n4;have:=p.s4;omega
 have b0:=p.n0;have b3:=p.n3;have k1:=p.gs.cut hE (i:=0) A0 e0 (m:=(d.r 0).n) b0 _ _ (p.gs.el.cut0 p.sl b0 _);have k2:=k1.1.cut hE (i:=3) (a:=a3) (n:=(d1.r 3).n) (c:=c3) A0 e3 (m:=(d.r 3).n) b3 _ _ (k1.1.el.cut3 b3 _);obtain⟨us,Tw⟩:=p.x3;have hx3:(d1.r 3).xs.take ((d.r 3).n*1)=(d.r 3).xs:=by
  have h9:(d.r 3).xs.length=(d.r 3).n*1:=(h.gs.row 3 A0).1;rw[Tw,List.take_append_of_le_length A0,zD3 A0]
 have hN:aFp (d.r 0).n (d.r 3).xs:=by have:=h.gs.el.e3;rw[h.sl]at this;exact this
 have hM:(d.r 3).n<=(d.r 0).n:=by have:=h.gs.el.m3;rw[h.sl]at this;exact this
 have k3:=k2.1.cut hE (i:=4) (a:=a4) (n:=(d1.r 4).n) (c:=c4) A0 e4 (m:=(d.r 3).n) (by show(d.r 3).n<=(d1.r 4).n;omega) 0 0 (k2.1.el.cut4 (m:=(d.r 3).n) rfl (by show aFp (d.r 0).n ((d1.r 3).xs.take ((d.r 3).n*1));rw[hx3];exact hN) hM _);have q1:=p.gs.blk;have q2:=k1.1.blk;have q3:=k2.1.blk;refine⟨a0,(d1.r 0).n,c0,a3,(d1.r 3).n,c3,a4,(d1.r 4).n,c4,⟨q1.cell (i:=10) (by rw[<-e0];rfl),by omega,m0,q1.free 10⟩,⟨q2.cell (i:=15) (by rw[<-e3];rfl),by omega,m3,q2.free 15⟩,⟨q3.cell (i:=16) (by rw[<-e4];rfl),by omega,m4,q3.free 16⟩, ?_⟩;have fin:∀d4:GD,GS E d4 (((w1.setCell ⟨E.g,10,none⟩ (.slice a0 (d.r 0).n c0)).setCell ⟨E.g,15,none⟩ (.slice a3 (d.r 3).n c3)).setCell ⟨E.g,16,none⟩ (.slice a4 (d.r 3).n c4))->d4.sl=0->d4.s4=0->d4.r 1=d1.r 1->(d4.r 0).n=(d.r 0).n->∃d4:GD,(d4.r 0).n=(d.r 0).n/\Kt w (((w1.setCell ⟨E.g,10,none⟩ (.slice a0 (d.r 0).n c0)).setCell ⟨E.g,15,none⟩ (.slice a3 (d.r 3).n c3)).setCell ⟨E.g,16,none⟩ (.slice a4 (d.r 3).n c4))/\Lo E gm gr go rq nm d4 (((w1.setCell ⟨E.g,10,none⟩ (.slice a0 (d.r 0).n c0)).setCell ⟨E.g,15,none⟩ (.slice a3 (d.r 3).n c3)).setCell ⟨E.g,16,none⟩ (.slice a4 (d.r 3).n c4)) xv xn dt:=fun d4 g h1 h2 h3 h4=>
  ⟨d4,h4,((p.kt.trans k1.2).trans k2.2).trans k3.2,h.kt g (((p.kt.trans k1.2).trans k2.2).trans k3.2) h1 h2 (h3.trans p.r1)⟩
 exact fin _ k3.1 rfl rfl rfl rfl
theorem Lo.fix (h:Lo E gm gr go rq nm d w xv xn dt)(hE:dX E){a:Nat}(ha:a<(d.r 0).n)(x:Int):∃b q,w.cell? ⟨E.g,10,none⟩=some (.slice (some ⟨b,0,none⟩) (d.r 0).n q)/\(∃y,w.cell? ⟨b,a*6+4,none⟩=some y)/\w.frozen? ⟨b,a*6+4,none⟩=false ∧
  ∃d':GD,((d'.r 0).n=(d.r 0).n/\d'.r 3=d.r 3)/\Lo E gm gr go rq nm d' (w.setCell ⟨b,a*6+4,none⟩ (.int .i64 x)) xv xn dt:=by
 have hr:=h.gs.row 0 A0;obtain⟨a0,q,e,_,_,_,ha0⟩:=aH hr;obtain⟨b,rfl⟩:=ha0 A0;have Di:=hr;rw[e]at Di;have Ah:(d.r 0).xs.length=(d.r 0).n*6:=hr.1;obtain⟨y,hy⟩:∃y,(d.r 0).xs[a*6+4]?=some y:=⟨_,zA0 A0⟩
 have el:=h.gs.el;have hs:=h.gs.cell hE (i:=0) A0 e (a*6+4) (.int .i64 x) ⟨fun u hu=>(List.mem_or_eq_of_mem_set hu).elim (el.e0 u) (fun e=>⟨x,e⟩),el.e1,el.e2,el.n2,el.e3,el.m3,el.e4,el.n4,el.rp,el.hl⟩;exact⟨b,q,h.gs.blk.cell (i:=10) A88,⟨y,dL Di _ _ hy⟩,Di.frozenAt _,d.put 0 ⟨(d.r 0).v,(d.r 0).n,(d.r 0).xs.set (a*6+4) (.int .i64 x)⟩,⟨rfl,rfl⟩,h.kt hs.1 hs.2 h.sl h.s4 rfl⟩
end
end Cp
end
theorem QA45{p:Prop}(h:p:=by
 go_wp2
 go_ret
 exact⟨aF HF.out.symm,y0⟩):p:=h
theorem QA69{p:Prop}(h:p:=by
 rintro e w1 ⟨rfl,rfl⟩
 go_wp2
 go_ret
 exact⟨aF HF.out.symm,hbw1⟩):p:=h
theorem QA78{p:Prop}(h:p:=by
 go_wp2
 go_ret
 exact⟨aF HF.out.symm,Yh⟩):p:=h
theorem aJg (x:Int)(w:World):Calls Tryz.prog 116 #[.int .i64 x] w fun e w'=>e=.returned (.bool (jL x 0 2147483647))/\w'=w:=by
 by_cases h1:0<=x
 .
  go_enter Tryz.func116,Tryz.ntmps116;go_wp2;go_ret;exact⟨aF (by simp[jL,h1]),rfl⟩
 .
  go_enter Tryz.func116,Tryz.ntmps116;go_wp2;go_ret;exact⟨aF (by simp[jL];omega),rfl⟩
set_option maxHeartbeats 8000000 in
theorem rF (o:O5)(b:ObL)(w:World)(h:vI w o b)(hs:osz b<=1048576):
  Calls Tryz.prog 58 #[.agg #[o.x,o.e,o.i,o.d,o.c]] w fun e w'=>e=.returned (.bool (cU b))/\Below w.heap.size w w':=by
 obtain⟨x,xe,xi,xd,xc⟩:=o;have EX:=hid (aJa hs h.exs);have IM:=hid (aI9 hs h.ims);obtain⟨nm,ex,im,dt,cd,_,_⟩:=h;simp only at nm ex im dt cd;obtain⟨a1,c1,rfl,r1,_⟩:=nm;obtain⟨a2,c2,rfl,r2,v2,_⟩:=ex;obtain⟨a3,c3,rfl,r3,_⟩:=im;obtain⟨a4,c4,rfl,r4,_⟩:=cd;subst dt;clear r4;unfold osz at hs;have x0:=B5.new w 39 ⟨.slice a1 b.name.length c1,.slice a2 b.ex.length c2,.slice a3 b.im.length c3,.int .i64 b.data,.slice a4 b.code.length c4⟩;have y0:Below w.heap.size w (w.alloc (.cells #[.slice a1 b.name.length c1,.slice a2 b.ex.length c2,.slice a3 b.im.length c3,.int .i64 b.data,.slice a4 b.code.length c4] 39 (0,0))):=(zD2 _ _).alloc (zB0 _) _;simp only at x0;have HO:Hid (cU b=(aN b.name true && iQ b.ex && eU b.im && jL b.data 0 200 && decide (b.code.length<=9000))):=rfl;go_enter Tryz.func58,Tryz.ntmps58;go_upto_region 1 with fail;generalize w.alloc (.cells #[.slice a1 b.name.length c1,.slice a2 b.ex.length c2,.slice a3 b.im.length c3,.int .i64 b.data,.slice a4 b.code.length c4] 39 (0,0))=w0 at *;have H1:=aQ a1 b.name.length c1 b.name true w0 (r1.below y0) A0;have R2:=hid (r2.below y0);have R3:=hid (r3.below y0);obtain⟨k0,k1,k2,k3,k4⟩:=x0.facts;clear r1 r2 r3;cases e1:aN b.name true
 .
  have HF:Hid (cU b=false):=by show _=_;rw[HO.out,e1];rfl
  rw[e1]at H1;go_wp2_with fail;refine H1.mono ?_;rintro e w0 ⟨rfl,rfl⟩;exact QA45
 rw[e1]at H1;have Pw:Hid (cU b=(iQ b.ex && eU b.im && jL b.data 0 200 && decide (b.code.length<=9000))):=by show _=_;rw[HO.out,e1];rfl
 clear e1 HO;go_wp2_with fail;refine H1.mono ?_;rintro e w0 ⟨rfl,rfl⟩;clear H1;by_cases m1:8<b.ex.length
 .
  have HF:Hid (cU b=false):=by show _=_;rw[Pw.out,qU m1];rfl
  exact QA45
 by_cases m2:8<b.im.length
 .
  have HF:Hid (cU b=false):=by show _=_;rw[Pw.out,qP m2];simp
  exact QA45
 by_cases m3:b.data<0
 .
  have HF:Hid (cU b=false):=by show _=_;rw[Pw.out,show jL b.data 0 200=false by unfold jL;rw[zC2 (by omega:¬0<=b.data)];rfl];simp
  exact QA45
 by_cases m4:200<b.data
 .
  have HF:Hid (cU b=false):=by show _=_;rw[Pw.out,show jL b.data 0 200=false by unfold jL;rw[zC2 (by omega:¬b.data<=200)];simp];simp
  exact QA45
 by_cases m5:9000<b.code.length
 .
  have HF:Hid (cU b=false):=by show _=_;rw[Pw.out,zC2 (by omega:¬b.code.length<=9000)];simp
  exact QA45
 have Jc:Hid (cU b=(iQ b.ex && eU b.im)):=by
  show _=_
  rw[Pw.out,show jL b.data 0 200=true by unfold jL;rw[zB3 (by omega:0<=b.data),zB3 (by omega:b.data<=200)];rfl,zB3 (by omega:b.code.length<=9000)];simp
 clear Pw;have X0:=hid x0;have hw0:=x0.lt;clear x0;go_wp2_with fail;clear k0 k1 k2 k3 k4;go_loopw [3,4,5] (fun i _ _ wr=>∃j:Nat,j<=b.ex.length/\i=.int .i64 j/\Hid (∀m<j,aCa b.ex m=true)/\Below w0.heap.size w0 wr) (fun i _ _ _=>b.ex.length-(intOf i).toNat)
 case atStart=>exact⟨0,zD1 _,rfl,by intro m hm;omega,zD2 _ _⟩
 case round=>
  obtain⟨j,hj,rfl,Bj,Cv⟩:=hrel;have xr:=B5.below X0.out Cv hw0;obtain⟨_,k1,k2,_,_⟩:=xr.facts;simp only at k1 k2;by_cases Ad:j<b.ex.length
  .
   obtain⟨bb,off,rfl⟩:=iZ.addr R2.out A0;obtain⟨⟨rx,ry,rz⟩,d,Hj,hR,q0,q1,q2⟩:=iZ.el (iZ.below (show iZ w0 (some ⟨bb,off,none⟩) b.ex.length b.ex from R2.out) Cv) Ad;obtain⟨ll,p,q,rfl,hll⟩:=EX.out d (zA3 Hj);obtain⟨⟨ax,cx,rfl,Cb,hxc,hxm,_⟩,rfl,rfl⟩:=hR;have HA:=hid (sL Hj);clear Hj hxm;go_upto_region 7 with fail;have x0:=B3.new wr 69 (.slice ax ll.length cx) (.int .i64 p) (.int .i64 q);have y1:Below wr.heap.size wr (wr.alloc (.cells #[.slice ax ll.length cx,.int .i64 p,.int .i64 q] 69 (0,0))):=(zD2 _ _).alloc (zB0 _) _;generalize wr.alloc (.cells #[.slice ax ll.length cx,.int .i64 p,.int .i64 q] 69 (0,0))=w1 at *;have Fh:=Cv.trans (y1.mono Cv.size);have Yh:=y0.trans (Fh.mono y0.size);have H1:=aQ ax ll.length cx ll false w1 (Cb.below y1) A0;have H2:=aJg p w1;have HX:=hid (Cb.below y1);obtain⟨g0,g1,g2,_,_,_⟩:=x0.facts;have XB:=hid x0;clear q0 q1 q2 x0 y1 Cb Cv xr k1 k2;generalize wr.heap.size=gb at *;cases v1:aN ll false
   .
    have HF:Hid (cU b=false):=by show _=_;rw[Jc.out,gE Ad (by rw[HA.out,v1];rfl)];rfl
    rw[v1]at H1;go_wp2_with fail;refine H1.mono ?_;rintro e w1 ⟨rfl,rfl⟩;exact QA78
   rw[v1]at H1;cases v2:jL p 0 2147483647
   .
    have HF:Hid (cU b=false):=by show _=_;rw[Jc.out,gE Ad (by rw[HA.out,v1,v2];rfl)];rfl
    rw[v2]at H2;go_wp2_with fail;refine H1.mono ?_;rintro e w1 ⟨rfl,rfl⟩;go_wp2_with fail;refine H2.mono ?_;rintro e w1 ⟨rfl,rfl⟩;exact QA78
   rw[v2]at H2;have HA1:Hid (aCa b.ex j=(jL q 0 4000 && !dup (b.ex.take j) ll)):=by show _=_;rw[HA.out,v1,v2];rfl
   clear v1 v2 HA;go_wp2_with fail;refine H1.mono ?_;rintro e w1 ⟨rfl,rfl⟩;go_wp2_with fail;refine H2.mono ?_;rintro e w1 ⟨rfl,rfl⟩;clear H1 H2;by_cases u1:q<0
   .
    have HF:Hid (cU b=false):=by show _=_;rw[Jc.out,gE Ad (by rw[HA1.out];unfold jL;rw[zC2 (by omega:¬0<=q)];rfl)];rfl
    exact QA78
   by_cases u2:4000<q
   .
    have HF:Hid (cU b=false):=by show _=_;rw[Jc.out,gE Ad (by rw[HA1.out];unfold jL;rw[zC2 (by omega:¬q<=4000)];simp)];rfl
    exact QA78
   have HA2:Hid (aCa b.ex j = !dup (b.ex.take j) ll):=by show _=_;rw[HA1.out];unfold jL;rw[zB3 (by omega:0<=q),zB3 (by omega:q<=4000)];rfl
   clear HA1;go_wp2_with fail;clear g0 g1 g2;go_loopw [5] (fun i wq=>∃k:Nat,k<=j/\i=.int .i64 k/\Hid (dup (b.ex.take k) ll=false)/\Below w1.heap.size w1 wq) (fun i _=>j-(intOf i).toNat)
   case atStart=>exact⟨0,zD1 _,rfl,by show _=_;simp[dup],zD2 _ _⟩
   case round=>
    obtain⟨k,hk,rfl,Ai,hbq⟩:=hrel;have Yj:=Fh.trans (hbq.mono Fh.size);have xr:=B5.below X0.out Yj hw0;obtain⟨_,k1,_,_,_⟩:=xr.facts;have xb:=B3.below XB.out hbq (B3.lt XB.out);obtain⟨g0,_,_,_,_,_⟩:=xb.facts;simp only at k1;by_cases Lc:k<j
    .
     obtain⟨⟨rx,ry,rz⟩,d,Hj,hR,q0,q1,q2⟩:=iZ.el (iZ.below (show iZ w0 (some ⟨bb,off,none⟩) b.ex.length b.ex from R2.out) Yj) (show k<b.ex.length by omega);obtain⟨lk,p',q',rfl,hlk'⟩:=EX.out d (zA3 Hj);obtain⟨⟨ay,cy,rfl,Bv,_⟩,rfl,rfl⟩:=hR;have Xk:=fun d=>aR cy (Bv.drewN d);have Xj:=fun d=>aR cx (aV.drewN (aV.below HX.out hbq) d);have Ld:(k:Int)<(b.ex.length:Int):=A0;have HE:=hid (jD Bv.2.1 HX.out.2.1);have HN:Hid (dup (b.ex.take (k+1)) ll=(dup (b.ex.take k) ll || decide (lk=ll))):=aAj Hj;have HT:Hid (lk=ll->dup (b.ex.take j) ll=true):=fun e=>sN (d:=⟨.b lk,.n p',.n q'⟩) (show(b.ex.take j)[k]?=some _ by rw[List.getElem?_take,if_pos Lc];exact Hj) e;clear Hj Bv;by_cases he:lk=ll
     .
      have hb:=HE.out.trans (zB3 he);have HF:Hid (cU b=false):=by show _=_;rw[Jc.out,gE Ad (by rw[HA2.out,HT.out he];rfl)];rfl
      clear he HE HN HT;go_wp2_with fail;go_quiet (fail);go_wp2;go_ret;exact⟨aF HF.out.symm,below_drewN (y0.trans (Yj.mono y0.size)) _⟩
     .
      have hb:=HE.out.trans (zC2 he);have HF:Hid (dup (b.ex.take (k+1)) ll=false):=by show _=_;rw[HN.out,Ai.out,zC2 he];rfl
      clear he HE HN HT;go_wp2_with fail;go_quiet (fail);go_wp2;go_roundw
      case rel=>exact⟨k+1,by omega,by go_num,HF,below_drewN hbq _⟩
      case measure=>simp[intOf];omega
    .
     have:k=j:=A0;subst this;have HF:Hid (aCa b.ex k=true):=by show _=_;rw[HA2.out,Ai.out];rfl
     go_wp2;go_roundw
     case rel=>exact⟨k+1,by omega,by go_num,dV Bj.out HF.out,Yj⟩
     case measure=>simp[intOf];omega
  .
   have:j=b.ex.length:=A0;subst this;have Qy:Hid (cU b=eU b.im):=by show _=_;rw[Jc.out,pP A0 Bj.out];rfl
   have Hn:=Nat.lt_of_lt_of_le hw0 Cv.size;have X1:=hid xr;have R4:=hid (iZ.below R3.out Cv);have y1:=y0.trans (Cv.mono y0.size);clear Jc Bj Cv xr R2 R3 X0 EX y0 hw0;go_wp2_with fail;clear k1 k2;generalize wr=w9 at *;go_loopw [6,7] (fun i _ wq=>∃j:Nat,j<=b.im.length/\i=.int .i64 j/\Hid (∀m<j,aHs b.im m=true)/\Below w9.heap.size w9 wq) (fun i _ _=>b.im.length-(intOf i).toNat)
   case atStart=>exact⟨0,zD1 _,rfl,by intro m hm;omega,zD2 _ _⟩
   case round=>
    obtain⟨k,hk,rfl,Bj,hbq⟩:=hrel;have xr:=B5.below X1.out hbq Hn;obtain⟨_,_,k2,_,_⟩:=xr.facts;simp only at k2;have Fh:=y1.trans (hbq.mono y1.size);by_cases Lc:k<b.im.length
    .
     obtain⟨bb,off,rfl⟩:=iZ.addr R4.out A0;obtain⟨⟨rx,ry,rz⟩,d,Hj,hR,q0,q1,q2⟩:=iZ.el (iZ.below (show iZ w9 (some ⟨bb,off,none⟩) b.im.length b.im from R4.out) hbq) Lc;obtain⟨ll,Qb,p,rfl,hll,hll2⟩:=IM.out d (zA3 Hj);obtain⟨⟨ax,cx,rfl,Cb,_⟩,⟨ay,cy,rfl,Bv,_⟩,rfl⟩:=hR;have HA:=hid (pH Hj);clear Hj;go_upto_region 18 with fail;have x0:=B3.new wr 42 (.slice ax ll.length cx) (.slice ay Qb.length cy) (.int .i64 p);have yy:Below wr.heap.size wr (wr.alloc (.cells #[.slice ax ll.length cx,.slice ay Qb.length cy,.int .i64 p] 42 (0,0))):=(zD2 _ _).alloc (zB0 _) _;generalize wr.alloc (.cells #[.slice ax ll.length cx,.slice ay Qb.length cy,.int .i64 p] 42 (0,0))=w1 at *;have hbw1:=Fh.trans (yy.mono Fh.size);have hbq1:=hbq.trans (yy.mono hbq.size);have H1:=aQ ax ll.length cx ll true w1 (Cb.below yy) A0;have H2:=aQ ay Qb.length cy Qb false w1 (Bv.below yy) A0;have H3:=aJg p w1;obtain⟨g0,g1,g2,_,_,_⟩:=x0.facts;clear q0 q1 q2 x0 yy Cb Bv hbq xr k2 Fh;cases v1:aN ll true
     .
      have HF:Hid (cU b=false):=by show _=_;rw[Qy.out,kP Lc (by rw[HA.out,v1];rfl)]
      rw[v1]at H1;go_wp2_with fail;refine H1.mono ?_;exact QA69
     rw[v1]at H1;cases v2:aN Qb false
     .
      have HF:Hid (cU b=false):=by show _=_;rw[Qy.out,kP Lc (by rw[HA.out,v1,v2];rfl)]
      rw[v2]at H2;go_wp2_with fail;refine H1.mono ?_;rintro e w1 ⟨rfl,rfl⟩;go_wp2_with fail;refine H2.mono ?_;exact QA69
     rw[v2]at H2;cases v3:jL p 0 2147483647
     .
      have HF:Hid (cU b=false):=by show _=_;rw[Qy.out,kP Lc (by rw[HA.out,v1,v2,v3];rfl)]
      rw[v3]at H3;go_wp2_with fail;refine H1.mono ?_;rintro e w1 ⟨rfl,rfl⟩;go_wp2_with fail;refine H2.mono ?_;rintro e w1 ⟨rfl,rfl⟩;go_wp2_with fail;refine H3.mono ?_;exact QA69
     rw[v3]at H3;have HF:Hid (aHs b.im k=true):=by show _=_;rw[HA.out,v1,v2,v3];rfl
     clear v1 v2 v3 HA;go_wp2_with fail;refine H1.mono ?_;rintro e w1 ⟨rfl,rfl⟩;go_wp2_with fail;refine H2.mono ?_;rintro e w1 ⟨rfl,rfl⟩;go_wp2_with fail;refine H3.mono ?_;rintro e w1 ⟨rfl,rfl⟩;go_wp2;go_roundw
     case rel=>exact⟨k+1,by omega,by go_num,dV Bj.out HF.out,hbq1⟩
     case measure=>simp[intOf];omega
    .
     have:k=b.im.length:=A0;subst this;have HF:Hid (cU b=true):=by show _=_;rw[Qy.out,pF A0 Bj.out]
     go_wp2;go_ret;exact⟨aF HF.out.symm,Fh⟩
end Go.Proofs.YtcbhdhmhidpdgaaGreatDoor

import Derived.Test.YtegkhlkjfeafjaaGreatDoorFind
import Derived.Test.YtegkhlkjfeafjaaGreatDoorPackE
import Derived.Test.YtegkhlkjfeafjaaGreatDoorUnl
namespace Go.Proofs.YtegkhlkjfeafjaaGreatDoor
open Go.RowKit
set_option maxHeartbeats 4000000
set_option linter.unusedVariables false
set_option linter.unusedSimpArgs false
set_option maxRecDepth 100000
theorem U292{p:Prop}(h:p:=by
 obtain⟨A,hA,hcase⟩:=(key false (by rw[hpa];rfl)).resolve_left V15
 rw[<-hA]
 rcases hcase with⟨rfl,hv⟩|⟨i2,y2,b2,off2,rfl,hil2,rfl,hv,r2⟩
 .
  have HF:Hid (arq m p x=false):=by show _=_;unfold arq;rw[hpa,hv];rfl
  clear key hA hv hpa
  go_wp2
  go_ret
  exact⟨aE HF.out.symm,yh⟩
 .
  have HF:Hid (arq m p x=decide (0<y2.size)):=by show _=_;unfold arq;rw[hpa,hv];rfl
  have hi2:(0:Int)<=(i2:Int):=by omega
  clear key hA hv hpa
  go_wp2
  go_ret
  exact⟨aE HF.out.symm,yh⟩):p:=h
theorem U318{p:Prop}(h:p:=by
 go_wp2
 go_ret
 exact⟨aE HF.out.symm,yg⟩):p:=h
theorem M9202{p q:Prop}(k:q)(h:Kx q->p:=by
 intro kQ
 have HV:=hid hV
 have HP:=hid hP
 have HM:=hid hm0
 have HQ:=hid hp0
 have HX:=hid hx
 have x0:=(Blk.new w 48 [v0,v1,.slice av nv cv,v3]).old (o:=.cells #[u0,u1,.slice ap np cp,u3,u4] 95 (0,0))
 have x1:=Blk.new (w.alloc (.cells #[v0,v1,.slice av nv cv,v3] 48 (0,0))) 95 [u0,u1,.slice ap np cp,u3,u4]
 have hgz:(w.alloc (.cells #[v0,v1,.slice av nv cv,v3] 48 (0,0))).heap.size=w.heap.size+1:=by simp
 have y0:w.grownBy ((w.alloc (.cells #[v0,v1,.slice av nv cv,v3] 48 (0,0))).alloc (.cells #[u0,u1,.slice ap np cp,u3,u4] 95 (0,0))) none:=aD (aC w _ none) (aC _ _ none)
 simp only[List.toArray]at x0 x1
 rw[hgz]at x1
 clear hgz
 simp only[agg]
 revert x1;revert x0;revert y0;revert HX;revert HQ;revert HM;revert HP;revert HV
 exact kQ.o):p:=h ⟨k⟩
theorem M9255{p q:Prop}(k:q)(h:Kx q->p:=by
 intro kQ
 refine H1.mono ?_
 rintro e w2 ⟨rfl,hg⟩
 have yg:=aD y0 hg
 replace x0:=x0.below (aA hg) x0.lt
 replace x1:=x1.below (aA hg) x1.lt
 clear hg
 have H2:=lV m _ w2 (aO.below HM.out (aA yg)) a k c x (bW.below HX.out (aA yg))
 simp only[agg,List.toArray]at H2
 revert H2;revert x1;revert x0;revert yg;revert w2
 exact kQ.o):p:=h ⟨k⟩
def oK (p:Pr)(x:List Int):Option Bool:=(ix (p.params.map Pa.name) x).bind fun i=>p.params[i]?.map Pa.arr
def jA (m:Mo)(x:List Int):Option Int:=(ix (m.vars.map Va.name) x).bind fun i=>m.vars[i]?.map Va.size
def sgl (m:Mo)(p:Pr)(x:List Int):Bool:=match oK p x with
 | some b=>!b
 | none=>decide (x ∈ p.locals) || (match jA m x with
  | some n=>decide (n=0)
  | none=>false)
def arq (m:Mo)(p:Pr)(x:List Int):Bool:=(oK p x == some true) || (match jA m x with
 | some n=>decide (0<n)
 | none=>false)
theorem lW {α:Type}{f:α->List Int}{l:List α}{x:List Int}{i:Nat}(h:ix (l.map f) x=some i):∃y,l[i]?=some y/\f y=x:=by
 have:=(aIk h).1
 rw[zA2]at this;exact zF0.1 this
theorem mK {p:Pr}{x:List Int}{i:Nat}{y:Pa}(h:ix (p.params.map Pa.name) x=some i)(hy:p.params[i]?=some y):oK p x=some y.arr:=by unfold oK;rw[h,Option.bind_some,hy];rfl
theorem pS {p:Pr}{x:List Int}(h:ix (p.params.map Pa.name) x=none):oK p x=none:=by unfold oK;rw[h];rfl
theorem oB {m:Mo}{x:List Int}{i:Nat}{y:Va}(h:ix (m.vars.map Va.name) x=some i)(hy:m.vars[i]?=some y):jA m x=some y.size:=by unfold jA;rw[h,Option.bind_some,hy];rfl
theorem oC {m:Mo}{x:List Int}(h:ix (m.vars.map Va.name) x=none):jA m x=none:=by unfold jA;rw[h];rfl
theorem dY {α:Type}{l:List α}{i:Nat}{y:α}(h:l[i]?=some y):i<l.length:=(zC1.1 h).1
theorem aS.cellsAt {w:World}{a:Option Addr}{c k i:Nat}{rs:List (List Fl)}{r:List Fl}(h:aS w a c k rs)(hi:rs[i]?=some r):∃b off vs,a=some ⟨b,off,none⟩/\aO w r vs/\∀z v,vs[z]?=some v->w.cell? ⟨b,off+i*k+z,none⟩=some v:=by
 obtain⟨b,off,rfl⟩:=h.addr (by have:=dY hi;omega)
 obtain⟨vs,hv,hc⟩:=(h.el hi).vals;exact⟨b,off,vs,rfl,hv,hc⟩
theorem sS (m:Mo)(p:Pr)(vs us:List Value)(w:World)(hm:aO w m.fl vs)(hp:aO w p.fl us)(a:Option Addr)(k c:Nat)(x:List Int)(hx:bW w a k x):
  Calls Tryz.prog 76 #[agg vs,agg us,.slice a k c] w fun e w'=>e=.returned (.bool (sgl m p x))/\w.grownBy w' none:=by
 have hm0:=hm;have hp0:=hp;obtain⟨v0,_,rfl,_,v1,_,rfl,_,v2,_,rfl,hv,v3,_,rfl,_,rfl⟩:=hm;obtain⟨u0,_,rfl,_,u1,_,rfl,_,u2,_,rfl,hu,u3,_,rfl,_,u4,_,rfl,_,rfl⟩:=hp;obtain⟨av,cv,rfl,hV⟩:=hv.list;obtain⟨ap,cp,rfl,hP⟩:=hu.list;have hv9:=hV.len9;have hp9:=hP.len9;rw[zB2]at hv9 hp9;simp only[zB2]at hm0 hp0 ⊢
 obtain⟨nv,hnv⟩:∃z,z=m.vars.length:=⟨_,rfl⟩
 obtain⟨np,hnp⟩:∃z,z=p.params.length:=⟨_,rfl⟩
 have HNV:=hid hnv.symm;have HNP:=hid hnp.symm;rw[<-hnv]at hm0 hv9 ⊢;rw[<-hnp]at hp0 hp9 ⊢;clear hnv hnp hv hu;refine M9202 ?_;clear hV hP hm0 hp0 hx;intro HV HP HM HQ HX y0 x0 x1;go_enter Tryz.func76,Tryz.ntmps76;go_upto_region 1 with fail;generalize (w.alloc (.cells #[v0,v1,.slice av nv cv,v3] 48 (0,0))).alloc (.cells #[u0,u1,.slice ap np cp,u3,u4] 95 (0,0))=w1 at *;have H1:=qV p _ w1 (aO.below HQ.out (aA y0)) a k c x (bW.below HX.out (aA y0));simp only[agg,List.toArray]at H1;obtain⟨q0,q1,q2,q3,q4⟩:=x1.c5
 cases hi:ix (p.params.map Pa.name) x with
 | some i=>
  obtain⟨y,hy,_⟩:=lW hi
  have HF:Hid (sgl m p x = !y.arr):=by show _=_;unfold sgl;rw[mK hi hy]
  have hil:i<np:=by have:=dY hy;rw[HNP.out]at this;exact this
  rw[cJ hi]at H1
  obtain⟨b,off,ys,rfl,hys,Ab⟩:=aS.cellsAt HP.out (show(p.params.map Pa.fl)[i]?=some y.fl by rw[zA2,hy];rfl)
  obtain⟨y0',us',rfl,_,y1,us1,rfl,rfl,rfl⟩:=hys
  have HR:Hid (w.cell? ⟨b,off+i*2+1,none⟩=some (.bool y.arr)):=Ab 1 _ rfl
  clear hi hy Ab;go_wp2_with fail;refine H1.mono ?_;rintro e w2 ⟨rfl,hg⟩;have yg:=aD y0 hg;have z1:=x1.below (aA hg) x1.lt;have q2:=z1.k 2;have r:=aB HR.out (aA yg);clear q0 q1 q3 q4 x0 x1 z1 y0 hg H1;exact U318
 | none=>
  have HA:=hid (pS hi);rw[cU hi]at H1;clear hi;go_wp2_with fail;refine M9255 ?_;clear x0 x1 q0 q1 q2 q3 q4 y0 H1;intro w2 yg x0 x1 H2;obtain⟨k0,k1,k2,k3⟩:=x0.c4;go_wp2_with fail;refine H2.mono ?_;rintro e w3 ⟨rfl,hg⟩;have yh:=aD yg hg;replace x0:=x0.below (aA hg) x0.lt;replace x1:=x1.below (aA hg) x1.lt;clear k0 k1 k2 k3 yg hg H2;have H3:=kF p _ w3 (aO.below HQ.out (aA yh)) a k c x (bW.below HX.out (aA yh));simp only[agg,List.toArray]at H3;obtain⟨q0,q1,q2,q3,q4⟩:=x1.c5
  cases hl:ix p.locals x with
  | some j=>
   have HF:Hid (sgl m p x=true):=by show _=_;unfold sgl;rw[HA.out];simp only;rw[zB3 (zA3 (aIk hl).1)];rfl
   rw[cJ hl]at H3;clear hl;generalize ixI (m.vars.map Va.name) x=vv at *;go_wp2_with fail;refine H3.mono ?_;rintro e w4 ⟨rfl,hg⟩;have yi:=aD yh hg;clear q0 q1 q2 q3 q4 x0 x1 yh hg H3
   have hj:(0:Int)<=(j:Int):=by omega
   go_wp2;go_ret;exact⟨aE HF.out.symm,yi⟩
  | none=>
   have hml:=zC2 (fP.1 hl);rw[cU hl]at H3;clear hl
   cases hz:ix (m.vars.map Va.name) x with
   | none=>
    have HF:Hid (sgl m p x=false):=by show _=_;unfold sgl;rw[HA.out];simp only;rw[hml,oC hz];rfl
    rw[cU hz];clear hz hml;go_wp2_with fail;refine H3.mono ?_;rintro e w4 ⟨rfl,hg⟩;have yi:=aD yh hg;clear q0 q1 q2 q3 q4 x0 x1 yh hg H3;go_wp2;go_ret;exact⟨aE HF.out.symm,yi⟩
   | some i=>
    obtain⟨y,hy,_⟩:=lW hz
    have HF:Hid (sgl m p x=decide (y.size=0)):=by show _=_;unfold sgl;rw[HA.out];simp only;rw[hml,oB hz hy];simp
    have hil:i<nv:=by have:=dY hy;rw[HNV.out]at this;exact this
    obtain⟨b,off,ys,rfl,hys,Ab⟩:=aS.cellsAt HV.out (show(m.vars.map Va.fl)[i]?=some y.fl by rw[zA2,hy];rfl)
    obtain⟨y0',us',rfl,_,y1,us1,rfl,rfl,rfl⟩:=hys
    have HR:Hid (w.cell? ⟨b,off+i*2+1,none⟩=some (.int .i64 y.size)):=Ab 1 _ rfl
    rw[cJ hz];clear hz hml hy Ab
    have hi0:(0:Int)<=(i:Int):=by omega
    go_wp2_with fail;refine H3.mono ?_;rintro e w4 ⟨rfl,hg⟩;have yi:=aD yh hg;replace x0:=x0.below (aA hg) x0.lt;have k2:=x0.k 2;have r:=aB HR.out (aA yi);clear q0 q1 q2 q3 q4 x0 x1 yh hg H3;go_wp2;go_ret
    exact⟨aE (by rw[HF.out];rfl),yi⟩
theorem nR (m:Mo)(p:Pr)(vs us:List Value)(w:World)(hm:aO w m.fl vs)(hp:aO w p.fl us)(a:Option Addr)(k c:Nat)(x:List Int)(hx:bW w a k x):
  Calls Tryz.prog 77 #[agg vs,agg us,.slice a k c] w fun e w'=>e=.returned (.bool (arq m p x))/\w.grownBy w' none:=by
 have hm0:=hm;have hp0:=hp;obtain⟨v0,_,rfl,_,v1,_,rfl,_,v2,_,rfl,hv,v3,_,rfl,_,rfl⟩:=hm;obtain⟨u0,_,rfl,_,u1,_,rfl,_,u2,_,rfl,hu,u3,_,rfl,_,u4,_,rfl,_,rfl⟩:=hp;obtain⟨av,cv,rfl,hV⟩:=hv.list;obtain⟨ap,cp,rfl,hP⟩:=hu.list;have hv9:=hV.len9;have hp9:=hP.len9;rw[zB2]at hv9 hp9;simp only[zB2]at hm0 hp0 ⊢
 obtain⟨nv,hnv⟩:∃z,z=m.vars.length:=⟨_,rfl⟩
 obtain⟨np,hnp⟩:∃z,z=p.params.length:=⟨_,rfl⟩
 have HNV:=hid hnv.symm;have HNP:=hid hnp.symm;rw[<-hnv]at hm0 hv9 ⊢;rw[<-hnp]at hp0 hp9 ⊢;clear hnv hnp hv hu;refine M9202 ?_;clear hV hP hm0 hp0 hx;intro HV HP HM HQ HX y0 x0 x1;go_enter Tryz.func77,Tryz.ntmps77;go_upto_region 1 with fail;generalize (w.alloc (.cells #[v0,v1,.slice av nv cv,v3] 48 (0,0))).alloc (.cells #[u0,u1,.slice ap np cp,u3,u4] 95 (0,0))=w1 at *;have H1:=qV p _ w1 (aO.below HQ.out (aA y0)) a k c x (bW.below HX.out (aA y0));simp only[agg,List.toArray]at H1;obtain⟨q0,q1,q2,q3,q4⟩:=x1.c5;go_wp2_with fail;refine M9255 ?_;clear x0 x1 q0 q1 q2 q3 q4 y0 H1;intro w2 yg x0 x1 H2;obtain⟨k0,k1,k2,k3⟩:=x0.c4;go_wp2_with fail;refine H2.mono ?_;rintro e w3 ⟨rfl,hg⟩;have yh:=aD yg hg;replace x0:=x0.below (aA hg) x0.lt;replace x1:=x1.below (aA hg) x1.lt;clear k0 k1 k2 k3 yg hg H2;have k2:=x0.k 2;have q2:=x1.k 2;clear x0 x1
 have key:∀(bp:Bool),(oK p x == some true)=bp->(bp=true\/∃A:Int,A=ixI (m.vars.map Va.name) x/\((A = -1/\jA m x=none)\/∃i y b off,A=(i:Nat)/\i<nv/\av=some ⟨b,off,none⟩/\jA m x=some y.size/\w3.cell? ⟨b,off+i*2+1,none⟩=some (.int .i64 (Va.size y)))):=by
  intro bp _;cases bp
  .
   right
   refine⟨_,rfl, ?_⟩
   cases hz:ix (m.vars.map Va.name) x with
   | none=>exact .inl ⟨cU hz,oC hz⟩
   | some i=>
    obtain⟨y,hy,_⟩:=lW hz
    obtain⟨b,off,ys,e,hys,Ab⟩:=aS.cellsAt HV.out (show(m.vars.map Va.fl)[i]?=some y.fl by rw[zA2,hy];rfl)
    obtain⟨y0',us',rfl,_,y1,us1,rfl,rfl,rfl⟩:=hys
    exact .inr ⟨i,y,b,off,cJ hz,by have:=dY hy;rw[HNV.out]at this;exact this,e,oB hz hy,aB (Ab 1 _ rfl) (aA yh)⟩
  .
   exact .inl rfl
 cases hi:ix (p.params.map Pa.name) x with
 | some i=>
  obtain⟨y,hy,_⟩:=lW hi;have hpa:=mK hi hy
  have hil:i<np:=by have:=dY hy;rw[HNP.out]at this;exact this
  obtain⟨b,off,ys,rfl,hys,Ab⟩:=aS.cellsAt HP.out (show(p.params.map Pa.fl)[i]?=some y.fl by rw[zA2,hy];rfl)
  obtain⟨y0',us',rfl,_,y1,us1,rfl,rfl,rfl⟩:=hys;have r:=aB (Ab 1 _ rfl) (aA yh);rw[cJ hi]
  have hi0:(0:Int)<=(i:Int):=by omega
  clear hi hy Ab
  cases hya:y.arr
  .
   rw[hya]at r hpa;exact U292
  .
   rw[hya]at r hpa
   have HF:Hid (arq m p x=true):=by show _=_;unfold arq;rw[hpa];rfl
   clear key hpa;generalize ixI (m.vars.map Va.name) x=vv at *;go_wp2;go_ret;exact⟨aE HF.out.symm,yh⟩
 | none=>
  have hpa:=pS hi;rw[cU hi];clear hi;exact U292
theorem V90{p:Prop}(h:p:=by kernel_rfl):p:=h
theorem V93{p:Prop}(h:p:=by rw[HN.out];exact Ai):p:=h
theorem M94{p q:Prop}(k:q)(h:Kx q->p:=by
 intro kQ
 refine ta 0 ?_
 refine ta 1 ?_
 refine ta 2 ?_
 try simp only[nrm]
 refine ta 3 ?_
 refine ta 4 ?_
 refine ta 5 ?_
 try simp only[nrm]
 exact kQ.o):p:=h ⟨k⟩
theorem M927{p q:Prop}(k:q)(h:Kx q->p:=by
 intro kQ
 refine ta 6 ?_
 refine ta 7 ?_
 refine ta 8 ?_
 try simp only[nrm]
 refine ta 9 ?_
 exact kQ.o):p:=h ⟨k⟩
def aQm (n:Int):Int:=wrap64 (wrap32 n)
def aOq (n:Int):Bool:=n == aQm n
theorem aQz (n:Int)(w:World):
  Calls Tryz.prog 98 #[.int .i64 n] w fun e w'=>e=.returned (.int .i64 (aQm n))/\w'=w:=by
 go_enter Tryz.func98,Tryz.ntmps98;exact U101
theorem aOo (n:Int)(w:World):
  Calls Tryz.prog 18 #[.int .i64 n] w fun e w'=>e=.returned (.int .i64 (aQm n))/\w'=w:=by
 go_enter Tryz.func18,Tryz.ntmps18;exact U101
theorem aQk (n:Int)(w:World):
  Calls Tryz.prog 55 #[.int .i64 n] w fun e w'=>e=.returned (.bool (aOq n))/\w'=w:=by
 go_enter Tryz.func55,Tryz.ntmps55;go_wp2_with fail;refine(aQz n _).mono ?_;rintro e w1 ⟨rfl,rfl⟩;exact U101
theorem aRm (x:Bool)(n:Int)(w:World):
  Calls Tryz.prog 54 #[.agg #[.bool x,.int .i64 n]] w fun e w'=>e=.returned (.bool (aOq n))/\Below w.heap.size w w':=by
 have hb:Below w.heap.size w (w.alloc (.cells #[.bool x,.int .i64 n] 98 (0,0))):=(zD2 _ _).alloc (zB0 _) _
 have q0:=aN w 98 #[.bool x,.int .i64 n] 0 _ rfl;have q1:=aN w 98 #[.bool x,.int .i64 n] 1 _ rfl;go_enter Tryz.func54,Tryz.ntmps54;go_wp2_with fail;refine(aQk n _).mono ?_;rintro e w1 ⟨rfl,rfl⟩;go_wp2;go_ret;exact⟨rfl,hb⟩
def aOk (x:Ag):Bool:=aOq x.n
theorem aQ0 (a:Option Addr)(c:Nat)(l:List Ag)(n:Nat)(w:World)(hn:l.length=n)(h:aS w a c 2 (l.map Ag.fl)):
  Calls Tryz.prog 53 #[.slice a n c,.func (.func 54) #[] #[]] w fun e w'=>e=.returned (.bool (l.all aOk))/\w.grownBy w' none:=by
 subst hn
 refine(aRi 54 #[] none a l.length c (l.map Ag.fl) (fun j=>aOk (l[j]?.getD ⟨false,0⟩)) (fun _ wr=>w.grownBy wr none) (fun _ _=>True) w ⟨cK Tryz.func54 rfl rfl,fun j wr hi=>h.below (aA hi), ?_, ?_⟩ V15 (aN0 _ _) (fun j w1 w2 h1 h2=>aD h1 h2) V15 (cK Tryz.func97 rfl rfl)).mono ?_
 .
  intro r hr;obtain⟨x,_,rfl⟩:=zE1.1 hr
  rfl
 .
  intro j r wr vs hr hi Ad _;rw[zA2]at hr;obtain⟨x,hx,rfl⟩:=zF0.1 hr;rw[hx];obtain⟨y0,_,rfl,rfl,y1,_,rfl,rfl,rfl⟩:=Ad;refine(aRm x.arr x.n wr).mono ?_;rintro e w' ⟨rfl,hb⟩
  exact⟨rfl,aI hb none,fun _=>aD hi (aI hb none),fun _=>trivial⟩
 .
  rintro e w' ⟨r,rfl,hg,ht⟩;refine⟨aE ?_,hg⟩;rw[fV ht];exact fM l ⟨false,0⟩ aOk
set_option maxHeartbeats 4000000 in
theorem aP1 (a:Option Addr)(c:Nat)(l:List Ag)(n:Nat)(w:World)(hn:l.length=n)(h:aS w a c 2 (l.map Ag.fl)):
  Calls Tryz.prog 17 #[.slice a n c] w fun e w'=>e=.returned (.bool (decide (n<=4) && l.all aOk))/\w.grownBy w' none:=by
 have h9:=h.len9;rw[zB2,hn]at h9
 have HL:Hid (aS w a c 2 (l.map Ag.fl)):=h
 have HN:Hid (l.length=n):=hn
 clear h hn;go_enter Tryz.func17,Tryz.ntmps17
 by_cases h4:4<n
 .
  have Bl:(4:Int)<(n:Int):=V6;go_wp2;go_ret
  exact⟨aE (by rw[zC2 V6];rfl),aN0 _ _⟩
 .
  have Bl:¬(4:Int)<(n:Int):=V6;go_wp2_with fail
  go_loopw [3] (fun i wr=>∃j:Nat,j<=n/\i=.int .i64 j/\Hid (∀i x,i<j->l[i]?=some x->aOk x=true)/\Hid (w.grownBy wr none)) (fun i _=>n-(intOf i).toNat)
  case atStart=>exact⟨0,zD1 _,rfl,V32,aN0 _ _⟩
  case round=>
   obtain⟨j,hj,rfl,Af,Hg⟩:=hrel;have yw:=Hg.out;have bw:=aA yw
   by_cases Ai:j<n
   .
    obtain⟨x,hx⟩:∃x,l[j]?=some x:=⟨_,zA0 V93⟩
    have HX:Hid (l[j]?=some x):=hx
    obtain⟨b,off,ys,rfl,hys,Ab⟩:=aS.cellsAt HL.out (show(l.map Ag.fl)[j]?=some x.fl by rw[zA2,hx];rfl)
    obtain⟨s0,_,rfl,rfl,s1,_,rfl,rfl,rfl⟩:=hys;have r1:=aB (Ab 1 _ rfl) bw
    have HR:Hid (∀{wl:World},Below wr.heap.size wr wl->wl.cell? ⟨b,off+j*2+1,none⟩=some (.int .i64 x.n)):=fun hb=>aB r1 hb
    clear Ab hx;have hjn:(j:Int)<(n:Int):=V6;go_upto_region 6 with fail
    have yd:w.grownBy wr.drew none:=aD yw (aI (zD2 _ _).drew none)
    have r2:=HR.out (zD2 _ wr).drew;clear r1 yw bw Hg
    refine zK3 (S:=fun wl=>wl.cell? ⟨b,off+j*2+1,none⟩=some (.int .i64 x.n)) V90 r2 (fun Aa=>?_)
    generalize wr.drew=w1 at *;refine M94 ?_;refine M927 ?_;try simp only[nrm]
    refine ra 10 fun K hK=>?_
    go_simp
    (with_reducible refine(aOo x.n _).mono ?_)
    rintro e w2 ⟨rfl,rfl⟩;go_wp2_with fail
    refine hK.out _ _ (r2) (fun Aa=>?_)
    clear hK K;try simp only[nrm]
    refine ta 11 ?_;try simp only[nrm]
    refine zL0 V90 ?_ _;clear r2 HR Aa
    cases hk:aOk x
    .
     have hk':(x.n != aQm x.n)=true:=by unfold aOk aOq at hk;simp only[bne,hk];rfl
     have HF:Hid (l.all aOk=false):=by show _=_;rw[zH3];exact⟨x,zA3 HX.out,by rw[hk];simp⟩
     clear hk;go_wp2;go_ret
     exact⟨aE (by rw[HF.out,Bool.and_false]),yd⟩
    .
     have hk':(x.n != aQm x.n)=false:=by unfold aOk aOq at hk;simp only[bne,hk];rfl
     have HK:Hid (aOk x=true):=hk
     have HY:Hid (w.grownBy _ none):=yd
     clear hk yd;go_wp2;go_roundw
     case rel=>exact⟨j+1,by omega,by go_num,(show ∀i y,i<j+1->_ from fun i y hi hy=>(zK1 i j).elim (fun h=>Af.out i y h hy) (fun h=>by have e:i=j:=V6;subst e;rw[HX.out]at hy;cases hy;exact HK.out)),HY⟩
     case measure=>simp[intOf];omega
   .
    have hjn:j=n:=V6;subst hjn
    have HT:Hid (l.all aOk=true):=zF3.2 fun x hx=>by
     obtain⟨i,hi,e⟩:=List.getElem_of_mem hx
     exact Af.out i x (by rw[<-HN.out];exact hi) (by rw[zA0 hi,e])
    clear bw Af;go_wp2;go_ret
    exact⟨aE (by rw[HT.out,zB3 V6];rfl),yw⟩
theorem V46{p:Prop}(h:p:=by rw[he.out,hr.out];simp):p:=h
theorem U350{p:Prop}(h:p:=by
 clear HU
 go_wp2_with fail
 refine HU3.mono ?_
 rintro e w4 ⟨rfl,Bg⟩
 go_wp2
 go_ret
 exact⟨aE V46,Bg⟩):p:=h
theorem M9146{p q:Prop}(k:q)(h:Kx q->p:=by
 intro kQ
 have y0:=aC w (.cells #[.slice a0 f.name.length c0,.slice a1 f.procs.length c1] 52 (0,0)) none
 have q0:=aN w 52 #[.slice a0 f.name.length c0,.slice a1 f.procs.length c1] 0 _ rfl
 have q1:=aN w 52 #[.slice a0 f.name.length c0,.slice a1 f.procs.length c1] 1 _ rfl
 revert q1;revert q0;revert y0
 exact kQ.o):p:=h ⟨k⟩
def sT (x:Int):Bool:=decide (0<=x) && decide (x<=1)
def nT (q:Fp):Bool:=aK q.name false && decide (q.kinds.length<=4) && q.kinds.all sT
def lA (f:Fa):Bool:=aK f.name true && decide (f.procs.length<=8) && f.procs.all nT && gC (f.procs.map Fp.name)
def aH7 (l:List Int):List (List Fl):=l.map fun x=>[.n x]
theorem aB0 {w:World}{b:Nat}:∀{l:List Int} {off:Nat},(∀i,i<l.length->w.cell? ⟨b,off+i,none⟩=some (.int .i64 (l[i]?.getD 0)))->fE w b 1 off (aH7 l):=by
 intro l
 induction l with
 | nil=>intro off h;exact trivial
 | cons x l ih=>
  intro off h
  refine⟨⟨⟨_,by have:=h 0 V15;simpa using this,rfl⟩,trivial⟩,ih fun i hi=>?_⟩
  have:=h (i+1) V78
  rw[show off+(i+1)=off+1+i by omega]at this
  simpa using this
theorem pK.lrow {w:World}{a:Option Addr}{c:Nat}{l:List Int}(h:pK w a l.length l)(hc:l.length<=c)(hm:c<=maxLen)(hz:a=none->c=0):aS w a c 1 (aH7 l):=by
 refine⟨by simpa [aH7] using hc,hm,hz,fun hp=>?_⟩
 obtain⟨b,off,e,Ab⟩:=h.2.2 (by simpa [aH7] using hp)
 exact⟨b,off,e,aB0 Ab⟩
theorem aIn (x:Int)(w:World):Calls Tryz.prog 134 #[.int .i64 x] w fun e w'=>e=.returned (.bool (sT x))/\w'=w:=by
 have H:=gL x 0 1 w;go_enter Tryz.func134,Tryz.ntmps134;go_wp2_with fail;refine H.mono ?_;rintro e w2 ⟨rfl,rfl⟩;exact U101
theorem aFq (a:Option Addr)(c:Nat)(l:List Int)(w:World)(h:pK w a l.length l)(hc:l.length<=c)(hm:c<=maxLen)(hz:a=none->c=0):
  Calls Tryz.prog 133 #[.slice a l.length c,.func (.func 134) #[] #[]] w fun e w'=>e=.returned (.bool (l.all sT))/\w.grownBy w' none:=by
 refine(aLd 134 #[] none a l.length c (aH7 l) (fun j=>sT (l[j]?.getD 0)) (fun _ wr=>w.grownBy wr none) (fun _ _=>True) w ⟨cK Tryz.func134 rfl rfl,fun j wr hi=>(h.lrow hc hm hz).below (aA hi), ?_, ?_⟩ (by simp[aH7]) (aN0 _ _) (fun j w1 w2 h1 h2=>aD h1 h2) V15 (cK Tryz.func169 rfl rfl)).mono ?_
 .
  exact U287
 .
  intro j r wr vs hr hi Ad _;unfold aH7 at hr;rw[zA2]at hr;obtain⟨x,hx,rfl⟩:=zF0.1 hr;rw[hx];obtain⟨y0,us,rfl,rfl,rfl⟩:=Ad;refine(aIn x wr).mono ?_;rintro e w' ⟨rfl,rfl⟩
  exact⟨rfl,aN0 _ _,fun _=>hi,fun _=>trivial⟩
 .
  rintro e w' ⟨r,rfl,hg,ht⟩;refine⟨aE ?_,hg⟩;rw[fV ht];exact fM l 0 sT
theorem aB8 (q:Fp)(a0:Option Addr)(c0:Nat)(a1:Option Addr)(c1:Nat)(w:World)(h0:bW w a0 q.name.length q.name)(hn0:q.name.length<=1073741824)(hc0:q.name.length<=c0)(h1:pK w a1 q.kinds.length q.kinds)(hc:q.kinds.length<=c1)(hm:c1<=maxLen)(hz:a1=none->c1=0):
  Calls Tryz.prog 90 #[.agg #[.slice a0 q.name.length c0,.slice a1 q.kinds.length c1]] w fun e w'=>e=.returned (.bool (nT q))/\w.grownBy w' none:=by
 have y0:=aC w (.cells #[.slice a0 q.name.length c0,.slice a1 q.kinds.length c1] 62 (0,0)) none;have q0:=aN w 62 #[.slice a0 q.name.length c0,.slice a1 q.kinds.length c1] 0 _ rfl;have q1:=aN w 62 #[.slice a0 q.name.length c0,.slice a1 q.kinds.length c1] 1 _ rfl;have HN:=dX a0 _ c0 q.name false _ (h0.below (aA y0)) hn0 hc0;have HK:=aFq a1 c1 q.kinds _ (h1.below (aA y0)) hc hm hz
 have hcn:q.kinds.length<=9223372036854775807:=by unfold maxLen at hm;omega
 have he:Hid (nT q=(aK q.name false && decide (q.kinds.length<=4) && q.kinds.all sT)):=rfl
 clear h0 h1;generalize q.kinds.all sT=r2 at HK he;generalize aK q.name false=r0 at HN he;generalize q.name.length=n0 at *;generalize q.kinds.length=n1 at *;generalize hr1:decide (n1<=4)=r1 at he;go_enter Tryz.func90,Tryz.ntmps90;go_upto_region 1 with fail;generalize w.alloc (.cells #[.slice a0 n0 c0,.slice a1 n1 c1] 62 (0,0))=w1 at *;go_wp2_with fail;refine HN.mono ?_;rintro e w2 ⟨rfl,rfl⟩;clear HN
 cases r0 with
 | false=>
  clear HK;go_wp2;go_ret
  exact⟨aE (by rw[he.out];rfl),y0⟩
 | true=>
  by_cases h4:n1<=4
  .
   have Bl:(n1:Int)<=4:=by omega
   have hr:Hid (r1=true):=by show _=_;rw[<-hr1];exact zB3 h4
   clear hr1;go_wp2_with fail;refine HK.mono ?_;rintro e w3 ⟨rfl,hg⟩;go_wp2;go_ret;exact⟨aE V46,aD y0 hg⟩
  .
   have Bl:¬(n1:Int)<=4:=by omega
   have hr:Hid (r1=false):=by show _=_;rw[<-hr1];exact zC2 h4
   clear hr1 HK;go_wp2;go_ret;exact⟨aE V46,y0⟩
theorem aDk (a:Option Addr)(c:Nat)(l:List Fp)(w:World)(h:aS w a c 2 (l.map Fp.fl))(hs:∀q ∈ l,q.name.length<=1073741824):
  Calls Tryz.prog 89 #[.slice a l.length c,.func (.func 90) #[] #[]] w fun e w'=>e=.returned (.bool (l.all nT))/\w.grownBy w' none:=by
 refine(vJ 90 #[] none a l.length c (l.map Fp.fl) (fun j=>nT (l[j]?.getD ⟨[],[]⟩)) (fun _ wr=>w.grownBy wr none) (fun _ _=>True) w ⟨cK Tryz.func90 rfl rfl,fun j wr hi=>h.below (aA hi), ?_, ?_⟩ V15 (aN0 _ _) (fun j w1 w2 h1 h2=>aD h1 h2) V15 (cK Tryz.func132 rfl rfl)).mono ?_
 .
  exact U287
 .
  intro j r wr vs hr hi Ad _;rw[zA2]at hr;obtain⟨x,hx,rfl⟩:=zF0.1 hr;rw[hx];have hxs:=hs x (zA3 hx);obtain⟨y0,us,rfl,⟨a0,c0,rfl,Ar,hc0,_⟩,y1,us2,rfl,⟨a1,c1,rfl,hb1,hc1,hm1,hz1⟩,rfl⟩:=Ad;refine(aB8 x a0 c0 a1 c1 wr Ar hxs hc0 hb1 hc1 hm1 hz1).mono ?_;rintro e w' ⟨rfl,hg⟩
  exact⟨rfl,hg,fun _=>aD hi hg,fun _=>trivial⟩
 .
  rintro e w' ⟨r,rfl,hg,ht⟩;refine⟨aE ?_,hg⟩;rw[fV ht];exact fM l ⟨[],[]⟩ nT
theorem zP (f:Fa)(a0:Option Addr)(c0:Nat)(a1:Option Addr)(c1:Nat)(w:World)(h0:bW w a0 f.name.length f.name)(hn0:f.name.length<=1073741824)(hc0:f.name.length<=c0)(h1:aS w a1 c1 2 (f.procs.map Fp.fl))(hs:∀q ∈ f.procs,q.name.length<=1073741824):
  Calls Tryz.prog 47 #[.agg #[.slice a0 f.name.length c0,.slice a1 f.procs.length c1]] w fun e w'=>e=.returned (.bool (lA f))/\w.grownBy w' none:=by
 refine M9146 ?_;intro y0 q0 q1;have HN:=dX a0 _ c0 f.name true _ (h0.below (aA y0)) hn0 hc0;have HK:=aDk a1 c1 f.procs _ (h1.below (aA y0)) hs
 have hcn:f.procs.length<=9223372036854775807:=by have h2:=h1.most;have h3:=h1.cap;simp only[zB2]at h3;unfold maxLen at h2;omega
 have HU:∀w3,w.grownBy w3 none->Calls Tryz.prog 91 #[.slice a1 f.procs.length c1,.func (.func 92) #[] #[]] w3 fun e w'=>e=.returned (.bool (gC (f.procs.map Fp.name)))/\w.grownBy w' none:=by
  intro w3 h3;refine(pD (cK Tryz.func138 rfl rfl) a1 c1 f.procs f.procs.length w3 rfl (h1.below (aA h3))).mono ?_;rintro e w' ⟨rfl,hg⟩;exact⟨rfl,aD h3 hg⟩
 have he:Hid (lA f=(aK f.name true && decide (f.procs.length<=8) && f.procs.all nT && gC (f.procs.map Fp.name))):=rfl
 clear h0 h1 hs;generalize gC (f.procs.map Fp.name)=r3 at HU he;generalize f.procs.all nT=r2 at HK he;generalize aK f.name true=r0 at HN he;generalize f.name.length=n0 at *;generalize f.procs.length=n1 at *;generalize hr1:decide (n1<=8)=r1 at he;go_enter Tryz.func47,Tryz.ntmps47;go_upto_region 1 with fail;generalize w.alloc (.cells #[.slice a0 n0 c0,.slice a1 n1 c1] 52 (0,0))=w1 at *;go_wp2_with fail;refine HN.mono ?_;rintro e w2 ⟨rfl,rfl⟩;clear HN
 cases r0 with
 | false=>
  clear HK HU;go_wp2;go_ret
  exact⟨aE (by rw[he.out];rfl),y0⟩
 | true=>
  by_cases h4:n1<=8
  .
   have Bl:(n1:Int)<=8:=by omega
   have hr:Hid (r1=true):=by show _=_;rw[<-hr1];exact zB3 h4
   clear hr1;go_wp2_with fail;refine HK.mono ?_;rintro e w3 ⟨rfl,hg⟩;replace q1:=aB q1 (aA hg);have Aq:=aD y0 hg;clear HK q0 hg
   cases r2 with
   | false=>
    clear HU;go_wp2;go_ret;exact⟨aE V46,Aq⟩
   | true=>
    have HU3:=HU w3 Aq;exact U350
  .
   have Bl:¬(n1:Int)<=8:=by omega
   have hr:Hid (r1=false):=by show _=_;rw[<-hr1];exact zC2 h4
   clear hr1 HK HU;go_wp2;go_ret;exact⟨aE V46,y0⟩
theorem aQq (G:Nat)(X:Value)(v0 v1 v2 v3 v4:Value)(g:Nat)(P:Bool)(R:World->Prop)(w:World)(hg:w.cell? ⟨g,0,none⟩=some (.func (.func G) #[X] #[]))(hG:Ent G)
  (H:∀w1,w.grownBy w1 none->Calls Tryz.prog G #[X,.agg #[v0,v1,v2,v3,v4]] w1 fun e w'=>e=.returned (.bool P)/\R w'):
  Calls Tryz.prog 52 #[.agg #[v0,v1,v2,v3,v4],.pointer (some ⟨g,0,none⟩)] w fun e w'=>e=.returned (.bool (!P))/\R w':=by
 have H1:=H _ (aC w (.cells #[v0,v1,v2,v3,v4] 56 (0,0)) none)
 have g1:=aB hg (show Below w.heap.size w (w.alloc (.cells #[v0,v1,v2,v3,v4] 56 (0,0))) from(zD2 _ _).alloc (zB0 _) _)
 have q0:=aN w 56 #[v0,v1,v2,v3,v4] 0 _ rfl;have q1:=aN w 56 #[v0,v1,v2,v3,v4] 1 _ rfl;have q2:=aN w 56 #[v0,v1,v2,v3,v4] 2 _ rfl;have q3:=aN w 56 #[v0,v1,v2,v3,v4] 3 _ rfl;have q4:=aN w 56 #[v0,v1,v2,v3,v4] 4 _ rfl;clear H hg;go_enter Tryz.func52,Tryz.ntmps52;go_upto_region 1 with fail;generalize w.alloc (.cells #[v0,v1,v2,v3,v4] 56 (0,0))=w1 at *;go_wp2_with fail;rw[hG,Oper.upon_enter];refine H1.mono ?_;rintro e w2 ⟨rfl,hR⟩;clear g1 q0 q1 q2 q3 q4;go_wp2;go_ret;exact⟨rfl,hR⟩
theorem aQw (G:Nat)(X:Value)(l:List Ac)(p:Ac->Bool)(a:Option Addr)(n c:Nat)(w:World)(hG:Ent G)(hn:l.length=n)(h:aS w a c 5 (l.map Ac.fl))
  (H:∀(x:Ac) (vs:List Value) (w1:World),x ∈ l->w.grownBy w1 none->aO w1 x.fl vs->Calls Tryz.prog G #[X,.agg vs.toArray] w1 fun e w'=>e=.returned (.bool (p x))/\w1.grownBy w' none):
  Calls Tryz.prog 26 #[.slice a n c,.func (.func G) #[X] #[]] w fun e w'=>e=.returned (.bool (l.all p))/\w.grownBy w' none:=by
 subst hn;have x0:=aN w 69 #[.func (.func G) #[X] #[]] 0 _ rfl;have y0:=aC w (.cells #[.func (.func G) #[X] #[]] 69 (0,0)) none
 have HC:=aOm 52 #[.pointer (some ⟨w.heap.size,0,none⟩)] none a l.length c (l.map Ac.fl) (fun j=>!p (l[j]?.getD ⟨0,0,0,[],0⟩)) (fun _ wr=>w.grownBy wr none/\wr.cell? ⟨w.heap.size,0,none⟩=some (.func (.func G) #[X] #[])) (fun _ _=>True) (w.alloc (.cells #[.func (.func G) #[X] #[]] 69 (0,0))) (by
  refine⟨cK Tryz.func52 rfl rfl,fun j wr hi=>h.below (aA hi.1), ?_, ?_⟩
  .
   intro r hr;obtain⟨x,_,rfl⟩:=zE1.1 hr
   rfl
  .
   intro j r wr vs hr hi Ad hca;rw[zA2]at hr;obtain⟨x,hx,rfl⟩:=zF0.1 hr;have hv:=Ad;obtain⟨y0,_,rfl,_,y1,_,rfl,_,y2,_,rfl,_,y3,_,rfl,_,y4,_,rfl,_,rfl⟩:=Ad
   refine(aQq G X y0 y1 y2 y3 y4 w.heap.size (p x) (fun w'=>wr.grownBy w' none) wr hi.2 hG (fun w1 hw1=>?_)).mono ?_
   .
    refine(H x _ w1 (zA3 hx) (aD hi.1 hw1) (hv.below (aA hw1))).mono ?_;rintro e w' ⟨rfl,h2⟩;exact⟨rfl,aD hw1 h2⟩
   .
    rintro e w' ⟨rfl,h2⟩;rw[hx]
    exact⟨rfl,h2,fun _=>⟨aD hi.1 h2,aB hi.2 (aA h2)⟩,fun _=>trivial⟩) V15 ⟨y0,x0⟩
 clear H h;go_enter Tryz.func26,Tryz.ntmps26;go_wp2_with fail;refine HC.mono ?_;rintro e w2 ⟨r,rfl,Be,ht⟩
 have he:Hid (r = !(l.all p)):=by
  show r=_
  rw[nJ ht];have h1:=fM l ⟨0,0,0,[],0⟩ p;rw[<-h1];generalize List.range l.length=L
  induction L with
  | nil=>rfl
  | cons x L ih=>simp only[List.any_cons,List.all_cons,ih,Bool.not_and]
 clear ht HC;go_wp2;go_ret
 exact⟨aE (by rw[he.out,Bool.not_not]),aD y0 Be⟩
end Go.Proofs.YtegkhlkjfeafjaaGreatDoor

import Derived.Test.YtnelibmaancmkaaGreatDoorPackF
namespace Go.Proofs.YtnelibmaancmkaaGreatDoor
open Go.RowKit
set_option maxHeartbeats 4000000
set_option linter.unusedVariables false
set_option linter.unusedSimpArgs false
set_option maxRecDepth 100000
theorem U43{p:Prop}(h:p:=by
 obtain⟨A,hA,hcase⟩:=(key false (by rw[hpa];rfl)).resolve_left V15
 rw[<-hA]
 rcases hcase with⟨rfl,hv⟩|⟨i2,y2,b2,off2,rfl,hil2,rfl,hv,r2⟩
 .
  have HF:Hid (arq m p x=false):=by show _=_;unfold arq;rw[hpa,hv];rfl
  clear key hA hv hpa
  go_wp2_with fail
  go_ret
  exact⟨aE HF.out.symm,yh⟩
 .
  have HF:Hid (arq m p x=decide (0<y2.size)):=by show _=_;unfold arq;rw[hpa,hv];rfl
  have hi2:(0:Int)<=(i2:Int):=by omega
  clear key hA hv hpa
  go_wp2_with fail
  go_ret
  exact⟨aE HF.out.symm,yh⟩):p:=h
theorem U136{p:Prop}(h:p:=by
 go_wp2_with fail
 go_ret
 exact⟨aE HF.out.symm,yg⟩):p:=h
def oK (p:Pr)(x:List Int):Option Bool:=(ix (p.params.map Pa.name) x).bind fun i=>p.params[i]?.map Pa.arr
def jA (m:Mo)(x:List Int):Option Int:=(ix (m.vars.map Va.name) x).bind fun i=>m.vars[i]?.map Va.size
def sgl (m:Mo)(p:Pr)(x:List Int):Bool:=match oK p x with
 | some b=>!b
 | none=>decide (x ∈ p.locals) || (match jA m x with
  | some n=>decide (n=0)
  | none=>false)
def arq (m:Mo)(p:Pr)(x:List Int):Bool:=(oK p x == some true) || (match jA m x with
 | some n=>decide (0<n)
 | none=>false)
theorem lW {α:Type}{f:α->List Int}{l:List α}{x:List Int}{i:Nat}(h:ix (l.map f) x=some i):∃y,l[i]?=some y/\f y=x:=by
 have:=(aIk h).1
 rw[List.getElem?_map]at this;exact Option.map_eq_some_iff.1 this
theorem mK {p:Pr}{x:List Int}{i:Nat}{y:Pa}(h:ix (p.params.map Pa.name) x=some i)(hy:p.params[i]?=some y):oK p x=some y.arr:=by unfold oK;rw[h,Option.bind_some,hy];rfl
theorem pS {p:Pr}{x:List Int}(h:ix (p.params.map Pa.name) x=none):oK p x=none:=by unfold oK;rw[h];rfl
theorem oB {m:Mo}{x:List Int}{i:Nat}{y:Va}(h:ix (m.vars.map Va.name) x=some i)(hy:m.vars[i]?=some y):jA m x=some y.size:=by unfold jA;rw[h,Option.bind_some,hy];rfl
theorem oC {m:Mo}{x:List Int}(h:ix (m.vars.map Va.name) x=none):jA m x=none:=by unfold jA;rw[h];rfl
theorem dY {α:Type}{l:List α}{i:Nat}{y:α}(h:l[i]?=some y):i<l.length:=(List.getElem?_eq_some_iff.1 h).1
theorem aS.cellsAt {w:World}{a:Option Addr}{c k i:Nat}{rs:List (List Fl)}{r:List Fl}(h:aS w a c k rs)(hi:rs[i]?=some r):∃b off vs,a=some ⟨b,off,none⟩/\aO w r vs/\∀z v,vs[z]?=some v->w.cell? ⟨b,off+i*k+z,none⟩=some v:=by
 obtain⟨b,off,rfl⟩:=h.addr (by have:=dY hi;omega)
 obtain⟨vs,hv,hc⟩:=(h.el hi).vals;exact⟨b,off,vs,rfl,hv,hc⟩
theorem sS (m:Mo)(p:Pr)(vs us:List Value)(w:World)(hm:aO w m.fl vs)(hp:aO w p.fl us)(a:Option Addr)(k c:Nat)(x:List Int)(hx:bW w a k x):
  Calls Tryz.prog 74 #[agg vs,agg us,.slice a k c] w fun e w'=>e=.returned (.bool (sgl m p x))/\w.grownBy w' none:=by
 have hm0:=hm;have hp0:=hp;obtain⟨v0,_,rfl,_,v1,_,rfl,_,v2,_,rfl,hv,v3,_,rfl,_,rfl⟩:=hm;obtain⟨u0,_,rfl,_,u1,_,rfl,_,u2,_,rfl,hu,u3,_,rfl,_,u4,_,rfl,_,rfl⟩:=hp;obtain⟨av,cv,rfl,hV⟩:=hv.list;obtain⟨ap,cp,rfl,hP⟩:=hu.list;have hv9:=hV.len9;have hp9:=hP.len9;rw[List.length_map]at hv9 hp9;simp only[List.length_map]at hm0 hp0 ⊢
 obtain⟨nv,hnv⟩:∃z,z=m.vars.length:=⟨_,rfl⟩
 obtain⟨np,hnp⟩:∃z,z=p.params.length:=⟨_,rfl⟩
 have HNV:Hid (m.vars.length=nv):=hnv.symm
 have HNP:Hid (p.params.length=np):=hnp.symm
 rw[<-hnv]at hm0 hv9 ⊢;rw[<-hnp]at hp0 hp9 ⊢;clear hnv hnp hv hu
 have HV:Hid (aS w av cv 2 (m.vars.map Va.fl)):=hV
 have HP:Hid (aS w ap cp 2 (p.params.map Pa.fl)):=hP
 have HM:Hid (aO w m.fl [v0,v1,.slice av nv cv,v3]):=hm0
 have HQ:Hid (aO w p.fl [u0,u1,.slice ap np cp,u3,u4]):=hp0
 have HX:Hid (bW w a k x):=hx
 clear hV hP hm0 hp0 hx;have x0:=(Blk.new w 35 [v0,v1,.slice av nv cv,v3]).old (o:=.cells #[u0,u1,.slice ap np cp,u3,u4] 72 (0,0));have x1:=Blk.new (w.alloc (.cells #[v0,v1,.slice av nv cv,v3] 35 (0,0))) 72 [u0,u1,.slice ap np cp,u3,u4]
 have hgz:(w.alloc (.cells #[v0,v1,.slice av nv cv,v3] 35 (0,0))).heap.size=w.heap.size+1:=by simp
 have y0:w.grownBy ((w.alloc (.cells #[v0,v1,.slice av nv cv,v3] 35 (0,0))).alloc (.cells #[u0,u1,.slice ap np cp,u3,u4] 72 (0,0))) none:=aD (aC w _ none) (aC _ _ none)
 simp only[List.toArray]at x0 x1;rw[hgz]at x1;clear hgz;simp only[agg];go_enter Tryz.func74,Tryz.ntmps74;go_upto_region 1 with fail;generalize (w.alloc (.cells #[v0,v1,.slice av nv cv,v3] 35 (0,0))).alloc (.cells #[u0,u1,.slice ap np cp,u3,u4] 72 (0,0))=w1 at *;have H1:=qV p _ w1 (aO.below HQ.out (aA y0)) a k c x (bW.below HX.out (aA y0));simp only[agg,List.toArray]at H1;obtain⟨q0,q1,q2,q3,q4⟩:=x1.c5
 cases hi:ix (p.params.map Pa.name) x with
 | some i=>
  obtain⟨y,hy,_⟩:=lW hi
  have HF:Hid (sgl m p x = !y.arr):=by show _=_;unfold sgl;rw[mK hi hy]
  have hil:i<np:=by have:=dY hy;rw[HNP.out]at this;exact this
  rw[cJ hi]at H1
  obtain⟨b,off,ys,rfl,hys,Ab⟩:=aS.cellsAt HP.out (show(p.params.map Pa.fl)[i]?=some y.fl by rw[List.getElem?_map,hy];rfl)
  obtain⟨y0',us',rfl,_,y1,us1,rfl,rfl,rfl⟩:=hys
  have HR:Hid (w.cell? ⟨b,off+i*2+1,none⟩=some (.bool y.arr)):=Ab 1 _ rfl
  clear hi hy Ab;go_wp2_with fail;refine H1.mono ?_;rintro e w2 ⟨rfl,hg⟩;have yg:=aD y0 hg;have z1:=x1.below (aA hg) x1.lt;have q2:=z1.cell (i:=2) rfl;have r:=aB HR.out (aA yg);clear q0 q1 q3 q4 x0 x1 z1 y0 hg H1;exact U136
 | none=>
  have HA:Hid (oK p x=none):=pS hi
  rw[cU hi]at H1;clear hi;go_wp2_with fail;refine H1.mono ?_;rintro e w2 ⟨rfl,hg⟩;have yg:=aD y0 hg;replace x0:=x0.below (aA hg) x0.lt;replace x1:=x1.below (aA hg) x1.lt;clear q0 q1 q2 q3 q4 y0 hg H1;have H2:=lV m _ w2 (aO.below HM.out (aA yg)) a k c x (bW.below HX.out (aA yg));simp only[agg,List.toArray]at H2;obtain⟨k0,k1,k2,k3⟩:=x0.c4;go_wp2_with fail;refine H2.mono ?_;rintro e w3 ⟨rfl,hg⟩;have yh:=aD yg hg;replace x0:=x0.below (aA hg) x0.lt;replace x1:=x1.below (aA hg) x1.lt;clear k0 k1 k2 k3 yg hg H2;have H3:=kF p _ w3 (aO.below HQ.out (aA yh)) a k c x (bW.below HX.out (aA yh));simp only[agg,List.toArray]at H3;obtain⟨q0,q1,q2,q3,q4⟩:=x1.c5
  cases hl:ix p.locals x with
  | some j=>
   have HF:Hid (sgl m p x=true):=by show _=_;unfold sgl;rw[HA.out];simp only;rw[decide_eq_true (List.mem_of_getElem? (aIk hl).1)];rfl
   rw[cJ hl]at H3;clear hl;generalize ixI (m.vars.map Va.name) x=vv at *;go_wp2_with fail;refine H3.mono ?_;rintro e w4 ⟨rfl,hg⟩;have yi:=aD yh hg;clear q0 q1 q2 q3 q4 x0 x1 yh hg H3
   have hj:(0:Int)<=(j:Int):=by omega
   go_wp2_with fail;go_ret;exact⟨aE HF.out.symm,yi⟩
  | none=>
   have hml:decide (x ∈ p.locals)=false:=decide_eq_false (fP.1 hl)
   rw[cU hl]at H3;clear hl
   cases hz:ix (m.vars.map Va.name) x with
   | none=>
    have HF:Hid (sgl m p x=false):=by show _=_;unfold sgl;rw[HA.out];simp only;rw[hml,oC hz];rfl
    rw[cU hz];clear hz hml;go_wp2_with fail;refine H3.mono ?_;rintro e w4 ⟨rfl,hg⟩;have yi:=aD yh hg;clear q0 q1 q2 q3 q4 x0 x1 yh hg H3;go_wp2_with fail;go_ret;exact⟨aE HF.out.symm,yi⟩
   | some i=>
    obtain⟨y,hy,_⟩:=lW hz
    have HF:Hid (sgl m p x=decide (y.size=0)):=by show _=_;unfold sgl;rw[HA.out];simp only;rw[hml,oB hz hy];simp
    have hil:i<nv:=by have:=dY hy;rw[HNV.out]at this;exact this
    obtain⟨b,off,ys,rfl,hys,Ab⟩:=aS.cellsAt HV.out (show(m.vars.map Va.fl)[i]?=some y.fl by rw[List.getElem?_map,hy];rfl)
    obtain⟨y0',us',rfl,_,y1,us1,rfl,rfl,rfl⟩:=hys
    have HR:Hid (w.cell? ⟨b,off+i*2+1,none⟩=some (.int .i64 y.size)):=Ab 1 _ rfl
    rw[cJ hz];clear hz hml hy Ab
    have hi0:(0:Int)<=(i:Int):=by omega
    go_wp2_with fail;refine H3.mono ?_;rintro e w4 ⟨rfl,hg⟩;have yi:=aD yh hg;replace x0:=x0.below (aA hg) x0.lt;have k2:=x0.cell (i:=2) rfl;have r:=aB HR.out (aA yi);clear q0 q1 q2 q3 q4 x0 x1 yh hg H3;go_wp2_with fail;go_ret
    exact⟨aE (by rw[HF.out];rfl),yi⟩
theorem nR (m:Mo)(p:Pr)(vs us:List Value)(w:World)(hm:aO w m.fl vs)(hp:aO w p.fl us)(a:Option Addr)(k c:Nat)(x:List Int)(hx:bW w a k x):
  Calls Tryz.prog 75 #[agg vs,agg us,.slice a k c] w fun e w'=>e=.returned (.bool (arq m p x))/\w.grownBy w' none:=by
 have hm0:=hm;have hp0:=hp;obtain⟨v0,_,rfl,_,v1,_,rfl,_,v2,_,rfl,hv,v3,_,rfl,_,rfl⟩:=hm;obtain⟨u0,_,rfl,_,u1,_,rfl,_,u2,_,rfl,hu,u3,_,rfl,_,u4,_,rfl,_,rfl⟩:=hp;obtain⟨av,cv,rfl,hV⟩:=hv.list;obtain⟨ap,cp,rfl,hP⟩:=hu.list;have hv9:=hV.len9;have hp9:=hP.len9;rw[List.length_map]at hv9 hp9;simp only[List.length_map]at hm0 hp0 ⊢
 obtain⟨nv,hnv⟩:∃z,z=m.vars.length:=⟨_,rfl⟩
 obtain⟨np,hnp⟩:∃z,z=p.params.length:=⟨_,rfl⟩
 have HNV:Hid (m.vars.length=nv):=hnv.symm
 have HNP:Hid (p.params.length=np):=hnp.symm
 rw[<-hnv]at hm0 hv9 ⊢;rw[<-hnp]at hp0 hp9 ⊢;clear hnv hnp hv hu
 have HV:Hid (aS w av cv 2 (m.vars.map Va.fl)):=hV
 have HP:Hid (aS w ap cp 2 (p.params.map Pa.fl)):=hP
 have HM:Hid (aO w m.fl [v0,v1,.slice av nv cv,v3]):=hm0
 have HQ:Hid (aO w p.fl [u0,u1,.slice ap np cp,u3,u4]):=hp0
 have HX:Hid (bW w a k x):=hx
 clear hV hP hm0 hp0 hx;have x0:=(Blk.new w 35 [v0,v1,.slice av nv cv,v3]).old (o:=.cells #[u0,u1,.slice ap np cp,u3,u4] 72 (0,0));have x1:=Blk.new (w.alloc (.cells #[v0,v1,.slice av nv cv,v3] 35 (0,0))) 72 [u0,u1,.slice ap np cp,u3,u4]
 have hgz:(w.alloc (.cells #[v0,v1,.slice av nv cv,v3] 35 (0,0))).heap.size=w.heap.size+1:=by simp
 have y0:w.grownBy ((w.alloc (.cells #[v0,v1,.slice av nv cv,v3] 35 (0,0))).alloc (.cells #[u0,u1,.slice ap np cp,u3,u4] 72 (0,0))) none:=aD (aC w _ none) (aC _ _ none)
 simp only[List.toArray]at x0 x1;rw[hgz]at x1;clear hgz;simp only[agg];go_enter Tryz.func75,Tryz.ntmps75;go_upto_region 1 with fail;generalize (w.alloc (.cells #[v0,v1,.slice av nv cv,v3] 35 (0,0))).alloc (.cells #[u0,u1,.slice ap np cp,u3,u4] 72 (0,0))=w1 at *;have H1:=qV p _ w1 (aO.below HQ.out (aA y0)) a k c x (bW.below HX.out (aA y0));simp only[agg,List.toArray]at H1;obtain⟨q0,q1,q2,q3,q4⟩:=x1.c5;go_wp2_with fail;refine H1.mono ?_;rintro e w2 ⟨rfl,hg⟩;have yg:=aD y0 hg;replace x0:=x0.below (aA hg) x0.lt;replace x1:=x1.below (aA hg) x1.lt;clear q0 q1 q2 q3 q4 y0 hg H1;have H2:=lV m _ w2 (aO.below HM.out (aA yg)) a k c x (bW.below HX.out (aA yg));simp only[agg,List.toArray]at H2;obtain⟨k0,k1,k2,k3⟩:=x0.c4;go_wp2_with fail;refine H2.mono ?_;rintro e w3 ⟨rfl,hg⟩;have yh:=aD yg hg;replace x0:=x0.below (aA hg) x0.lt;replace x1:=x1.below (aA hg) x1.lt;clear k0 k1 k2 k3 yg hg H2;have k2:=x0.cell (i:=2) rfl;have q2:=x1.cell (i:=2) rfl;clear x0 x1
 have key:∀(bp:Bool),(oK p x == some true)=bp->(bp=true\/∃A:Int,A=ixI (m.vars.map Va.name) x/\((A = -1/\jA m x=none)\/∃i y b off,A=(i:Nat)/\i<nv/\av=some ⟨b,off,none⟩/\jA m x=some y.size/\w3.cell? ⟨b,off+i*2+1,none⟩=some (.int .i64 (Va.size y)))):=by
  intro bp _;cases bp
  .
   right
   refine⟨_,rfl, ?_⟩
   cases hz:ix (m.vars.map Va.name) x with
   | none=>exact .inl ⟨cU hz,oC hz⟩
   | some i=>
    obtain⟨y,hy,_⟩:=lW hz
    obtain⟨b,off,ys,e,hys,Ab⟩:=aS.cellsAt HV.out (show(m.vars.map Va.fl)[i]?=some y.fl by rw[List.getElem?_map,hy];rfl)
    obtain⟨y0',us',rfl,_,y1,us1,rfl,rfl,rfl⟩:=hys
    exact .inr ⟨i,y,b,off,cJ hz,by have:=dY hy;rw[HNV.out]at this;exact this,e,oB hz hy,aB (Ab 1 _ rfl) (aA yh)⟩
  .
   exact .inl rfl
 cases hi:ix (p.params.map Pa.name) x with
 | some i=>
  obtain⟨y,hy,_⟩:=lW hi;have hpa:=mK hi hy
  have hil:i<np:=by have:=dY hy;rw[HNP.out]at this;exact this
  obtain⟨b,off,ys,rfl,hys,Ab⟩:=aS.cellsAt HP.out (show(p.params.map Pa.fl)[i]?=some y.fl by rw[List.getElem?_map,hy];rfl)
  obtain⟨y0',us',rfl,_,y1,us1,rfl,rfl,rfl⟩:=hys;have r:=aB (Ab 1 _ rfl) (aA yh);rw[cJ hi]
  have hi0:(0:Int)<=(i:Int):=by omega
  clear hi hy Ab
  cases hya:y.arr
  .
   rw[hya]at r hpa;exact U43
  .
   rw[hya]at r hpa
   have HF:Hid (arq m p x=true):=by show _=_;unfold arq;rw[hpa];rfl
   clear key hpa;generalize ixI (m.vars.map Va.name) x=vv at *;go_wp2_with fail;go_ret;exact⟨aE HF.out.symm,yh⟩
 | none=>
  have hpa:=pS hi;rw[cU hi];clear hi;exact U43
theorem V2{p:Prop}(h:p:=by kernel_rfl):p:=h
theorem V30{p:Prop}(h:p:=by simp only[results,Tryz.results123];simp[go_sem]):p:=h
theorem U70{p:Prop}(h:p:=by
 go_wp2_with fail
 refine H1.mono ?_
 rintro e w2 ⟨rfl,hg⟩
 have yg:=aD y0 hg
 clear q2 q3 k0 k1 k2 k3 z0 z1 y0 hg H1
 go_wp2_with fail
 refine bodyPost_ret (v:=.tuple #[.slice none 0 0,.bool false]) V30 rfl ⟨.slice none 0 0,by rw[HF.out];rfl,(fun k hk=>by rw[HF.out]at hk;cases hk),yg⟩):p:=h
def aDp (m:Mo)(x:List Int):Option (List Int):=(ix (m.procs.map Pr.name) x).bind fun i=>m.procs[i]?.map fun q=>cP q.params
def nG (fs:List Fa)(x:List Int):Option Fa:=(ix (fs.map Fa.name) x).bind fun i=>fs[i]?
def nE (f:Fa)(x:List Int):Option (List Int):=(ix (f.procs.map Fp.name) x).bind fun i=>f.procs[i]?.map Fp.kinds
def fO (m:Mo)(fs:List Fa)(mod name:List Int):Option (List Int):=
 if mod=[] then aDp m name else (nG fs mod).bind fun f=>if mod ∈ m.uses then nE f name else none
theorem zG {m:Mo}{fs:List Fa}{mod name:List Int}(h:mod=[]):fO m fs mod name=aDp m name:=if_pos h
theorem zH {m:Mo}{fs:List Fa}{mod name:List Int}(h:mod ≠ []):fO m fs mod name=(nG fs mod).bind fun f=>if mod ∈ m.uses then nE f name else none:=if_neg h
set_option maxHeartbeats 8000000 in
theorem zE (m:Mo)(fs:List Fa)(x0 x1:Int)(mod name:List Int)(ks:List Ex)(vs es:List Value)(b:Option Addr)(nf d:Nat)(w:World)(hm:aO w m.fl vs)(hf:aS w b d 2 (fs.map Fa.fl))(hfl:fs.length=nf)(he:aO w (Ex.fl ⟨x0,x1,mod,name,ks⟩) es)
  (hpl:∀q ∈ m.procs,q.params.length<=1048576):
  Calls Tryz.prog 123 #[agg vs,.slice b nf d,agg es] w fun e w'=>∃v,e=.returned (.tuple #[v,.bool (fO m fs mod name).isSome])/\(∀k,fO m fs mod name=some k->(Fl.i k).Rd w' v)/\w.grownBy w' none:=by
 have hm0:=hm;obtain⟨v0,_,rfl,_,v1,_,rfl,hus,v2,_,rfl,_,v3,_,rfl,hpr,rfl⟩:=hm;obtain⟨e0,_,rfl,rfl,e1,_,rfl,rfl,e2,_,rfl,⟨am,cm,rfl,hbm,_⟩,e3,_,rfl,⟨an,cn,rfl,hbn,_⟩,e4,_,rfl,_,rfl⟩:=he;obtain⟨au,cu,rfl,hU⟩:=hus.list;obtain⟨ap,cp,rfl,hP⟩:=hpr.list;have hp9:=hP.len9;have hf9:=hf.len9;rw[List.length_map]at hp9 hf9;rw[hfl]at hf9
 have hul:(bH m.uses).length=m.uses.length:=by simp[bH]
 simp only[List.length_map,hul]at hm0 ⊢
 obtain⟨np,hnp⟩:∃z,z=m.procs.length:=⟨_,rfl⟩
 obtain⟨nu,hnu⟩:∃z,z=m.uses.length:=⟨_,rfl⟩
 have HNP:Hid (m.procs.length=np):=hnp.symm
 have HNU:Hid (m.uses.length=nu):=hnu.symm
 rw[<-hnp,<-hnu]at hm0 ⊢;rw[<-hnp]at hp9
 have HM:Hid (aO w m.fl [v0,.slice au nu cu,v2,.slice ap np cp]):=hm0
 have HP:Hid (aS w ap cp 5 (m.procs.map Pr.fl)):=hP
 have HU:Hid (aS w au cu 1 (bH m.uses)):=hU
 have HFS:Hid (aS w b d 2 (fs.map Fa.fl)):=hf
 have HFL:Hid (fs.length=nf):=hfl
 have HBM:Hid (bW w am mod.length mod):=hbm
 have HBN:Hid (bW w an name.length name):=hbn
 have HPL:Hid (∀q ∈ m.procs,q.params.length<=1048576):=hpl
 clear hm0 hP hU hf hfl hbm hbn hus hpr hnp hnu hpl hul;have z0:=(Blk.new w 35 [v0,.slice au nu cu,v2,.slice ap np cp]).old (o:=.cells #[.int .i64 x0,.int .i64 x1,.slice am mod.length cm,.slice an name.length cn,e4] 135 (0,0));have z1:=Blk.new (w.alloc (.cells #[v0,.slice au nu cu,v2,.slice ap np cp] 35 (0,0))) 135 [.int .i64 x0,.int .i64 x1,.slice am mod.length cm,.slice an name.length cn,e4]
 have hgz:(w.alloc (.cells #[v0,.slice au nu cu,v2,.slice ap np cp] 35 (0,0))).heap.size=w.heap.size+1:=by simp
 have y0:w.grownBy ((w.alloc (.cells #[v0,.slice au nu cu,v2,.slice ap np cp] 35 (0,0))).alloc (.cells #[.int .i64 x0,.int .i64 x1,.slice am mod.length cm,.slice an name.length cn,e4] 135 (0,0))) none:=aD (aC w _ none) (aC _ _ none)
 simp only[List.toArray]at z0 z1;rw[hgz]at z1;clear hgz;simp only[agg];go_enter Tryz.func123,Tryz.ntmps123;go_upto_region 1 with fail;generalize (w.alloc (.cells #[v0,.slice au nu cu,v2,.slice ap np cp] 35 (0,0))).alloc (.cells #[.int .i64 x0,.int .i64 x1,.slice am mod.length cm,.slice an name.length cn,e4] 135 (0,0))=w1 at *;have q2:=z1.cell (i:=2) rfl;have q3:=z1.cell (i:=3) rfl;obtain⟨k0,k1,k2,k3⟩:=z0.c4
 by_cases hmod:mod=[]
 .
  have HQ:Hid (fO m fs mod name=aDp m name):=zG hmod
  have hml:mod.length=0:=by rw[hmod];rfl
  rw[hml]at q2;have H1:=jS m _ w1 (aO.below HM.out (aA y0)) an name.length cn name (bW.below HBN.out (aA y0));simp only[agg,List.toArray]at H1
  cases hi:ix (m.procs.map Pr.name) name with
  | none=>
   have HF:Hid (fO m fs mod name=none):=by show _=_;rw[HQ.out];unfold aDp;rw[hi];rfl
   rw[cU hi]at H1;clear hi hmod;exact U70
  | some i=>
   obtain⟨q,hq,_⟩:=lW hi
   have HF:Hid (fO m fs mod name=some (cP q.params)):=by show _=_;rw[HQ.out];unfold aDp;rw[hi,Option.bind_some,hq];rfl
   have hil:i<np:=by have:=dY hq;rw[HNP.out]at this;exact this
   have hql:=HPL.out q (List.mem_of_getElem? hq);rw[cJ hi]at H1
   obtain⟨bp,off,ys,rfl,hys,Ab⟩:=aS.cellsAt HP.out (show(m.procs.map Pr.fl)[i]?=some q.fl by rw[List.getElem?_map,hq];rfl)
   have HY:Hid (aO w q.fl ys):=hys
   obtain⟨s0,_,rfl,_,s1,_,rfl,_,s2,_,rfl,_,s3,_,rfl,_,s4,_,rfl,_,rfl⟩:=hys
   have HR:Hid (∀z v,[s0,s1,s2,s3,s4][z]?=some v->w.cell? ⟨bp,off+i*5+z,none⟩=some v):=Ab
   clear hi hmod Ab hq;have hi0:¬((i:Int)<0):=V6;go_wp2_with fail;refine H1.mono ?_;rintro e w2 ⟨rfl,hg⟩;have yg:=aD y0 hg;replace z0:=z0.below (aA hg) z0.lt;have k3:=z0.cell (i:=3) rfl;have r0:=aB (HR.out 0 _ rfl) (aA yg);have r1:=aB (HR.out 1 _ rfl) (aA yg);have r2:=aB (HR.out 2 _ rfl) (aA yg);have r3:=aB (HR.out 3 _ rfl) (aA yg);have r4:=aB (HR.out 4 _ rfl) (aA yg);rw[Nat.add_zero]at r0;have H2:=aEt q _ w2 (aO.below HY.out (aA yg)) hql;simp only[agg,List.toArray]at H2;clear q2 q3 k0 k1 k2 z0 z1 y0 hg H1;go_wp2_with fail;refine H2.mono ?_;rintro e w3 ⟨v,rfl,ho,hb⟩;have yh:=aD yg (aI hb none)
   have HV:Hid ((Fl.i (cP q.params)).Rd w3 v):=Ob.irow (l:=cP q.params) (by have:(cP q.params).length=q.params.length:=(by simp[cP]);rw[this];exact ho) (mN _)
   clear H2 ho hb yg r0 r1 r2 r3 r4 k3;go_wp2_with fail
   refine bodyPost_ret (v:=.tuple #[v,.bool true]) V30 rfl ⟨v,by rw[HF.out];rfl,(fun k hk=>by rw[HF.out]at hk;cases hk;exact HV.out),yh⟩
 .
  have HQ:Hid (fO m fs mod name=(nG fs mod).bind fun f=>if mod ∈ m.uses then nE f name else none):=zH hmod
  have hml:(mod.length:Int) ≠ 0:=by
   intro e;exact hmod (List.eq_nil_of_length_eq_zero V6)
  have hmb:((mod.length:Int) == 0)=false:=by simpa using hml
  have H1:=oQ fs b nf d w1 (aS.below HFS.out (aA y0)) HFL.out am mod.length cm mod (bW.below HBM.out (aA y0));clear hmod
  cases hi:ix (fs.map Fa.name) mod with
  | none=>
   have HF:Hid (fO m fs mod name=none):=by show _=_;rw[HQ.out];unfold nG;rw[hi];rfl
   rw[cU hi]at H1;clear hi;exact U70
  | some i=>
   obtain⟨f,hff,_⟩:=lW hi
   have hfq:nG fs mod=some f:=by unfold nG;rw[hi,Option.bind_some,hff]
   have hil:i<nf:=by have:=dY hff;rw[HFL.out]at this;exact this
   rw[cJ hi]at H1
   obtain⟨bf,off,ys,rfl,hys,Ab⟩:=aS.cellsAt HFS.out (show(fs.map Fa.fl)[i]?=some f.fl by rw[List.getElem?_map,hff];rfl)
   have HY0:=hys;obtain⟨s0,_,rfl,_,s1,_,rfl,hs1,rfl⟩:=hys;obtain⟨aq,cq,rfl,hQ⟩:=hs1.list;have hq9:=hQ.len9;rw[List.length_map]at hq9;rw[List.length_map]at Ab HY0
   obtain⟨nq,hnq⟩:∃z,z=f.procs.length:=⟨_,rfl⟩
   have HNQ:Hid (f.procs.length=nq):=hnq.symm
   rw[<-hnq]at Ab HY0 hq9
   have HY:Hid (aO w f.fl [s0,.slice aq nq cq]):=HY0
   have HR0:Hid (w.cell? ⟨bf,off+i*2,none⟩=some s0):=Ab 0 _ rfl
   have HR1:Hid (w.cell? ⟨bf,off+i*2+1,none⟩=some (.slice aq nq cq)):=Ab 1 _ rfl
   have HLQ:Hid (aS w aq cq 2 (f.procs.map Fp.fl)):=hQ
   clear hi Ab hff hQ hs1 HY0 hnq;have hi0:¬((i:Int)<0):=V6;go_wp2_with fail;refine H1.mono ?_;rintro e w2 ⟨rfl,hg⟩;have yg:=aD y0 hg;replace z0:=z0.below (aA hg) z0.lt;replace z1:=z1.below (aA hg) z1.lt;clear q2 q3 k0 k1 k2 k3 y0 hg H1;have q2:=z1.cell (i:=2) rfl;have k1:=z0.cell (i:=1) rfl;have H2:=aGf m.uses au nu cu w2 (aS.below HU.out (aA yg)) HNU.out am mod.length cm mod (bW.below HBM.out (aA yg))
   by_cases hin:mod ∈ m.uses
   .
    rw[decide_eq_true hin]at H2
    have HQ2:Hid (fO m fs mod name=nE f name):=by show _=_;rw[HQ.out,hfq,Option.bind_some,if_pos hin]
    clear hin hfq;go_wp2_with fail;refine H2.mono ?_;rintro e w3 ⟨rfl,hg⟩;have yh:=aD yg hg;replace z0:=z0.below (aA hg) z0.lt;replace z1:=z1.below (aA hg) z1.lt;clear q2 k1 yg hg H2;have q3:=z1.cell (i:=3) rfl;go_wp2_with fail;have r0:=aB HR0.out (aA yh);have r1:=aB HR1.out (aA yh)
    have HS:∀{wl:World},Below w3.heap.size w3 wl->wl.cell? ⟨bf,off+i*2,none⟩=some s0/\wl.cell? ⟨bf,off+i*2+1,none⟩=some (.slice aq nq cq)/\wl.cell? ⟨w.heap.size+1,3,none⟩=some (.slice an name.length cn):=fun hb=>⟨aB r0 hb,aB r1 hb,aB q3 hb⟩
    have Al:=HS (wl:=w3.drew) (Below.refl _ _).drew;have yd:=(aA yh).drew;have H3:=uN f _ w3.drew (aO.below HY.out yd) an name.length cn name (bW.below HBN.out yd);simp only[agg,List.toArray]at H3
    refine wp_region_held_drew (S:=fun wl=>wl.cell? ⟨bf,off+i*2,none⟩=some s0/\wl.cell? ⟨bf,off+i*2+1,none⟩=some (.slice aq nq cq)/\wl.cell? ⟨w.heap.size+1,3,none⟩=some (.slice an name.length cn)) V2 Al (fun Aa=>?_)
    refine ta 0 ?_ Aa;refine ta 1 ?_ Aa;refine ta 2 ?_ Aa;try simp only[nrm]
    refine ta 3 ?_ Aa;refine ta 4 ?_ Aa;refine ta 5 ?_ Aa;try simp only[nrm]
    refine ra 6 fun K hK=>?_
    go_simp
    (with_reducible refine H3.mono ?_)
    rintro e w4 ⟨rfl,Bg⟩
    have b4:Below w3.heap.size w3 w4:=(Below.refl w3.heap.size w3).drew.trans (aA Bg)
    have yi:=aD yh (aI b4 none);have HS4:=HS b4;go_wp2_with fail
    refine hK.out _ _ (HS4) (fun Aa=>?_)
    clear hK K;try simp only[nrm]
    refine ta 7 ?_ Aa;try simp only[nrm]
    refine wpAnyH_done V2 ?_ _;have rr1:=HS4.2.1;clear HS Al HS4 Aa H3 r0 r1 q3 yd z0 z1 yh Bg b4
    cases hj:ix (f.procs.map Fp.name) name with
    | none=>
     have HF:Hid (fO m fs mod name=none):=by show _=_;rw[HQ2.out];unfold nE;rw[hj];rfl
     rw[cU hj];clear hj rr1;go_wp2_with fail
     refine bodyPost_ret (v:=.tuple #[.slice none 0 0,.bool false]) V30 rfl ⟨.slice none 0 0,by rw[HF.out];rfl,(fun k hk=>by rw[HF.out]at hk;cases hk),yi⟩
    | some j=>
     obtain⟨y,hy,_⟩:=lW hj
     have HF:Hid (fO m fs mod name=some y.kinds):=by show _=_;rw[HQ2.out];unfold nE;rw[hj,Option.bind_some,hy];rfl
     have hjl:j<nq:=by have:=dY hy;rw[HNQ.out]at this;exact this
     obtain⟨bq,off2,ys,rfl,hys,Ab⟩:=aS.cellsAt HLQ.out (show(f.procs.map Fp.fl)[j]?=some y.fl by rw[List.getElem?_map,hy];rfl)
     obtain⟨t0,_,rfl,_,t1,_,rfl,ht1,rfl⟩:=hys
     have HV:Hid ((Fl.i y.kinds).Rd w4 t1):=ht1.below (aA yi)
     have r2:=aB (Ab 1 _ rfl) (aA yi);obtain⟨at1,ct1,rfl,_⟩:=ht1;rw[cJ hj];have hj0:¬((j:Int)<0):=V6;clear hj hy Ab;generalize As:y.kinds.length=kl at *;go_wp2_with fail
     refine bodyPost_ret (v:=.tuple #[.slice at1 kl ct1,.bool true]) V30 rfl ⟨.slice at1 kl ct1,by rw[HF.out];rfl,(fun k hk=>by rw[HF.out]at hk;cases hk;exact HV.out),yi⟩
   .
    rw[decide_eq_false hin]at H2
    have HF:Hid (fO m fs mod name=none):=by show _=_;rw[HQ.out,hfq,Option.bind_some,if_neg hin]
    clear hin hfq;go_wp2_with fail;refine H2.mono ?_;rintro e w3 ⟨rfl,hg⟩;have yh:=aD yg hg;clear q2 k1 yg hg H2 z0 z1;go_wp2_with fail
    refine bodyPost_ret (v:=.tuple #[.slice none 0 0,.bool false]) V30 rfl ⟨.slice none 0 0,by rw[HF.out];rfl,(fun k hk=>by rw[HF.out]at hk;cases hk),yh⟩
end Go.Proofs.YtnelibmaancmkaaGreatDoor

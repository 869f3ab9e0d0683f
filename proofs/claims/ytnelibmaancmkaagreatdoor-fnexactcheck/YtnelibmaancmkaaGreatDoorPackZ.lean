import Derived.Test.YtnelibmaancmkaaGreatDoorAll
import Derived.Test.YtnelibmaancmkaaGreatDoorTreeTo2
import Derived.Test.YtnelibmaancmkaaGreatDoorBytesEq
import Derived.Maps.Own
import Derived.Maps.OwnOps
import Derived.Maps.OwnSet
import Derived.Maps.Views
import Derived.StringKeys
namespace Go.Proofs.YtnelibmaancmkaaGreatDoor
open Go.RowKit
set_option maxHeartbeats 2000000
set_option linter.unusedVariables false
set_option linter.unusedSimpArgs false
set_option maxRecDepth 100000
theorem V32{p:Prop}(h:p:=by show ∀_ _,_;omega):p:=h
theorem V34{p:Prop}(h:p:=by rw[<-Option.some.inj this];exact e2):p:=h
theorem U15{p:Prop}(h:p:=by
 clear he HE HY hno
 go_wp2_with fail
 go_quiet (fail)
 go_wp2_with fail
 go_roundw
 case rel=>exact⟨j+1,by omega,by go_num,HF,aI (below_drewN (aA Hg2.out) _) _⟩
 case measure=>simp[intOf];omega):p:=h
theorem U28{p:Prop}(h:p:=by
 clear he HE HY
 go_wp2_with fail
 go_quiet (fail)
 go_wp2_with fail
 go_ret
 exact⟨aQ (cJ HF.out).symm,aI (below_drewN (aA Hg.out) _) _⟩):p:=h
theorem U33{p:Prop}(h:p:=by
 by_cases e:m=j
 .
  subst e;have:=HY.out;rw[hy]at this;exact fun e2=>he V34
 .
  exact hno.out m y V6 hy):p:=h
theorem U54{p:Prop}(h:p:=by
 clear hb Hb Aq hno
 go_wp2_with fail
 go_ret
 exact⟨aQ (cU HF.out).symm,Hg.out⟩):p:=h
theorem U80{p:Prop}(h:p:=by
 rw[List.getElem?_map]at hy
 exact Option.map_eq_some_iff.1 hy):p:=h
def ix (l:List (List Int))(x:List Int):Option Nat:=l.findIdx? fun y=>decide (y=x)
def ixI (l:List (List Int))(x:List Int):Int:=match ix l x with
 | some i=>i
 | none=>-1
theorem kZ {l:List (List Int)}{x:List Int}(h:∀m y,m<l.length->l[m]?=some y->y ≠ x):ix l x=none:=by
 unfold ix;rw[List.findIdx?_eq_none_iff];intro y hy;obtain⟨m,hm,rfl⟩:=List.mem_iff_getElem.1 hy;exact decide_eq_false (h m _ hm (List.getElem?_eq_getElem hm))
theorem iU {l:List (List Int)}{x:List Int}{j:Nat}(h:∀m y,m<j->l[m]?=some y->y ≠ x)(hj:l[j]?=some x):ix l x=some j:=by
 unfold ix;obtain⟨hl,e⟩:=List.getElem?_eq_some_iff.1 hj;rw[List.findIdx?_eq_some_iff_getElem]
 refine⟨hl,by simp[e],fun m hm=>?_⟩
 have:=h m _ hm (List.getElem?_eq_getElem V6)
 simpa using this
theorem cU {l:List (List Int)}{x:List Int}(h:ix l x=none):ixI l x = -1:=by unfold ixI;rw[h]
theorem cJ {l:List (List Int)}{x:List Int}{j:Nat}(h:ix l x=some j):ixI l x=j:=by unfold ixI;rw[h]
theorem fP {l:List (List Int)}{x:List Int}:ix l x=none ↔ x ∉ l:=by
 unfold ix;rw[List.findIdx?_eq_none_iff]
 exact⟨fun h hx=>by have:=h x hx;simp at this,fun h y hy=>decide_eq_false (fun e=>h (e ▸ hy))⟩
theorem aIk {l:List (List Int)}{x:List Int}{j:Nat}(h:ix l x=some j):l[j]?=some x/\∀m y,m<j->l[m]?=some y->y ≠ x:=by
 unfold ix at h;rw[List.findIdx?_eq_some_iff_getElem]at h;obtain⟨hl,e,hm⟩:=h
 refine⟨by rw[List.getElem?_eq_getElem hl];simpa using e,fun m y hy he=>?_⟩
 have:=hm m hy
 rw[List.getElem?_eq_getElem V6]at he;simp only[Option.some.injEq]at he;rw[<-he]
 simpa using this
theorem aS.len9 {w:World}{a:Option Addr}{c k:Nat}{rs:List (List Fl)}(h:aS w a c k rs):rs.length<=9223372036854775807:=by have h1:=h.cap;have h2:=h.most;unfold maxLen at h2;omega
theorem jS (q:Mo)(vs:List Value)(w:World)(h:aO w q.fl vs)(a:Option Addr)(k c:Nat)(x:List Int)(hx:bW w a k x):
  Calls Tryz.prog 71 #[agg vs,.slice a k c] w fun e w'=>e=.returned (.int .i64 (ixI (q.procs.map Pr.name) x))/\w.grownBy w' none:=by
 obtain⟨v0,_,rfl,h0,v1,_,rfl,h1,v2,_,rfl,h2,v3,_,rfl,h3,rfl⟩:=h;obtain⟨b,d,rfl,hL⟩:=h3.list;have hn9:=hL.len9
 have hln:(q.procs.map Pr.fl).length=(q.procs).length:=by simp[bH]
 rw[hln]at hn9 ⊢
 obtain⟨n,hN⟩:∃z,z=(q.procs).length:=⟨_,rfl⟩
 have HN:Hid ((q.procs).length=n):=hN.symm
 rw[<-hN]at hn9 ⊢
 have HL:Hid (aS w b d 5 (q.procs.map Pr.fl)):=hL
 have HX:Hid (bW w a k x):=hx
 have x0:=Blk.new w 35 [v0,v1,v2,.slice b n d];have y0:=aC w (.cells #[v0,v1,v2,.slice b n d] 35 (0,0)) none;simp only[List.toArray]at x0;simp only[agg];clear hL hx hN hln h0 h1 h2 h3;go_enter Tryz.func71,Tryz.ntmps71;go_upto_region 1 with fail;generalize w.alloc (.cells #[v0,v1,v2,.slice b n d] 35 (0,0))=w1 at *
 have Q1:Hid (w1.cell? ⟨w.heap.size,3,none⟩=some (.slice b n d)):=x0.cell (i:=3) rfl
 have Y1:Hid (w.grownBy w1 none):=y0
 clear x0 y0;go_wp2_with fail
 go_loopw [5] (fun i wr=>∃j:Nat,j<=n/\i=.int .i64 j/\Hid (∀m y,m<j->(q.procs.map Pr.name)[m]?=some y->y ≠ x)/\Hid (w1.grownBy wr none)) (fun i _=>n-(intOf i).toNat)
 case atStart=>exact⟨0,Nat.zero_le _,rfl,V32,aP _ _⟩
 case round=>
  obtain⟨j,hj,rfl,hno,Hb⟩:=hrel;have hb:=Hb.out
  have Aq:w.grownBy wr none:=aD Y1.out hb
  have Hg:Hid (w.grownBy wr none):=Aq
  have HB1:Hid (w1.grownBy wr none):=hb
  have q1:=aB Q1.out (aA hb)
  by_cases Ai:j<n
  .
   obtain⟨y,hy⟩:∃y,(q.procs.map Pr.name)[j]?=some y:=⟨_,List.getElem?_eq_getElem (by rw[show(q.procs.map Pr.name).length=(q.procs).length by simp,HN.out];exact Ai)⟩
   obtain⟨z,hz,rfl⟩:∃z,(q.procs)[j]?=some z/\z.name=y:=by
    exact U80
   have hrj:(q.procs.map Pr.fl)[j]?=some z.fl:=by rw[List.getElem?_map,hz];rfl
   obtain⟨b,off,rfl⟩:=aS.addr HL.out (by rw[show(q.procs.map Pr.fl).length=(q.procs).length by simp[bH],HN.out];omega)
   obtain⟨vs,Ad,Ab⟩:=((aS.below HL.out (aA Aq)).el hrj).vals;obtain⟨z0,us,rfl,⟨az,cz,rfl,hbz,_⟩,_⟩:=Ad;have r0:=Ab 0 _ rfl;rw[Nat.add_zero]at r0
   have kc1:=fun d=>aT cz (hbz.drewN d)
   have kc2:=fun d=>aT c (bW.drewN (bW.below HX.out (aA Aq)) d)
   have HE:Hid (((strOfNums z.name).toList == (strOfNums x).toList)=decide (z.name=x)):=iI hbz.2.1 HX.out.2.1
   have HY:Hid ((q.procs.map Pr.name)[j]?=some z.name):=by show _=_;rw[List.getElem?_map,hz];rfl
   have hj':(j:Int)<(n:Int):=V6;clear Ab hz hy hrj hbz hb Hb Aq
   by_cases he:z.name=x
   .
    have hbq:((strOfNums z.name).toList == (strOfNums x).toList)=true:=HE.out.trans (decide_eq_true he)
    have HF:Hid (ix (q.procs.map Pr.name) x=some j):=iU hno.out (he ▸ HY.out)
    exact U28
   .
    have hbq:((strOfNums z.name).toList == (strOfNums x).toList)=false:=HE.out.trans (decide_eq_false he)
    have HF:Hid (∀m y,m<j+1->(q.procs.map Pr.name)[m]?=some y->y ≠ x):=fun m y hm hy=>by
     exact U33
    have Hg2:Hid (w1.grownBy wr none):=HB1.out
    exact U15
  .
   have:n=j:=V6
   subst this
   have HF:Hid (ix (q.procs.map Pr.name) x=none):=kZ (by rw[show(q.procs.map Pr.name).length=(q.procs).length by simp,HN.out];exact hno.out)
   exact U54
theorem lV (q:Mo)(vs:List Value)(w:World)(h:aO w q.fl vs)(a:Option Addr)(k c:Nat)(x:List Int)(hx:bW w a k x):
  Calls Tryz.prog 70 #[agg vs,.slice a k c] w fun e w'=>e=.returned (.int .i64 (ixI (q.vars.map Va.name) x))/\w.grownBy w' none:=by
 obtain⟨v0,_,rfl,h0,v1,_,rfl,h1,v2,_,rfl,h2,v3,_,rfl,h3,rfl⟩:=h;obtain⟨b,d,rfl,hL⟩:=h2.list;have hn9:=hL.len9
 have hln:(q.vars.map Va.fl).length=(q.vars).length:=by simp[bH]
 rw[hln]at hn9 ⊢
 obtain⟨n,hN⟩:∃z,z=(q.vars).length:=⟨_,rfl⟩
 have HN:Hid ((q.vars).length=n):=hN.symm
 rw[<-hN]at hn9 ⊢
 have HL:Hid (aS w b d 2 (q.vars.map Va.fl)):=hL
 have HX:Hid (bW w a k x):=hx
 have x0:=Blk.new w 35 [v0,v1,.slice b n d,v3];have y0:=aC w (.cells #[v0,v1,.slice b n d,v3] 35 (0,0)) none;simp only[List.toArray]at x0;simp only[agg];clear hL hx hN hln h0 h1 h2 h3;go_enter Tryz.func70,Tryz.ntmps70;go_upto_region 1 with fail;generalize w.alloc (.cells #[v0,v1,.slice b n d,v3] 35 (0,0))=w1 at *
 have Q1:Hid (w1.cell? ⟨w.heap.size,2,none⟩=some (.slice b n d)):=x0.cell (i:=2) rfl
 have Y1:Hid (w.grownBy w1 none):=y0
 clear x0 y0;go_wp2_with fail
 go_loopw [5] (fun i wr=>∃j:Nat,j<=n/\i=.int .i64 j/\Hid (∀m y,m<j->(q.vars.map Va.name)[m]?=some y->y ≠ x)/\Hid (w1.grownBy wr none)) (fun i _=>n-(intOf i).toNat)
 case atStart=>exact⟨0,Nat.zero_le _,rfl,V32,aP _ _⟩
 case round=>
  obtain⟨j,hj,rfl,hno,Hb⟩:=hrel;have hb:=Hb.out
  have Aq:w.grownBy wr none:=aD Y1.out hb
  have Hg:Hid (w.grownBy wr none):=Aq
  have HB1:Hid (w1.grownBy wr none):=hb
  have q1:=aB Q1.out (aA hb)
  by_cases Ai:j<n
  .
   obtain⟨y,hy⟩:∃y,(q.vars.map Va.name)[j]?=some y:=⟨_,List.getElem?_eq_getElem (by rw[show(q.vars.map Va.name).length=(q.vars).length by simp,HN.out];exact Ai)⟩
   obtain⟨z,hz,rfl⟩:∃z,(q.vars)[j]?=some z/\z.name=y:=by
    exact U80
   have hrj:(q.vars.map Va.fl)[j]?=some z.fl:=by rw[List.getElem?_map,hz];rfl
   obtain⟨b,off,rfl⟩:=aS.addr HL.out (by rw[show(q.vars.map Va.fl).length=(q.vars).length by simp[bH],HN.out];omega)
   obtain⟨vs,Ad,Ab⟩:=((aS.below HL.out (aA Aq)).el hrj).vals;obtain⟨z0,us,rfl,⟨az,cz,rfl,hbz,_⟩,_⟩:=Ad;have r0:=Ab 0 _ rfl;rw[Nat.add_zero]at r0
   have kc1:=fun d=>aT cz (hbz.drewN d)
   have kc2:=fun d=>aT c (bW.drewN (bW.below HX.out (aA Aq)) d)
   have HE:Hid (((strOfNums z.name).toList == (strOfNums x).toList)=decide (z.name=x)):=iI hbz.2.1 HX.out.2.1
   have HY:Hid ((q.vars.map Va.name)[j]?=some z.name):=by show _=_;rw[List.getElem?_map,hz];rfl
   have hj':(j:Int)<(n:Int):=V6;clear Ab hz hy hrj hbz hb Hb Aq
   by_cases he:z.name=x
   .
    have hbq:((strOfNums z.name).toList == (strOfNums x).toList)=true:=HE.out.trans (decide_eq_true he)
    have HF:Hid (ix (q.vars.map Va.name) x=some j):=iU hno.out (he ▸ HY.out)
    exact U28
   .
    have hbq:((strOfNums z.name).toList == (strOfNums x).toList)=false:=HE.out.trans (decide_eq_false he)
    have HF:Hid (∀m y,m<j+1->(q.vars.map Va.name)[m]?=some y->y ≠ x):=fun m y hm hy=>by
     exact U33
    have Hg2:Hid (w1.grownBy wr none):=HB1.out
    exact U15
  .
   have:n=j:=V6
   subst this
   have HF:Hid (ix (q.vars.map Va.name) x=none):=kZ (by rw[show(q.vars.map Va.name).length=(q.vars).length by simp,HN.out];exact hno.out)
   exact U54
theorem qV (q:Pr)(vs:List Value)(w:World)(h:aO w q.fl vs)(a:Option Addr)(k c:Nat)(x:List Int)(hx:bW w a k x):
  Calls Tryz.prog 72 #[agg vs,.slice a k c] w fun e w'=>e=.returned (.int .i64 (ixI (q.params.map Pa.name) x))/\w.grownBy w' none:=by
 obtain⟨v0,_,rfl,h0,v1,_,rfl,h1,v2,_,rfl,h2,v3,_,rfl,h3,v4,_,rfl,h4,rfl⟩:=h;obtain⟨b,d,rfl,hL⟩:=h2.list;have hn9:=hL.len9
 have hln:(q.params.map Pa.fl).length=(q.params).length:=by simp[bH]
 rw[hln]at hn9 ⊢
 obtain⟨n,hN⟩:∃z,z=(q.params).length:=⟨_,rfl⟩
 have HN:Hid ((q.params).length=n):=hN.symm
 rw[<-hN]at hn9 ⊢
 have HL:Hid (aS w b d 2 (q.params.map Pa.fl)):=hL
 have HX:Hid (bW w a k x):=hx
 have x0:=Blk.new w 72 [v0,v1,.slice b n d,v3,v4];have y0:=aC w (.cells #[v0,v1,.slice b n d,v3,v4] 72 (0,0)) none;simp only[List.toArray]at x0;simp only[agg];clear hL hx hN hln h0 h1 h2 h3 h4;go_enter Tryz.func72,Tryz.ntmps72;go_upto_region 1 with fail;generalize w.alloc (.cells #[v0,v1,.slice b n d,v3,v4] 72 (0,0))=w1 at *
 have Q1:Hid (w1.cell? ⟨w.heap.size,2,none⟩=some (.slice b n d)):=x0.cell (i:=2) rfl
 have Y1:Hid (w.grownBy w1 none):=y0
 clear x0 y0;go_wp2_with fail
 go_loopw [5] (fun i wr=>∃j:Nat,j<=n/\i=.int .i64 j/\Hid (∀m y,m<j->(q.params.map Pa.name)[m]?=some y->y ≠ x)/\Hid (w1.grownBy wr none)) (fun i _=>n-(intOf i).toNat)
 case atStart=>exact⟨0,Nat.zero_le _,rfl,V32,aP _ _⟩
 case round=>
  obtain⟨j,hj,rfl,hno,Hb⟩:=hrel;have hb:=Hb.out
  have Aq:w.grownBy wr none:=aD Y1.out hb
  have Hg:Hid (w.grownBy wr none):=Aq
  have HB1:Hid (w1.grownBy wr none):=hb
  have q1:=aB Q1.out (aA hb)
  by_cases Ai:j<n
  .
   obtain⟨y,hy⟩:∃y,(q.params.map Pa.name)[j]?=some y:=⟨_,List.getElem?_eq_getElem (by rw[show(q.params.map Pa.name).length=(q.params).length by simp,HN.out];exact Ai)⟩
   obtain⟨z,hz,rfl⟩:∃z,(q.params)[j]?=some z/\z.name=y:=by
    exact U80
   have hrj:(q.params.map Pa.fl)[j]?=some z.fl:=by rw[List.getElem?_map,hz];rfl
   obtain⟨b,off,rfl⟩:=aS.addr HL.out (by rw[show(q.params.map Pa.fl).length=(q.params).length by simp[bH],HN.out];omega)
   obtain⟨vs,Ad,Ab⟩:=((aS.below HL.out (aA Aq)).el hrj).vals;obtain⟨z0,us,rfl,⟨az,cz,rfl,hbz,_⟩,_⟩:=Ad;have r0:=Ab 0 _ rfl;rw[Nat.add_zero]at r0
   have kc1:=fun d=>aT cz (hbz.drewN d)
   have kc2:=fun d=>aT c (bW.drewN (bW.below HX.out (aA Aq)) d)
   have HE:Hid (((strOfNums z.name).toList == (strOfNums x).toList)=decide (z.name=x)):=iI hbz.2.1 HX.out.2.1
   have HY:Hid ((q.params.map Pa.name)[j]?=some z.name):=by show _=_;rw[List.getElem?_map,hz];rfl
   have hj':(j:Int)<(n:Int):=V6;clear Ab hz hy hrj hbz hb Hb Aq
   by_cases he:z.name=x
   .
    have hbq:((strOfNums z.name).toList == (strOfNums x).toList)=true:=HE.out.trans (decide_eq_true he)
    have HF:Hid (ix (q.params.map Pa.name) x=some j):=iU hno.out (he ▸ HY.out)
    exact U28
   .
    have hbq:((strOfNums z.name).toList == (strOfNums x).toList)=false:=HE.out.trans (decide_eq_false he)
    have HF:Hid (∀m y,m<j+1->(q.params.map Pa.name)[m]?=some y->y ≠ x):=fun m y hm hy=>by
     exact U33
    have Hg2:Hid (w1.grownBy wr none):=HB1.out
    exact U15
  .
   have:n=j:=V6
   subst this
   have HF:Hid (ix (q.params.map Pa.name) x=none):=kZ (by rw[show(q.params.map Pa.name).length=(q.params).length by simp,HN.out];exact hno.out)
   exact U54
theorem kF (q:Pr)(vs:List Value)(w:World)(h:aO w q.fl vs)(a:Option Addr)(k c:Nat)(x:List Int)(hx:bW w a k x):
  Calls Tryz.prog 73 #[agg vs,.slice a k c] w fun e w'=>e=.returned (.int .i64 (ixI (q.locals) x))/\w.grownBy w' none:=by
 obtain⟨v0,_,rfl,h0,v1,_,rfl,h1,v2,_,rfl,h2,v3,_,rfl,h3,v4,_,rfl,h4,rfl⟩:=h;obtain⟨b,d,rfl,hL⟩:=h3.list;have hn9:=hL.len9
 have hln:(bH q.locals).length=(q.locals).length:=by simp[bH]
 rw[hln]at hn9 ⊢
 obtain⟨n,hN⟩:∃z,z=(q.locals).length:=⟨_,rfl⟩
 have HN:Hid ((q.locals).length=n):=hN.symm
 rw[<-hN]at hn9 ⊢
 have HL:Hid (aS w b d 1 (bH q.locals)):=hL
 have HX:Hid (bW w a k x):=hx
 have x0:=Blk.new w 72 [v0,v1,v2,.slice b n d,v4];have y0:=aC w (.cells #[v0,v1,v2,.slice b n d,v4] 72 (0,0)) none;simp only[List.toArray]at x0;simp only[agg];clear hL hx hN hln h0 h1 h2 h3 h4;go_enter Tryz.func73,Tryz.ntmps73;go_upto_region 1 with fail;generalize w.alloc (.cells #[v0,v1,v2,.slice b n d,v4] 72 (0,0))=w1 at *
 have Q1:Hid (w1.cell? ⟨w.heap.size,3,none⟩=some (.slice b n d)):=x0.cell (i:=3) rfl
 have Y1:Hid (w.grownBy w1 none):=y0
 clear x0 y0;go_wp2_with fail
 go_loopw [5] (fun i wr=>∃j:Nat,j<=n/\i=.int .i64 j/\Hid (∀m y,m<j->(q.locals)[m]?=some y->y ≠ x)/\Hid (w1.grownBy wr none)) (fun i _=>n-(intOf i).toNat)
 case atStart=>exact⟨0,Nat.zero_le _,rfl,V32,aP _ _⟩
 case round=>
  obtain⟨j,hj,rfl,hno,Hb⟩:=hrel;have hb:=Hb.out
  have Aq:w.grownBy wr none:=aD Y1.out hb
  have Hg:Hid (w.grownBy wr none):=Aq
  have HB1:Hid (w1.grownBy wr none):=hb
  have q1:=aB Q1.out (aA hb)
  by_cases Ai:j<n
  .
   obtain⟨y,hy⟩:∃y,(q.locals)[j]?=some y:=⟨_,List.getElem?_eq_getElem (by rw[show(q.locals).length=(q.locals).length by simp,HN.out];exact Ai)⟩
   have hrj:(bH q.locals)[j]?=some [Fl.b y]:=by unfold bH;rw[List.getElem?_map,hy];rfl
   obtain⟨b,off,rfl⟩:=aS.addr HL.out (by rw[show(bH q.locals).length=(q.locals).length by simp[bH],HN.out];omega)
   obtain⟨vs,Ad,Ab⟩:=((aS.below HL.out (aA Aq)).el hrj).vals;obtain⟨z0,us,rfl,⟨az,cz,rfl,hbz,_⟩,_⟩:=Ad;have r0:=Ab 0 _ rfl;simp only[Nat.add_zero,Nat.mul_one]at r0
   have kc1:=fun d=>aT cz (hbz.drewN d)
   have kc2:=fun d=>aT c (bW.drewN (bW.below HX.out (aA Aq)) d)
   have HE:Hid (((strOfNums y).toList == (strOfNums x).toList)=decide (y=x)):=iI hbz.2.1 HX.out.2.1
   have HY:Hid ((q.locals)[j]?=some y):=hy
   have hj':(j:Int)<(n:Int):=V6;clear Ab hy hrj hbz hb Hb Aq
   by_cases he:y=x
   .
    have hbq:((strOfNums y).toList == (strOfNums x).toList)=true:=HE.out.trans (decide_eq_true he)
    have HF:Hid (ix (q.locals) x=some j):=iU hno.out (he ▸ HY.out)
    exact U28
   .
    have hbq:((strOfNums y).toList == (strOfNums x).toList)=false:=HE.out.trans (decide_eq_false he)
    have HF:Hid (∀m y,m<j+1->(q.locals)[m]?=some y->y ≠ x):=fun m y hm hy=>by
     exact U33
    have Hg2:Hid (w1.grownBy wr none):=HB1.out
    exact U15
  .
   have:n=j:=V6
   subst this
   have HF:Hid (ix (q.locals) x=none):=kZ (by rw[show(q.locals).length=(q.locals).length by simp,HN.out];exact hno.out)
   exact U54
theorem uN (q:Fa)(vs:List Value)(w:World)(h:aO w q.fl vs)(a:Option Addr)(k c:Nat)(x:List Int)(hx:bW w a k x):
  Calls Tryz.prog 54 #[agg vs,.slice a k c] w fun e w'=>e=.returned (.int .i64 (ixI (q.procs.map Fp.name) x))/\w.grownBy w' none:=by
 obtain⟨v0,_,rfl,h0,v1,_,rfl,h1,rfl⟩:=h;obtain⟨b,d,rfl,hL⟩:=h1.list;have hn9:=hL.len9
 have hln:(q.procs.map Fp.fl).length=(q.procs).length:=by simp[bH]
 rw[hln]at hn9 ⊢
 obtain⟨n,hN⟩:∃z,z=(q.procs).length:=⟨_,rfl⟩
 have HN:Hid ((q.procs).length=n):=hN.symm
 rw[<-hN]at hn9 ⊢
 have HL:Hid (aS w b d 2 (q.procs.map Fp.fl)):=hL
 have HX:Hid (bW w a k x):=hx
 have x0:=Blk.new w 79 [v0,.slice b n d];have y0:=aC w (.cells #[v0,.slice b n d] 79 (0,0)) none;simp only[List.toArray]at x0;simp only[agg];clear hL hx hN hln h0 h1;go_enter Tryz.func54,Tryz.ntmps54;go_upto_region 1 with fail;generalize w.alloc (.cells #[v0,.slice b n d] 79 (0,0))=w1 at *
 have Q1:Hid (w1.cell? ⟨w.heap.size,1,none⟩=some (.slice b n d)):=x0.cell (i:=1) rfl
 have Y1:Hid (w.grownBy w1 none):=y0
 clear x0 y0;go_wp2_with fail
 go_loopw [5] (fun i wr=>∃j:Nat,j<=n/\i=.int .i64 j/\Hid (∀m y,m<j->(q.procs.map Fp.name)[m]?=some y->y ≠ x)/\Hid (w1.grownBy wr none)) (fun i _=>n-(intOf i).toNat)
 case atStart=>exact⟨0,Nat.zero_le _,rfl,V32,aP _ _⟩
 case round=>
  obtain⟨j,hj,rfl,hno,Hb⟩:=hrel;have hb:=Hb.out
  have Aq:w.grownBy wr none:=aD Y1.out hb
  have Hg:Hid (w.grownBy wr none):=Aq
  have HB1:Hid (w1.grownBy wr none):=hb
  have q1:=aB Q1.out (aA hb)
  by_cases Ai:j<n
  .
   obtain⟨y,hy⟩:∃y,(q.procs.map Fp.name)[j]?=some y:=⟨_,List.getElem?_eq_getElem (by rw[show(q.procs.map Fp.name).length=(q.procs).length by simp,HN.out];exact Ai)⟩
   obtain⟨z,hz,rfl⟩:∃z,(q.procs)[j]?=some z/\z.name=y:=by
    exact U80
   have hrj:(q.procs.map Fp.fl)[j]?=some z.fl:=by rw[List.getElem?_map,hz];rfl
   obtain⟨b,off,rfl⟩:=aS.addr HL.out (by rw[show(q.procs.map Fp.fl).length=(q.procs).length by simp[bH],HN.out];omega)
   obtain⟨vs,Ad,Ab⟩:=((aS.below HL.out (aA Aq)).el hrj).vals;obtain⟨z0,us,rfl,⟨az,cz,rfl,hbz,_⟩,_⟩:=Ad;have r0:=Ab 0 _ rfl;rw[Nat.add_zero]at r0
   have kc1:=fun d=>aT cz (hbz.drewN d)
   have kc2:=fun d=>aT c (bW.drewN (bW.below HX.out (aA Aq)) d)
   have HE:Hid (((strOfNums z.name).toList == (strOfNums x).toList)=decide (z.name=x)):=iI hbz.2.1 HX.out.2.1
   have HY:Hid ((q.procs.map Fp.name)[j]?=some z.name):=by show _=_;rw[List.getElem?_map,hz];rfl
   have hj':(j:Int)<(n:Int):=V6;clear Ab hz hy hrj hbz hb Hb Aq
   by_cases he:z.name=x
   .
    have hbq:((strOfNums z.name).toList == (strOfNums x).toList)=true:=HE.out.trans (decide_eq_true he)
    have HF:Hid (ix (q.procs.map Fp.name) x=some j):=iU hno.out (he ▸ HY.out)
    exact U28
   .
    have hbq:((strOfNums z.name).toList == (strOfNums x).toList)=false:=HE.out.trans (decide_eq_false he)
    have HF:Hid (∀m y,m<j+1->(q.procs.map Fp.name)[m]?=some y->y ≠ x):=fun m y hm hy=>by
     exact U33
    have Hg2:Hid (w1.grownBy wr none):=HB1.out
    exact U15
  .
   have:n=j:=V6
   subst this
   have HF:Hid (ix (q.procs.map Fp.name) x=none):=kZ (by rw[show(q.procs.map Fp.name).length=(q.procs).length by simp,HN.out];exact hno.out)
   exact U54
theorem oQ (q:List Fa)(b:Option Addr)(n d:Nat)(w:World)(h:aS w b d 2 (q.map Fa.fl))(hl:q.length=n)(a:Option Addr)(k c:Nat)(x:List Int)(hx:bW w a k x):
  Calls Tryz.prog 26 #[.slice b n d,.slice a k c] w fun e w'=>e=.returned (.int .i64 (ixI (q.map Fa.name) x))/\w.grownBy w' none:=by
 have hn9:=h.len9
 have hln:(q.map Fa.fl).length=q.length:=by simp[bH]
 rw[hln,hl]at hn9
 have HN:Hid (q.length=n):=hl
 have HL:Hid (aS w b d 2 (q.map Fa.fl)):=h
 have HX:Hid (bW w a k x):=hx
 clear h hx hl hln;go_enter Tryz.func26,Tryz.ntmps26;go_wp2_with fail
 go_loopw [5] (fun i wr=>∃j:Nat,j<=n/\i=.int .i64 j/\Hid (∀m y,m<j->(q.map Fa.name)[m]?=some y->y ≠ x)/\Hid (w.grownBy wr none)) (fun i _=>n-(intOf i).toNat)
 case atStart=>exact⟨0,Nat.zero_le _,rfl,V32,aP _ _⟩
 case round=>
  obtain⟨j,hj,rfl,hno,Hb⟩:=hrel;have hb:=Hb.out
  have Aq:w.grownBy wr none:=hb
  have Hg:Hid (w.grownBy wr none):=Aq
  by_cases Ai:j<n
  .
   obtain⟨y,hy⟩:∃y,(q.map Fa.name)[j]?=some y:=⟨_,List.getElem?_eq_getElem (by rw[show(q.map Fa.name).length=(q).length by simp,HN.out];exact Ai)⟩
   obtain⟨z,hz,rfl⟩:∃z,(q)[j]?=some z/\z.name=y:=by
    exact U80
   have hrj:(q.map Fa.fl)[j]?=some z.fl:=by rw[List.getElem?_map,hz];rfl
   obtain⟨b,off,rfl⟩:=aS.addr HL.out (by rw[show(q.map Fa.fl).length=(q).length by simp[bH],HN.out];omega)
   obtain⟨vs,Ad,Ab⟩:=((aS.below HL.out (aA Aq)).el hrj).vals;obtain⟨z0,us,rfl,⟨az,cz,rfl,hbz,_⟩,_⟩:=Ad;have r0:=Ab 0 _ rfl;rw[Nat.add_zero]at r0
   have kc1:=fun d=>aT cz (hbz.drewN d)
   have kc2:=fun d=>aT c (bW.drewN (bW.below HX.out (aA Aq)) d)
   have HE:Hid (((strOfNums z.name).toList == (strOfNums x).toList)=decide (z.name=x)):=iI hbz.2.1 HX.out.2.1
   have HY:Hid ((q.map Fa.name)[j]?=some z.name):=by show _=_;rw[List.getElem?_map,hz];rfl
   have hj':(j:Int)<(n:Int):=V6;clear Ab hz hy hrj hbz hb Hb Aq
   by_cases he:z.name=x
   .
    have hbq:((strOfNums z.name).toList == (strOfNums x).toList)=true:=HE.out.trans (decide_eq_true he)
    have HF:Hid (ix (q.map Fa.name) x=some j):=iU hno.out (he ▸ HY.out)
    exact U28
   .
    have hbq:((strOfNums z.name).toList == (strOfNums x).toList)=false:=HE.out.trans (decide_eq_false he)
    have HF:Hid (∀m y,m<j+1->(q.map Fa.name)[m]?=some y->y ≠ x):=fun m y hm hy=>by
     exact U33
    have Hg2:Hid (w.grownBy wr none):=Hg
    exact U15
  .
   have:n=j:=V6
   subst this
   have HF:Hid (ix (q.map Fa.name) x=none):=kZ (by rw[show(q.map Fa.name).length=(q).length by simp,HN.out];exact hno.out)
   exact U54
theorem aGf (q:List (List Int))(b:Option Addr)(n d:Nat)(w:World)(h:aS w b d 1 (bH q))(hl:q.length=n)(a:Option Addr)(k c:Nat)(x:List Int)(hx:bW w a k x):
  Calls Tryz.prog 27 #[.slice b n d,.slice a k c] w fun e w'=>e=.returned (.bool (decide (x ∈ q)))/\w.grownBy w' none:=by
 have hn9:=h.len9
 have hln:(bH q).length=q.length:=by simp[bH]
 rw[hln,hl]at hn9
 have HN:Hid (q.length=n):=hl
 have HL:Hid (aS w b d 1 (bH q)):=h
 have HX:Hid (bW w a k x):=hx
 clear h hx hl hln;go_enter Tryz.func27,Tryz.ntmps27;go_wp2_with fail
 go_loopw [5] (fun i wr=>∃j:Nat,j<=n/\i=.int .i64 j/\Hid (∀m y,m<j->(q)[m]?=some y->y ≠ x)/\Hid (w.grownBy wr none)) (fun i _=>n-(intOf i).toNat)
 case atStart=>exact⟨0,Nat.zero_le _,rfl,V32,aP _ _⟩
 case round=>
  obtain⟨j,hj,rfl,hno,Hb⟩:=hrel;have hb:=Hb.out
  have Aq:w.grownBy wr none:=hb
  have Hg:Hid (w.grownBy wr none):=Aq
  by_cases Ai:j<n
  .
   obtain⟨y,hy⟩:∃y,(q)[j]?=some y:=⟨_,List.getElem?_eq_getElem (by rw[show(q).length=(q).length by simp,HN.out];exact Ai)⟩
   have hrj:(bH q)[j]?=some [Fl.b y]:=by unfold bH;rw[List.getElem?_map,hy];rfl
   obtain⟨b,off,rfl⟩:=aS.addr HL.out (by rw[show(bH q).length=(q).length by simp[bH],HN.out];omega)
   obtain⟨vs,Ad,Ab⟩:=((aS.below HL.out (aA Aq)).el hrj).vals;obtain⟨z0,us,rfl,⟨az,cz,rfl,hbz,_⟩,_⟩:=Ad;have r0:=Ab 0 _ rfl;simp only[Nat.add_zero,Nat.mul_one]at r0
   have kc1:=fun d=>aT cz (hbz.drewN d)
   have kc2:=fun d=>aT c (bW.drewN (bW.below HX.out (aA Aq)) d)
   have HE:Hid (((strOfNums y).toList == (strOfNums x).toList)=decide (y=x)):=iI hbz.2.1 HX.out.2.1
   have HY:Hid ((q)[j]?=some y):=hy
   have hj':(j:Int)<(n:Int):=V6;clear Ab hy hrj hbz hb Hb Aq
   by_cases he:y=x
   .
    have hbq:((strOfNums y).toList == (strOfNums x).toList)=true:=HE.out.trans (decide_eq_true he)
    have HF:Hid (ix (q) x=some j):=iU hno.out (he ▸ HY.out)
    clear he HE HY;go_wp2_with fail
    go_quiet (fail)
    go_wp2_with fail;go_ret;exact⟨aE (decide_eq_true (List.mem_of_getElem? (aIk HF.out).1)).symm,aI (below_drewN (aA Hg.out) _) _⟩
   .
    have hbq:((strOfNums y).toList == (strOfNums x).toList)=false:=HE.out.trans (decide_eq_false he)
    have HF:Hid (∀m y,m<j+1->(q)[m]?=some y->y ≠ x):=fun m y hm hy=>by
     exact U33
    have Hg2:Hid (w.grownBy wr none):=Hg
    exact U15
  .
   have:n=j:=V6
   subst this
   have HF:Hid (ix (q) x=none):=kZ (by rw[show(q).length=(q).length by simp,HN.out];exact hno.out)
   clear hb Hb Aq hno;go_wp2_with fail;go_ret;exact⟨aE (decide_eq_false (fP.1 HF.out)).symm,Hg.out⟩
def zM:Value:=.agg #[.int .i64 0,.slice none 0 0]
def Rm (v:Value):Option (DataW Value × List MemPlace):=some (.held v,[])
def aDq (s:List Int):Lit:=.string (strOfNums s).data.toList
def Bt (l:List Int):Prop:=∀x ∈ l,0<=x/\x<=255
theorem wI {s t:List Int}(hs:Bt s)(ht:Bt t)(h:aDq s=aDq t):s=t:=by
 unfold aDq at h;simp only[Lit.string.injEq]at h;refine(aA2 hs ht).1 ?_
 cases hx:strOfNums s
 cases hy:strOfNums t
 rw[hx,hy]at h
 simpa using h
structure NM (w:World) (b k:Nat) (f:List Int->Value):Prop where
 ex:∃D:DataW Value,w.ownsMap Tryz.prog 9 Rm b k D/\Maps.IsMap D/\∀s,Bt s->D.atKey (aDq s) (.held zM)=.held (f s)
def upd (f:List Int->Value)(s:List Int)(v:Value):List Int->Value:=fun t=>if t=s then v else f t
theorem NM.made (w:World):NM (w.alloc (.map #[] 0)) w.heap.size 0 (fun _=>zM):=
 ⟨⟨.map [],World.ownsMap_made w _ _ _,Maps.isMap_empty,fun s _=>rfl⟩⟩
theorem NM.kept {w w':World}{b k:Nat}{f:List Int->Value}{row:Option Nat}(h:NM w b k f)(hg:w.grownBy w' row)(hne:some b ≠ row):NM w' b k f:=by
 obtain⟨D,h1,h2,h3⟩:=h.ex;exact⟨⟨D,h1.kept hg hne,h2,h3⟩⟩
theorem NM.lt {w:World}{b k:Nat}{f:List Int->Value}(h:NM w b k f):b<w.heap.size:=by
 obtain⟨D,h1,_⟩:=h.ex;exact h1.lt
theorem NM.below {w w':World}{b k:Nat}{f:List Int->Value}(h:NM w b k f)(hb:Below w.heap.size w w'):NM w' b k f:=h.kept (row:=none) ⟨hb.os,hb.tape,hb.output,hb.size,fun i hi _=>hb.block i hi⟩ V15
theorem kG {s:List Int}(hs:s.length<=maxLen):keyOf Tryz.prog 9 (.string (strOfNums s))=some (aDq s):=by
 exact WideMaps.keyOf_string_mk Tryz.underlying9 (by rw[strOfNums_size];exact hs)
theorem NM.lookup {w:World}{b k:Nat}{f:List Int->Value}(h:NM w b k f){s:List Int}(hs:Bt s)(hl:s.length<=maxLen):(Instr.lookup 82 (.map (some b)) (.string (strOfNums s)) false).run Tryz.prog w=.ok (f s) w:=by
 obtain⟨D,h1,_,h3⟩:=h.ex;obtain⟨v,ps,hrun,hv⟩:=h1.lookup (t:=82) (e:=148) (Maps.string_keyed Tryz.underlying9) Tryz.underlying82 (z:=zM) (Tryz.zeroValue148 w) (zd:=.held zM) (zp:=[]) rfl (kG hl)
 have e:v=f s:=by
  unfold Rm at hv;simp only[Option.some.injEq,Prod.mk.injEq]at hv
  have:=hv.1.trans (h3 s hs)
  simpa using this
 rw[e]at hrun;exact hrun
theorem NM.put {w':World}{b k:Nat}{f:List Int->Value}{D:DataW Value}{s:List Int}{v:Value}(h2:Maps.IsMap D)(h3:∀s,Bt s->D.atKey (aDq s) (.held zM)=.held (f s))(hs:Bt s)(h:w'.ownsMap Tryz.prog 9 Rm b k (D.put (aDq s) (.held v))):NM w' b k (upd f s v):=by
 refine⟨⟨_,h,h2.put _ _,fun t ht=>?_⟩⟩
 unfold upd
 by_cases e:t=s
 .
  subst e;rw[if_pos rfl]
  exact Maps.atKey_put_same h2 (by unfold aDq;trivial) _ _
 .
  rw[if_neg e,Maps.atKey_put_other (fun e2=>e (wI ht hs e2))]
  exact h3 t ht
theorem NM.del {w':World}{b k:Nat}{f:List Int->Value}{D:DataW Value}{s:List Int}(h2:Maps.IsMap D)(h3:∀s,Bt s->D.atKey (aDq s) (.held zM)=.held (f s))(hs:Bt s)(h:w'.ownsMap Tryz.prog 9 Rm b k (D.del (aDq s))):NM w' b k (upd f s zM):=by
 refine⟨⟨_,h,h2.del _,fun t ht=>?_⟩⟩
 unfold upd
 by_cases e:t=s
 .
  subst e;rw[if_pos rfl];exact Maps.atKey_del_same _
 .
  rw[if_neg e,Maps.atKey_del_other (fun e2=>e (wI ht hs e2))]
  exact h3 t ht
theorem tP {w:World}{ops:Array Oper}{rest:List Oper}{o:Oper}{a:Act}{Q:Exit->Act->World->Prop}{b k:Nat}{f:List Int->Value}(hgd:o.guard=none)(m x v:Operand)(ho:o.op=.mapUpdate 82 m x v)
  (h:NM w b k f) (hk:k<maxLen) (s:List Int) (val:Value) (hm:a.eval m=.map (some b)) (hx:a.eval x=.string (strOfNums s)) (hv:a.eval v=val) (hs:Bt s) (hl:s.length<=maxLen)
  (hK:∀w',NM w' b (k+1) (upd f s val)->w.grownBy w' (some b)->wpList Tryz.prog ops Q rest (a.put o.dst undef) w'):wpList Tryz.prog ops Q (o :: rest) a w:=by
 obtain⟨D,h1,h2,h3⟩:=h.ex
 exact wpList_mapUpdate_own w hgd m x v 82 ho 9 148 (Maps.string_keyed Tryz.underlying9) Tryz.underlying82 Rm b k D hm h1 hk _ val _ hx hv (kG hl) (.held val) [] rfl (fun w' h' hg=>hK w' (NM.put h2 h3 hs h') hg)
theorem nY {w:World}{ops:Array Oper}{rest:List Oper}{o:Oper}{a:Act}{Q:Exit->Act->World->Prop}{b k:Nat}{f:List Int->Value}(hgd:o.guard=none)(m x:Operand)(ho:o.op=.call { callee:=.builtin .delete,args:=#[m,x],argTypes:=#[82,9] })
  (h:NM w b k f) (s:List Int) (hm:a.eval m=.map (some b)) (hx:a.eval x=.string (strOfNums s)) (hs:Bt s) (hl:s.length<=maxLen)
  (hK:∀w',NM w' b k (upd f s zM)->w.grownBy w' (some b)->wpList Tryz.prog ops Q rest (a.put o.dst (.tuple #[])) w'):wpList Tryz.prog ops Q (o :: rest) a w:=by
 obtain⟨D,h1,h2,h3⟩:=h.ex
 exact wpList_delete_own w hgd m x 82 9 ho 148 (Maps.string_keyed Tryz.underlying9) Tryz.underlying82 Rm b k D hm h1 _ _ hx (kG hl) (fun w' h' hg=>hK w' (NM.del h2 h3 hs h') hg.grown)
theorem sL {w:World}{T base n k g:Nat}{v:Value}{xs:List Value}(h:w.ownsRow base T k v n xs)(hg:v.ownBlock=some g):∃cur,w.heap[g]?=some (.cells cur T (0,0)):=by
 rcases h.2 with⟨e,_⟩|⟨g',cap,cur,hv,_,hh,_⟩
 .
  rw[e]at hg;cases hg
 .
  rw[hv]at hg;simp only[Value.ownBlock,Option.some.injEq]at hg;subst hg;exact⟨cur,hh⟩
theorem mL {w w':World}{T base n k:Nat}{v:Value}{xs:List Value}(h:w.ownsRow base T k v n xs)(hs:∀g,v.ownBlock=some g->w'.heap[g]?=w.heap[g]?):w'.ownsRow base T k v n xs:=by
 refine⟨h.1, ?_⟩
 rcases h.2 with hn|⟨g,cap,cur,hv,hg,hh,r⟩
 .
  exact .inl hn
 .
  exact .inr ⟨g,cap,cur,hv,hg,by rw[hs g (by rw[hv];rfl)];exact hh,r⟩
theorem oL {w:World}{T base base' n k:Nat}{v:Value}{xs:List Value}(h:w.ownsRow base T k v n xs)(hb:base'<=base):w.ownsRow base' T k v n xs:=by
 refine⟨h.1, ?_⟩
 rcases h.2 with hn|⟨g,cap,cur,hv,hg,r⟩
 .
  exact .inl hn
 .
  exact .inr ⟨g,cap,cur,hv,by omega,r⟩
theorem gN {w:World}{T base n k:Nat}{v:Value}{xs:List Value}(h:w.ownsRow base T k v n xs):∃a c,v=.slice a n c/\n<=c/\c<=maxLen/\(a=none->c=0)/\(0<n->∃g,a=some ⟨g,0,none⟩):=by
 rcases h.2 with⟨rfl,rfl⟩|⟨g,cap,cur,rfl,hg,hh,hnc,hcm,hs,ht⟩
 .
  exact⟨none,0,rfl,by omega,by simp,fun _=>rfl,by omega⟩
 .
  exact⟨_,cap,rfl,hnc,hcm,by simp,fun _=>⟨g,rfl⟩⟩
structure Ob (w:World) (T:TypeId) (lo hi:Nat) (v:Value) (n:Nat) (xs:List Value):Prop where
 own:w.ownsRow lo T 1 v n xs
 lt:∀k,v.ownBlock=some k->k<hi
theorem Ob.stays {w w':World}{T lo hi n:Nat}{v:Value}{xs:List Value}(h:Ob w T lo hi v n xs)(hs:∀g,lo<=g->g<hi->(∃cur,w.heap[g]?=some (.cells cur T (0,0)))->w'.heap[g]?=w.heap[g]?):Ob w' T lo hi v n xs:=
 ⟨mL h.own fun g hg=>hs g (h.own.lt g hg).1 (h.lt g hg) (sL h.own hg),h.lt⟩
theorem Ob.wide {w:World}{T lo hi lo' hi' n:Nat}{v:Value}{xs:List Value}(h:Ob w T lo hi v n xs)(a:lo'<=lo)(b:hi<=hi'):Ob w T lo' hi' v n xs:=
 ⟨oL h.own a,fun k hk=>Nat.lt_of_lt_of_le (h.lt k hk) b⟩
def bV (l:List Int):List Value:=l.map (Value.int .u8)
def iV (l:List Int):List Value:=l.map (Value.int .i64)
def isB (l:List Int):Prop:=∀x ∈ l,0<=x/\x<=255
def isI (l:List Int):Prop:=∀x ∈ l, -9223372036854775808<=x/\x<=9223372036854775807
def Fps (w:World):Nat->Nat->List (Value × Value)->List Fp->Prop
 | lo,hi,[],ds=>ds=[]
 | lo,hi,x :: l,ds=>∃d ds' m1 m2,ds=d :: ds'/\lo<=m1/\m1<=m2/\m2<=hi/\Ob w 5 lo m1 x.1 d.name.length (bV d.name)/\isB d.name/\Ob w 3 m1 m2 x.2 d.kinds.length (iV d.kinds)/\isI d.kinds/\Fps w m2 hi l ds'
def pB (lo hi:Nat)(w w':World):Prop:=∀g,lo<=g->g<hi->((∃cur,w.heap[g]?=some (.cells cur 5 (0,0)))\/(∃cur,w.heap[g]?=some (.cells cur 3 (0,0))))->w'.heap[g]?=w.heap[g]?
theorem pB.mono {lo hi lo' hi':Nat}{w w':World}(h:pB lo hi w w')(a:lo<=lo')(b:hi'<=hi):pB lo' hi' w w':=fun g h1 h2 h3=>h g V6 V6 h3
theorem pB.of {lo hi:Nat}{w w':World}(h:gG lo hi w w'):pB lo hi w w':=fun g h1 h2 _=>h g h1 h2
theorem Fps.stays {w w':World}:∀{l:List (Value × Value)} {lo hi:Nat} {ds:List Fp},Fps w lo hi l ds->pB lo hi w w'->Fps w' lo hi l ds:=by
 intro l
 induction l with
 | nil=>intro lo hi ds h _;exact h
 | cons x l ih=>
  intro lo hi ds h hs;obtain⟨d,ds',m1,m2,rfl,a,b,c,h1,hb,h2,hi',h3⟩:=h
  exact⟨d,ds',m1,m2,rfl,a,b,c,h1.stays (fun g p q r=>hs g p V6 (.inl r)),hb,h2.stays (fun g p q r=>hs g V6 V6 (.inr r)),hi',ih h3 (hs.mono V6 (Nat.le_refl _))⟩
theorem Fps.wide {w:World}:∀{l:List (Value × Value)} {lo hi lo' hi':Nat} {ds:List Fp},Fps w lo hi l ds->lo'<=lo->hi<=hi'->Fps w lo' hi' l ds:=by
 intro l
 induction l with
 | nil=>intro lo hi lo' hi' ds h _ _;exact h
 | cons x l ih=>
  intro lo hi lo' hi' ds h p q;obtain⟨d,ds',m1,m2,rfl,a,b,c,h1,hb,h2,hi',h3⟩:=h
  exact⟨d,ds',m1,m2,rfl,by omega,b,by omega,h1.wide p (Nat.le_refl _),hb,h2,hi',ih h3 (Nat.le_refl _) q⟩
theorem Fps.len {w:World}:∀{l:List (Value × Value)} {lo hi:Nat} {ds:List Fp},Fps w lo hi l ds->l.length=ds.length:=by
 intro l
 induction l with
 | nil=>intro lo hi ds h;rw[show ds=[] from h];rfl
 | cons x l ih=>
  intro lo hi ds h;obtain⟨d,ds',m1,m2,rfl,a,b,c,h1,hb,h2,hi',h3⟩:=h
  simp[ih h3]
theorem Fps.snoc {w:World}:∀{l:List (Value × Value)} {lo mid m1 m2:Nat} {ds:List Fp} {x:Value × Value} {d:Fp},Fps w lo mid l ds->lo<=mid->mid<=m1->m1<=m2->Ob w 5 mid m1 x.1 d.name.length (bV d.name)->isB d.name->Ob w 3 m1 m2 x.2 d.kinds.length (iV d.kinds)->isI d.kinds->Fps w lo m2 (l++[x]) (ds++[d]):=by
 intro l
 induction l with
 | nil=>
  intro lo mid m1 m2 ds x d h p q r h1 hb h2 hi
  rw[show ds=[] from h]
  exact⟨d,[],m1,m2,rfl,by omega,r,Nat.le_refl _,h1.wide p (Nat.le_refl _),hb,h2,hi,rfl⟩
 | cons y l ih=>
  intro lo mid m1 m2 ds x d h p q r h1 hb h2 hi;obtain⟨d0,ds',k1,k2,rfl,a,b,c,e1,eb,e2,ei,e3⟩:=h
  exact⟨d0,ds'++[d],k1,k2,rfl,a,b,by omega,e1,eb,e2,ei,ih e3 c q r h1 hb h2 hi⟩
def aE6:List (Value × Value)->List Value
 | []=>[]
 | x :: l=>x.1 :: x.2 :: aE6 l
theorem Ob.brow {w:World}{lo hi:Nat}{v:Value}{l:List Int}(h:Ob w 5 lo hi v l.length (bV l))(hb:isB l):(Fl.b l).Rd w v:=by
 obtain⟨a,c,rfl,h1,h2,h3,_⟩:=gN h.own;exact⟨a,c,rfl,Own.row (base:=lo) ⟨h.own,hb⟩,h1,h2,h3⟩
theorem Ob.irow {w:World}{lo hi:Nat}{v:Value}{l:List Int}(h:Ob w 3 lo hi v l.length (iV l))(hb:isI l):(Fl.i l).Rd w v:=by
 have ho:aFx w lo v l.length l:=⟨h.own,hb⟩
 obtain⟨a,c,rfl,h1,h2,h3,_⟩:=gN h.own;obtain⟨a',c',e,_,_,hr,_⟩:=ho.shape;simp only[Value.slice.injEq,true_and]at e;obtain⟨rfl,rfl⟩:=e;exact⟨a,c,rfl,hr,h1,h2,h3⟩
theorem Fps.rows {w:World}{g:Nat}:∀{l:List (Value × Value)} {lo hi off:Nat} {ds:List Fp},Fps w lo hi l ds->(∀i v,(aE6 l)[i]?=some v->w.cell? ⟨g,off+i,none⟩=some v)->fE w g 2 off (ds.map Fp.fl):=by
 intro l
 induction l with
 | nil=>intro lo hi off ds h _;rw[show ds=[] from h];exact trivial
 | cons x l ih=>
  intro lo hi off ds h hc;obtain⟨d,ds',m1,m2,rfl,a,b,c,h1,hb,h2,hi',h3⟩:=h
  refine⟨⟨⟨x.1,hc 0 _ rfl,h1.brow hb⟩,⟨x.2,hc 1 _ rfl,h2.irow hi'⟩,trivial⟩,ih h3 fun i v hv=>?_⟩
  have:=hc (i+2) v (by simpa [aE6] using hv)
  rw[show off+(i+2)=off+2+i by omega]at this
  exact this
structure Fg (w:World) (lo hi:Nat) (nv pv:Value) (l:List (Value × Value)) (f:Fa):Prop where
 name:∃m,lo<=m/\m<=hi/\Ob w 5 lo m nv f.name.length (bV f.name)/\isB f.name/\Fps w m hi l f.procs
 row:w.ownsRow lo 104 2 pv f.procs.length (aE6 l)
 lt:∀k,pv.ownBlock=some k->k<hi
theorem Fg.stays {w w':World}{lo hi:Nat}{nv pv:Value}{l:List (Value × Value)}{f:Fa}(h:Fg w lo hi nv pv l f)(hs:gG lo hi w w'):Fg w' lo hi nv pv l f:=by
 obtain⟨m,a,b,h1,hb,h2⟩:=h.name
 exact⟨⟨m,a,b,h1.stays (fun g p q _=>hs g p V6),hb,h2.stays (pB.of (hs.mono a (Nat.le_refl _)))⟩,mL h.row (fun g hg=>hs g (h.row.lt g hg).1 (h.lt g hg)),h.lt⟩
theorem Fg.wide {w:World}{lo hi lo' hi':Nat}{nv pv:Value}{l:List (Value × Value)}{f:Fa}(h:Fg w lo hi nv pv l f)(p:lo'<=lo)(q:hi<=hi'):Fg w lo' hi' nv pv l f:=by
 obtain⟨m,a,b,h1,hb,h2⟩:=h.name
 exact⟨⟨m,by omega,by omega,h1.wide p (Nat.le_refl _),hb,h2.wide (Nat.le_refl _) q⟩,oL h.row p,fun k hk=>Nat.lt_of_lt_of_le (h.lt k hk) q⟩
theorem yX {w:World}{T base n k g c:Nat}{xs:List Value}(h:w.ownsRow base T k (.slice (some ⟨g,0,none⟩) n c) n xs):∀i v,xs[i]?=some v->w.cell? ⟨g,i,none⟩=some v:=by
 intro i v hv;have hi:=(List.getElem?_eq_some_iff.1 hv).1
 rw[h.cellAt i (by have:=h.1;omega)]
 exact hv
theorem Fg.rdp {w:World}{lo hi:Nat}{nv pv:Value}{l:List (Value × Value)}{f:Fa}(h:Fg w lo hi nv pv l f):(Fl.l 2 (f.procs.map Fp.fl)).Rd w pv:=by
 obtain⟨m,_,_,_,_,h2⟩:=h.name;have hrow:=h.row;obtain⟨a,c,rfl,h3,h4,h5,h6⟩:=gN hrow
 refine⟨a,c,by simp,by simpa using h3,h4,h5,fun hp=>?_⟩
 obtain⟨g,rfl⟩:=h6 (by simpa using hp)
 exact⟨g,0,rfl,h2.rows fun i v hv=>by rw[Nat.zero_add];exact yX hrow i v hv⟩
theorem Fg.vals {w:World}{lo hi:Nat}{nv pv:Value}{l:List (Value × Value)}{f:Fa}(h:Fg w lo hi nv pv l f):aO w f.fl [nv,pv]:=by
 obtain⟨m,_,_,h1,hb,_⟩:=h.name;exact⟨nv,_,rfl,h1.brow hb,pv,_,rfl,h.rdp,rfl⟩
end Go.Proofs.YtnelibmaancmkaaGreatDoor

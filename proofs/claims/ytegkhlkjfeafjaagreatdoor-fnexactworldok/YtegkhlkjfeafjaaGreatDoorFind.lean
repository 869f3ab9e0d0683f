import Derived.Test.YtegkhlkjfeafjaaGreatDoorAll
import Derived.Test.YtegkhlkjfeafjaaGreatDoorPackC
namespace Go.Proofs.YtegkhlkjfeafjaaGreatDoor
set_option maxHeartbeats 2000000
open Go.RowKit
set_option linter.unusedVariables false
set_option linter.unusedSimpArgs false
set_option maxRecDepth 100000
theorem V32{p:Prop}(h:p:=by show ∀_ _,_;omega):p:=h
theorem V34{p:Prop}(h:p:=by rw[<-Option.some.inj this];exact e2):p:=h
theorem U276{p:Prop}(h:p:=by
 clear he HE HY hno
 go_wp2_with fail
 go_quiet (fail)
 go_wp2
 go_roundw
 case rel=>exact⟨j+1,by omega,by go_num,HF,aI (below_drewN (aA Hg2.out) _) _⟩
 case measure=>simp[intOf];omega):p:=h
theorem U282{p:Prop}(h:p:=by
 clear he HE HY
 go_wp2_with fail
 go_quiet (fail)
 go_wp2
 go_ret
 exact⟨aQ (cJ HF.out).symm,aI (below_drewN (aA Hg.out) _) _⟩):p:=h
theorem U33{p:Prop}(h:p:=by
 by_cases e:m=j
 .
  subst e;have:=HY.out;rw[hy]at this;exact fun e2=>he V34
 .
  exact hno.out m y V6 hy):p:=h
theorem U308{p:Prop}(h:p:=by
 clear hb Hb Aq hno
 go_wp2
 go_ret
 exact⟨aQ (cU HF.out).symm,Hg.out⟩):p:=h
theorem M956{p q:Prop}(k:q)(h:Kx q->p:=by
 intro kQ
 have kc1:=fun d=>aT cz (hbz.drewN d)
 have kc2:=fun d=>aT c (bW.drewN (bW.below HX.out (aA Aq)) d)
 have HE:=hid (iI hbz.2.1 HX.out.2.1)
 revert HE;revert kc2;revert kc1
 exact kQ.o):p:=h ⟨k⟩
theorem M9113{p q:Prop}(k:q)(h:Kx q->p:=by
 intro kQ
 have hb:=Hb.out
 have Aq:=aD Y1.out hb
 have Hg:=hid Aq
 have HB1:=hid hb
 have q1:=aB Q1.out (aA hb)
 revert q1;revert HB1;revert Hg;revert Aq;revert hb
 exact kQ.o):p:=h ⟨k⟩
def ix (l:List (List Int))(x:List Int):Option Nat:=l.findIdx? fun y=>decide (y=x)
def ixI (l:List (List Int))(x:List Int):Int:=match ix l x with
 | some i=>i
 | none=>-1
theorem kZ {l:List (List Int)}{x:List Int}(h:∀m y,m<l.length->l[m]?=some y->y ≠ x):ix l x=none:=by
 unfold ix;rw[List.findIdx?_eq_none_iff];intro y hy;obtain⟨m,hm,rfl⟩:=List.mem_iff_getElem.1 hy;exact zC2 (h m _ hm (zA0 hm))
theorem iU {l:List (List Int)}{x:List Int}{j:Nat}(h:∀m y,m<j->l[m]?=some y->y ≠ x)(hj:l[j]?=some x):ix l x=some j:=by
 unfold ix;obtain⟨hl,e⟩:=zC1.1 hj;rw[List.findIdx?_eq_some_iff_getElem]
 refine⟨hl,by simp[e],fun m hm=>?_⟩
 have:=h m _ hm (zA0 V6)
 simpa using this
theorem cU {l:List (List Int)}{x:List Int}(h:ix l x=none):ixI l x = -1:=by unfold ixI;rw[h]
theorem cJ {l:List (List Int)}{x:List Int}{j:Nat}(h:ix l x=some j):ixI l x=j:=by unfold ixI;rw[h]
theorem fP {l:List (List Int)}{x:List Int}:ix l x=none ↔ x ∉ l:=by
 unfold ix;rw[List.findIdx?_eq_none_iff]
 exact⟨fun h hx=>by have:=h x hx;simp at this,fun h y hy=>zC2 (fun e=>h (e ▸ hy))⟩
theorem aIk {l:List (List Int)}{x:List Int}{j:Nat}(h:ix l x=some j):l[j]?=some x/\∀m y,m<j->l[m]?=some y->y ≠ x:=by
 unfold ix at h;rw[List.findIdx?_eq_some_iff_getElem]at h;obtain⟨hl,e,hm⟩:=h
 refine⟨by rw[zA0 hl];simpa using e,fun m y hy he=>?_⟩
 have:=hm m hy
 rw[zA0 V6]at he;simp only[zG3]at he;rw[<-he]
 simpa using this
theorem aS.len9 {w:World}{a:Option Addr}{c k:Nat}{rs:List (List Fl)}(h:aS w a c k rs):rs.length<=9223372036854775807:=by have h1:=h.cap;have h2:=h.most;unfold maxLen at h2;omega
theorem jS (q:Mo)(vs:List Value)(w:World)(h:aO w q.fl vs)(a:Option Addr)(k c:Nat)(x:List Int)(hx:bW w a k x):
  Calls Tryz.prog 73 #[agg vs,.slice a k c] w fun e w'=>e=.returned (.int .i64 (ixI (q.procs.map Pr.name) x))/\w.grownBy w' none:=by
 obtain⟨v0,_,rfl,h0,v1,_,rfl,h1,v2,_,rfl,h2,v3,_,rfl,h3,rfl⟩:=h;obtain⟨b,d,rfl,hL⟩:=h3.list;have hn9:=hL.len9
 have hln:(q.procs.map Pr.fl).length=(q.procs).length:=by simp[bH]
 rw[hln]at hn9 ⊢
 obtain⟨n,hN⟩:∃z,z=(q.procs).length:=⟨_,rfl⟩
 have HN:=hid hN.symm;rw[<-hN]at hn9 ⊢;have HL:=hid hL;have HX:=hid hx;have x0:=Blk.new w 48 [v0,v1,v2,.slice b n d];have y0:=aC w (.cells #[v0,v1,v2,.slice b n d] 48 (0,0)) none;simp only[List.toArray]at x0;simp only[agg];clear hL hx hN hln h0 h1 h2 h3;go_enter Tryz.func73,Tryz.ntmps73;go_upto_region 1 with fail;generalize w.alloc (.cells #[v0,v1,v2,.slice b n d] 48 (0,0))=w1 at *;have Q1:=hid (x0.k 3);have Y1:=hid y0;clear x0 y0;go_wp2_with fail
 go_loopw [5] (fun i wr=>∃j:Nat,j<=n/\i=.int .i64 j/\Hid (∀m y,m<j->(q.procs.map Pr.name)[m]?=some y->y ≠ x)/\Hid (w1.grownBy wr none)) (fun i _=>n-(intOf i).toNat)
 case atStart=>exact⟨0,zD1 _,rfl,V32,aN0 _ _⟩
 case round=>
  obtain⟨j,hj,rfl,hno,Hb⟩:=hrel;refine M9113 ?_;intro hb Aq Hg HB1 q1
  by_cases Ai:j<n
  .
   obtain⟨y,hy⟩:∃y,(q.procs.map Pr.name)[j]?=some y:=⟨_,zA0 (by rw[show(q.procs.map Pr.name).length=(q.procs).length by simp,HN.out];exact Ai)⟩
   obtain⟨z,hz,rfl⟩:∃z,(q.procs)[j]?=some z/\z.name=y:=by
    rw[zA2]at hy;exact zF0.1 hy
   have hrj:(q.procs.map Pr.fl)[j]?=some z.fl:=by rw[zA2,hz];rfl
   obtain⟨b,off,rfl⟩:=aS.addr HL.out (by rw[show(q.procs.map Pr.fl).length=(q.procs).length by simp[bH],HN.out];omega)
   obtain⟨vs,Ad,Ab⟩:=((aS.below HL.out (aA Aq)).el hrj).vals;obtain⟨z0,us,rfl,⟨az,cz,rfl,hbz,_⟩,_⟩:=Ad;have r0:=Ab 0 _ rfl;rw[zG2]at r0;refine M956 ?_;intro kc1 kc2 HE
   have HY:Hid ((q.procs.map Pr.name)[j]?=some z.name):=by show _=_;rw[zA2,hz];rfl
   have hj':(j:Int)<(n:Int):=V6;clear Ab hz hy hrj hbz hb Hb Aq
   by_cases he:z.name=x
   .
    have hbq:=HE.out.trans (zB3 he)
    have HF:Hid (ix (q.procs.map Pr.name) x=some j):=iU hno.out (he ▸ HY.out)
    exact U282
   .
    have hbq:=HE.out.trans (zC2 he)
    have HF:Hid (∀m y,m<j+1->(q.procs.map Pr.name)[m]?=some y->y ≠ x):=fun m y hm hy=>by
     exact U33
    have Hg2:=hid HB1.out;exact U276
  .
   have:n=j:=V6
   subst this
   have HF:Hid (ix (q.procs.map Pr.name) x=none):=kZ (by rw[show(q.procs.map Pr.name).length=(q.procs).length by simp,HN.out];exact hno.out)
   exact U308
theorem lV (q:Mo)(vs:List Value)(w:World)(h:aO w q.fl vs)(a:Option Addr)(k c:Nat)(x:List Int)(hx:bW w a k x):
  Calls Tryz.prog 72 #[agg vs,.slice a k c] w fun e w'=>e=.returned (.int .i64 (ixI (q.vars.map Va.name) x))/\w.grownBy w' none:=by
 obtain⟨v0,_,rfl,h0,v1,_,rfl,h1,v2,_,rfl,h2,v3,_,rfl,h3,rfl⟩:=h;obtain⟨b,d,rfl,hL⟩:=h2.list;have hn9:=hL.len9
 have hln:(q.vars.map Va.fl).length=(q.vars).length:=by simp[bH]
 rw[hln]at hn9 ⊢
 obtain⟨n,hN⟩:∃z,z=(q.vars).length:=⟨_,rfl⟩
 have HN:=hid hN.symm;rw[<-hN]at hn9 ⊢;have HL:=hid hL;have HX:=hid hx;have x0:=Blk.new w 48 [v0,v1,.slice b n d,v3];have y0:=aC w (.cells #[v0,v1,.slice b n d,v3] 48 (0,0)) none;simp only[List.toArray]at x0;simp only[agg];clear hL hx hN hln h0 h1 h2 h3;go_enter Tryz.func72,Tryz.ntmps72;go_upto_region 1 with fail;generalize w.alloc (.cells #[v0,v1,.slice b n d,v3] 48 (0,0))=w1 at *;have Q1:=hid (x0.k 2);have Y1:=hid y0;clear x0 y0;go_wp2_with fail
 go_loopw [5] (fun i wr=>∃j:Nat,j<=n/\i=.int .i64 j/\Hid (∀m y,m<j->(q.vars.map Va.name)[m]?=some y->y ≠ x)/\Hid (w1.grownBy wr none)) (fun i _=>n-(intOf i).toNat)
 case atStart=>exact⟨0,zD1 _,rfl,V32,aN0 _ _⟩
 case round=>
  obtain⟨j,hj,rfl,hno,Hb⟩:=hrel;refine M9113 ?_;intro hb Aq Hg HB1 q1
  by_cases Ai:j<n
  .
   obtain⟨y,hy⟩:∃y,(q.vars.map Va.name)[j]?=some y:=⟨_,zA0 (by rw[show(q.vars.map Va.name).length=(q.vars).length by simp,HN.out];exact Ai)⟩
   obtain⟨z,hz,rfl⟩:∃z,(q.vars)[j]?=some z/\z.name=y:=by
    rw[zA2]at hy;exact zF0.1 hy
   have hrj:(q.vars.map Va.fl)[j]?=some z.fl:=by rw[zA2,hz];rfl
   obtain⟨b,off,rfl⟩:=aS.addr HL.out (by rw[show(q.vars.map Va.fl).length=(q.vars).length by simp[bH],HN.out];omega)
   obtain⟨vs,Ad,Ab⟩:=((aS.below HL.out (aA Aq)).el hrj).vals;obtain⟨z0,us,rfl,⟨az,cz,rfl,hbz,_⟩,_⟩:=Ad;have r0:=Ab 0 _ rfl;rw[zG2]at r0;refine M956 ?_;intro kc1 kc2 HE
   have HY:Hid ((q.vars.map Va.name)[j]?=some z.name):=by show _=_;rw[zA2,hz];rfl
   have hj':(j:Int)<(n:Int):=V6;clear Ab hz hy hrj hbz hb Hb Aq
   by_cases he:z.name=x
   .
    have hbq:=HE.out.trans (zB3 he)
    have HF:Hid (ix (q.vars.map Va.name) x=some j):=iU hno.out (he ▸ HY.out)
    exact U282
   .
    have hbq:=HE.out.trans (zC2 he)
    have HF:Hid (∀m y,m<j+1->(q.vars.map Va.name)[m]?=some y->y ≠ x):=fun m y hm hy=>by
     exact U33
    have Hg2:=hid HB1.out;exact U276
  .
   have:n=j:=V6
   subst this
   have HF:Hid (ix (q.vars.map Va.name) x=none):=kZ (by rw[show(q.vars.map Va.name).length=(q.vars).length by simp,HN.out];exact hno.out)
   exact U308
theorem qV (q:Pr)(vs:List Value)(w:World)(h:aO w q.fl vs)(a:Option Addr)(k c:Nat)(x:List Int)(hx:bW w a k x):
  Calls Tryz.prog 74 #[agg vs,.slice a k c] w fun e w'=>e=.returned (.int .i64 (ixI (q.params.map Pa.name) x))/\w.grownBy w' none:=by
 obtain⟨v0,_,rfl,h0,v1,_,rfl,h1,v2,_,rfl,h2,v3,_,rfl,h3,v4,_,rfl,h4,rfl⟩:=h;obtain⟨b,d,rfl,hL⟩:=h2.list;have hn9:=hL.len9
 have hln:(q.params.map Pa.fl).length=(q.params).length:=by simp[bH]
 rw[hln]at hn9 ⊢
 obtain⟨n,hN⟩:∃z,z=(q.params).length:=⟨_,rfl⟩
 have HN:=hid hN.symm;rw[<-hN]at hn9 ⊢;have HL:=hid hL;have HX:=hid hx;have x0:=Blk.new w 95 [v0,v1,.slice b n d,v3,v4];have y0:=aC w (.cells #[v0,v1,.slice b n d,v3,v4] 95 (0,0)) none;simp only[List.toArray]at x0;simp only[agg];clear hL hx hN hln h0 h1 h2 h3 h4;go_enter Tryz.func74,Tryz.ntmps74;go_upto_region 1 with fail;generalize w.alloc (.cells #[v0,v1,.slice b n d,v3,v4] 95 (0,0))=w1 at *;have Q1:=hid (x0.k 2);have Y1:=hid y0;clear x0 y0;go_wp2_with fail
 go_loopw [5] (fun i wr=>∃j:Nat,j<=n/\i=.int .i64 j/\Hid (∀m y,m<j->(q.params.map Pa.name)[m]?=some y->y ≠ x)/\Hid (w1.grownBy wr none)) (fun i _=>n-(intOf i).toNat)
 case atStart=>exact⟨0,zD1 _,rfl,V32,aN0 _ _⟩
 case round=>
  obtain⟨j,hj,rfl,hno,Hb⟩:=hrel;refine M9113 ?_;intro hb Aq Hg HB1 q1
  by_cases Ai:j<n
  .
   obtain⟨y,hy⟩:∃y,(q.params.map Pa.name)[j]?=some y:=⟨_,zA0 (by rw[show(q.params.map Pa.name).length=(q.params).length by simp,HN.out];exact Ai)⟩
   obtain⟨z,hz,rfl⟩:∃z,(q.params)[j]?=some z/\z.name=y:=by
    rw[zA2]at hy;exact zF0.1 hy
   have hrj:(q.params.map Pa.fl)[j]?=some z.fl:=by rw[zA2,hz];rfl
   obtain⟨b,off,rfl⟩:=aS.addr HL.out (by rw[show(q.params.map Pa.fl).length=(q.params).length by simp[bH],HN.out];omega)
   obtain⟨vs,Ad,Ab⟩:=((aS.below HL.out (aA Aq)).el hrj).vals;obtain⟨z0,us,rfl,⟨az,cz,rfl,hbz,_⟩,_⟩:=Ad;have r0:=Ab 0 _ rfl;rw[zG2]at r0;refine M956 ?_;intro kc1 kc2 HE
   have HY:Hid ((q.params.map Pa.name)[j]?=some z.name):=by show _=_;rw[zA2,hz];rfl
   have hj':(j:Int)<(n:Int):=V6;clear Ab hz hy hrj hbz hb Hb Aq
   by_cases he:z.name=x
   .
    have hbq:=HE.out.trans (zB3 he)
    have HF:Hid (ix (q.params.map Pa.name) x=some j):=iU hno.out (he ▸ HY.out)
    exact U282
   .
    have hbq:=HE.out.trans (zC2 he)
    have HF:Hid (∀m y,m<j+1->(q.params.map Pa.name)[m]?=some y->y ≠ x):=fun m y hm hy=>by
     exact U33
    have Hg2:=hid HB1.out;exact U276
  .
   have:n=j:=V6
   subst this
   have HF:Hid (ix (q.params.map Pa.name) x=none):=kZ (by rw[show(q.params.map Pa.name).length=(q.params).length by simp,HN.out];exact hno.out)
   exact U308
theorem kF (q:Pr)(vs:List Value)(w:World)(h:aO w q.fl vs)(a:Option Addr)(k c:Nat)(x:List Int)(hx:bW w a k x):
  Calls Tryz.prog 75 #[agg vs,.slice a k c] w fun e w'=>e=.returned (.int .i64 (ixI (q.locals) x))/\w.grownBy w' none:=by
 obtain⟨v0,_,rfl,h0,v1,_,rfl,h1,v2,_,rfl,h2,v3,_,rfl,h3,v4,_,rfl,h4,rfl⟩:=h;obtain⟨b,d,rfl,hL⟩:=h3.list;have hn9:=hL.len9
 have hln:(bH q.locals).length=(q.locals).length:=by simp[bH]
 rw[hln]at hn9 ⊢
 obtain⟨n,hN⟩:∃z,z=(q.locals).length:=⟨_,rfl⟩
 have HN:=hid hN.symm;rw[<-hN]at hn9 ⊢;have HL:=hid hL;have HX:=hid hx;have x0:=Blk.new w 95 [v0,v1,v2,.slice b n d,v4];have y0:=aC w (.cells #[v0,v1,v2,.slice b n d,v4] 95 (0,0)) none;simp only[List.toArray]at x0;simp only[agg];clear hL hx hN hln h0 h1 h2 h3 h4;go_enter Tryz.func75,Tryz.ntmps75;go_upto_region 1 with fail;generalize w.alloc (.cells #[v0,v1,v2,.slice b n d,v4] 95 (0,0))=w1 at *;have Q1:=hid (x0.k 3);have Y1:=hid y0;clear x0 y0;go_wp2_with fail
 go_loopw [5] (fun i wr=>∃j:Nat,j<=n/\i=.int .i64 j/\Hid (∀m y,m<j->(q.locals)[m]?=some y->y ≠ x)/\Hid (w1.grownBy wr none)) (fun i _=>n-(intOf i).toNat)
 case atStart=>exact⟨0,zD1 _,rfl,V32,aN0 _ _⟩
 case round=>
  obtain⟨j,hj,rfl,hno,Hb⟩:=hrel;refine M9113 ?_;intro hb Aq Hg HB1 q1
  by_cases Ai:j<n
  .
   obtain⟨y,hy⟩:∃y,(q.locals)[j]?=some y:=⟨_,zA0 (by rw[show(q.locals).length=(q.locals).length by simp,HN.out];exact Ai)⟩
   have hrj:(bH q.locals)[j]?=some [Fl.b y]:=by unfold bH;rw[zA2,hy];rfl
   obtain⟨b,off,rfl⟩:=aS.addr HL.out (by rw[show(bH q.locals).length=(q.locals).length by simp[bH],HN.out];omega)
   obtain⟨vs,Ad,Ab⟩:=((aS.below HL.out (aA Aq)).el hrj).vals;obtain⟨z0,us,rfl,⟨az,cz,rfl,hbz,_⟩,_⟩:=Ad;have r0:=Ab 0 _ rfl;simp only[zG2,Nat.mul_one]at r0;refine M956 ?_;intro kc1 kc2 HE;have HY:=hid hy;have hj':(j:Int)<(n:Int):=V6;clear Ab hy hrj hbz hb Hb Aq
   by_cases he:y=x
   .
    have hbq:=HE.out.trans (zB3 he)
    have HF:Hid (ix (q.locals) x=some j):=iU hno.out (he ▸ HY.out)
    exact U282
   .
    have hbq:=HE.out.trans (zC2 he)
    have HF:Hid (∀m y,m<j+1->(q.locals)[m]?=some y->y ≠ x):=fun m y hm hy=>by
     exact U33
    have Hg2:=hid HB1.out;exact U276
  .
   have:n=j:=V6
   subst this
   have HF:Hid (ix (q.locals) x=none):=kZ (by rw[show(q.locals).length=(q.locals).length by simp,HN.out];exact hno.out)
   exact U308
theorem uN (q:Fa)(vs:List Value)(w:World)(h:aO w q.fl vs)(a:Option Addr)(k c:Nat)(x:List Int)(hx:bW w a k x):
  Calls Tryz.prog 19 #[agg vs,.slice a k c] w fun e w'=>e=.returned (.int .i64 (ixI (q.procs.map Fp.name) x))/\w.grownBy w' none:=by
 obtain⟨v0,_,rfl,h0,v1,_,rfl,h1,rfl⟩:=h;obtain⟨b,d,rfl,hL⟩:=h1.list;have hn9:=hL.len9
 have hln:(q.procs.map Fp.fl).length=(q.procs).length:=by simp[bH]
 rw[hln]at hn9 ⊢
 obtain⟨n,hN⟩:∃z,z=(q.procs).length:=⟨_,rfl⟩
 have HN:=hid hN.symm;rw[<-hN]at hn9 ⊢;have HL:=hid hL;have HX:=hid hx;have x0:=Blk.new w 52 [v0,.slice b n d];have y0:=aC w (.cells #[v0,.slice b n d] 52 (0,0)) none;simp only[List.toArray]at x0;simp only[agg];clear hL hx hN hln h0 h1;go_enter Tryz.func19,Tryz.ntmps19;go_upto_region 1 with fail;generalize w.alloc (.cells #[v0,.slice b n d] 52 (0,0))=w1 at *;have Q1:=hid (x0.k 1);have Y1:=hid y0;clear x0 y0;go_wp2_with fail
 go_loopw [5] (fun i wr=>∃j:Nat,j<=n/\i=.int .i64 j/\Hid (∀m y,m<j->(q.procs.map Fp.name)[m]?=some y->y ≠ x)/\Hid (w1.grownBy wr none)) (fun i _=>n-(intOf i).toNat)
 case atStart=>exact⟨0,zD1 _,rfl,V32,aN0 _ _⟩
 case round=>
  obtain⟨j,hj,rfl,hno,Hb⟩:=hrel;refine M9113 ?_;intro hb Aq Hg HB1 q1
  by_cases Ai:j<n
  .
   obtain⟨y,hy⟩:∃y,(q.procs.map Fp.name)[j]?=some y:=⟨_,zA0 (by rw[show(q.procs.map Fp.name).length=(q.procs).length by simp,HN.out];exact Ai)⟩
   obtain⟨z,hz,rfl⟩:∃z,(q.procs)[j]?=some z/\z.name=y:=by
    rw[zA2]at hy;exact zF0.1 hy
   have hrj:(q.procs.map Fp.fl)[j]?=some z.fl:=by rw[zA2,hz];rfl
   obtain⟨b,off,rfl⟩:=aS.addr HL.out (by rw[show(q.procs.map Fp.fl).length=(q.procs).length by simp[bH],HN.out];omega)
   obtain⟨vs,Ad,Ab⟩:=((aS.below HL.out (aA Aq)).el hrj).vals;obtain⟨z0,us,rfl,⟨az,cz,rfl,hbz,_⟩,_⟩:=Ad;have r0:=Ab 0 _ rfl;rw[zG2]at r0;refine M956 ?_;intro kc1 kc2 HE
   have HY:Hid ((q.procs.map Fp.name)[j]?=some z.name):=by show _=_;rw[zA2,hz];rfl
   have hj':(j:Int)<(n:Int):=V6;clear Ab hz hy hrj hbz hb Hb Aq
   by_cases he:z.name=x
   .
    have hbq:=HE.out.trans (zB3 he)
    have HF:Hid (ix (q.procs.map Fp.name) x=some j):=iU hno.out (he ▸ HY.out)
    exact U282
   .
    have hbq:=HE.out.trans (zC2 he)
    have HF:Hid (∀m y,m<j+1->(q.procs.map Fp.name)[m]?=some y->y ≠ x):=fun m y hm hy=>by
     exact U33
    have Hg2:=hid HB1.out;exact U276
  .
   have:n=j:=V6
   subst this
   have HF:Hid (ix (q.procs.map Fp.name) x=none):=kZ (by rw[show(q.procs.map Fp.name).length=(q.procs).length by simp,HN.out];exact hno.out)
   exact U308
theorem oQ (q:List Fa)(b:Option Addr)(n d:Nat)(w:World)(h:aS w b d 2 (q.map Fa.fl))(hl:q.length=n)(a:Option Addr)(k c:Nat)(x:List Int)(hx:bW w a k x):
  Calls Tryz.prog 36 #[.slice b n d,.slice a k c] w fun e w'=>e=.returned (.int .i64 (ixI (q.map Fa.name) x))/\w.grownBy w' none:=by
 have hn9:=h.len9
 have hln:(q.map Fa.fl).length=q.length:=by simp[bH]
 rw[hln,hl]at hn9;have HN:=hid hl;have HL:=hid h;have HX:=hid hx;clear h hx hl hln;go_enter Tryz.func36,Tryz.ntmps36;go_wp2_with fail
 go_loopw [5] (fun i wr=>∃j:Nat,j<=n/\i=.int .i64 j/\Hid (∀m y,m<j->(q.map Fa.name)[m]?=some y->y ≠ x)/\Hid (w.grownBy wr none)) (fun i _=>n-(intOf i).toNat)
 case atStart=>exact⟨0,zD1 _,rfl,V32,aN0 _ _⟩
 case round=>
  obtain⟨j,hj,rfl,hno,Hb⟩:=hrel;have hb:=Hb.out
  have Aq:w.grownBy wr none:=hb
  have Hg:=hid Aq
  by_cases Ai:j<n
  .
   obtain⟨y,hy⟩:∃y,(q.map Fa.name)[j]?=some y:=⟨_,zA0 (by rw[show(q.map Fa.name).length=(q).length by simp,HN.out];exact Ai)⟩
   obtain⟨z,hz,rfl⟩:∃z,(q)[j]?=some z/\z.name=y:=by
    rw[zA2]at hy;exact zF0.1 hy
   have hrj:(q.map Fa.fl)[j]?=some z.fl:=by rw[zA2,hz];rfl
   obtain⟨b,off,rfl⟩:=aS.addr HL.out (by rw[show(q.map Fa.fl).length=(q).length by simp[bH],HN.out];omega)
   obtain⟨vs,Ad,Ab⟩:=((aS.below HL.out (aA Aq)).el hrj).vals;obtain⟨z0,us,rfl,⟨az,cz,rfl,hbz,_⟩,_⟩:=Ad;have r0:=Ab 0 _ rfl;rw[zG2]at r0;refine M956 ?_;intro kc1 kc2 HE
   have HY:Hid ((q.map Fa.name)[j]?=some z.name):=by show _=_;rw[zA2,hz];rfl
   have hj':(j:Int)<(n:Int):=V6;clear Ab hz hy hrj hbz hb Hb Aq
   by_cases he:z.name=x
   .
    have hbq:=HE.out.trans (zB3 he)
    have HF:Hid (ix (q.map Fa.name) x=some j):=iU hno.out (he ▸ HY.out)
    exact U282
   .
    have hbq:=HE.out.trans (zC2 he)
    have HF:Hid (∀m y,m<j+1->(q.map Fa.name)[m]?=some y->y ≠ x):=fun m y hm hy=>by
     exact U33
    have Hg2:=hid Hg;exact U276
  .
   have:n=j:=V6
   subst this
   have HF:Hid (ix (q.map Fa.name) x=none):=kZ (by rw[show(q.map Fa.name).length=(q).length by simp,HN.out];exact hno.out)
   exact U308
theorem aGf (q:List (List Int))(b:Option Addr)(n d:Nat)(w:World)(h:aS w b d 1 (bH q))(hl:q.length=n)(a:Option Addr)(k c:Nat)(x:List Int)(hx:bW w a k x):
  Calls Tryz.prog 39 #[.slice b n d,.slice a k c] w fun e w'=>e=.returned (.bool (decide (x ∈ q)))/\w.grownBy w' none:=by
 have hn9:=h.len9
 have hln:(bH q).length=q.length:=by simp[bH]
 rw[hln,hl]at hn9;have HN:=hid hl;have HL:=hid h;have HX:=hid hx;clear h hx hl hln;go_enter Tryz.func39,Tryz.ntmps39;go_wp2_with fail
 go_loopw [5] (fun i wr=>∃j:Nat,j<=n/\i=.int .i64 j/\Hid (∀m y,m<j->(q)[m]?=some y->y ≠ x)/\Hid (w.grownBy wr none)) (fun i _=>n-(intOf i).toNat)
 case atStart=>exact⟨0,zD1 _,rfl,V32,aN0 _ _⟩
 case round=>
  obtain⟨j,hj,rfl,hno,Hb⟩:=hrel;have hb:=Hb.out
  have Aq:w.grownBy wr none:=hb
  have Hg:=hid Aq
  by_cases Ai:j<n
  .
   obtain⟨y,hy⟩:∃y,(q)[j]?=some y:=⟨_,zA0 (by rw[show(q).length=(q).length by simp,HN.out];exact Ai)⟩
   have hrj:(bH q)[j]?=some [Fl.b y]:=by unfold bH;rw[zA2,hy];rfl
   obtain⟨b,off,rfl⟩:=aS.addr HL.out (by rw[show(bH q).length=(q).length by simp[bH],HN.out];omega)
   obtain⟨vs,Ad,Ab⟩:=((aS.below HL.out (aA Aq)).el hrj).vals;obtain⟨z0,us,rfl,⟨az,cz,rfl,hbz,_⟩,_⟩:=Ad;have r0:=Ab 0 _ rfl;simp only[zG2,Nat.mul_one]at r0;refine M956 ?_;intro kc1 kc2 HE;have HY:=hid hy;have hj':(j:Int)<(n:Int):=V6;clear Ab hy hrj hbz hb Hb Aq
   by_cases he:y=x
   .
    have hbq:=HE.out.trans (zB3 he)
    have HF:Hid (ix (q) x=some j):=iU hno.out (he ▸ HY.out)
    clear he HE HY;go_wp2_with fail
    go_quiet (fail)
    go_wp2;go_ret;exact⟨aE (zB3 (zA3 (aIk HF.out).1)).symm,aI (below_drewN (aA Hg.out) _) _⟩
   .
    have hbq:=HE.out.trans (zC2 he)
    have HF:Hid (∀m y,m<j+1->(q)[m]?=some y->y ≠ x):=fun m y hm hy=>by
     exact U33
    have Hg2:=hid Hg;exact U276
  .
   have:n=j:=V6
   subst this
   have HF:Hid (ix (q) x=none):=kZ (by rw[show(q).length=(q).length by simp,HN.out];exact hno.out)
   clear hb Hb Aq hno;go_wp2;go_ret;exact⟨aE (zC2 (fP.1 HF.out)).symm,Hg.out⟩
end Go.Proofs.YtegkhlkjfeafjaaGreatDoor

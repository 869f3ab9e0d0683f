import Derived.Deep.RegionHeld3
import Derived.Deep.RegionWith
import Derived.Test.YtcbhdhmhidpdgaaGreatDoorLkImpl
import Derived.Test.YtcbhdhmhidpdgaaGreatDoorPackN
namespace Go.Proofs.YtcbhdhmhidpdgaaGreatDoor
open Go.RowKit
set_option linter.unusedVariables false
set_option linter.unusedSimpArgs false
set_option maxRecDepth 100000
section
theorem QA80{p:Prop}(h:p:=by
 have e1:(k+1)*7+i=y.vals.length+(k*7+i):=by simp[WdM.vals];omega
 rw[e1,List.set_append_right _ _ A0,Nat.add_sub_cancel_left]):p:=h
variable{g:Nat}{w w':World}
structure WdM where
 t:Bool
 n:Int
 l:Int
 h:Int
 a:Int
 p:Int
 s:Int
def WdM.vals (x:WdM):List Value:=[.bool x.t,.int .i64 x.n,.int .i64 x.l,.int .i64 x.h,.int .i64 x.a,.int .i64 x.p,.int .i64 x.s]
def xI:List WdM->List Value
 | []=>[]| x :: l=>x.vals++xI l
theorem flat_len (l:List WdM):(xI l).length=l.length*7:=by
 induction l with
 | nil=>rfl| cons x l ih=>simp[xI,WdM.vals,ih];omega
theorem aMe (l:List WdM)(k i:Nat)(hi:i<7)(x:WdM)(hk:l[k]?=some x):(xI l)[k*7+i]?=x.vals[i]?:=by
 induction l generalizing k with
 | nil=>simp at hk| cons y l ih=>
  cases k with
  | zero=>
   simp only[List.getElem?_cons_zero,zG2]at hk;subst hk;rw[xI,Nat.zero_mul,zJ0,List.getElem?_append_left (by simpa [WdM.vals] using hi)]
  | succ k=>
   rw[List.getElem?_cons_succ]at hk;have e:(k+1)*7+i=y.vals.length+(k*7+i):=by simp[WdM.vals];omega
   rw[xI,e,List.getElem?_append_right A0,Nat.add_sub_cancel_left];exact ih k hk
theorem aHx (l:List WdM)(k:Nat)(x:WdM)(hk:k<l.length):
  (((((((xI l).set (k*7) (.bool x.t)).set (k*7+1) (.int .i64 x.n)).set (k*7+2) (.int .i64 x.l)).set (k*7+3) (.int .i64 x.h)).set (k*7+4) (.int .i64 x.a)).set (k*7+5) (.int .i64 x.p)).set (k*7+6) (.int .i64 x.s)=xI (l.set k x):=by
 induction l generalizing k with
 | nil=>simp at hk| cons y l ih=>
  cases k with
  | zero=>simp[xI,WdM.vals]| succ k=>
   have e:∀i v,((y.vals++xI l).set ((k+1)*7+i) v)=y.vals++(xI l).set (k*7+i) v:=by
    intro i v;exact QA80
   have e':∀i v (m:List Value),((y.vals++m).set ((k+1)*7+i) v)=y.vals++m.set (k*7+i) v:=by
    intro i v m;exact QA80
   have e0:∀v (m:List Value),((y.vals++m).set ((k+1)*7) v)=y.vals++m.set (k*7) v:=fun v m=>e' 0 v m;rw[xI,e0,e',e',e',e',e',e',ih k (by simpa using hk)];rfl
def aNb (w:World)(a:Option Addr)(n:Nat)(l:List WdM):Prop:=
 l.length=n/\(0<n->∃b off,a=some ⟨b,off,none⟩/\∀k v,(xI l)[k]?=some v->w.cell? ⟨b,off+k,none⟩=some v)
theorem aNb.below{a:Option Addr}{n:Nat}{l:List WdM}(h:aNb w a n l)(hb:Below w.heap.size w w'):aNb w' a n l:=by
 exact QA39
theorem aGi{b off k:Nat}{l:List WdM}(hc:∀k v,(xI l)[k]?=some v->w.cell? ⟨b,off+k,none⟩=some v){x:WdM}(hk:l[k]?=some x):
  w.cell? ⟨b,off+k*7,none⟩=some (.bool x.t)/\w.cell? ⟨b,off+k*7+1,none⟩=some (.int .i64 x.n)/\w.cell? ⟨b,off+k*7+2,none⟩=some (.int .i64 x.l)/\w.cell? ⟨b,off+k*7+3,none⟩=some (.int .i64 x.h)/\w.cell? ⟨b,off+k*7+4,none⟩=some (.int .i64 x.a)/\w.cell? ⟨b,off+k*7+5,none⟩=some (.int .i64 x.p)/\w.cell? ⟨b,off+k*7+6,none⟩=some (.int .i64 x.s):=by
 have h:∀i,i<7->∀v,x.vals[i]?=some v->w.cell? ⟨b,off+k*7+i,none⟩=some v:=by
  intro i hi v hv;rw[Nat.add_assoc];exact hc _ _ ((aMe l k i hi x hk).trans hv)
 exact⟨h 0 A0 _ rfl,h 1 A0 _ rfl,h 2 A0 _ rfl,h 3 A0 _ rfl,h 4 A0 _ rfl,h 5 A0 _ rfl,h 6 A0 _ rfl⟩
def WB (w:World)(g:Nat)(l:List WdM):Prop:=w.heap[g]?=some (.cells (xI l).toArray 100 (0,0))
theorem WB.row{n:Nat}{l:List WdM}(h:WB w g l)(hn:l.length=n):aNb w (some ⟨g,0,none⟩) n l:=
 ⟨hn,fun _=>⟨g,0,rfl,fun k v hv=>by rw[cell_of_row w g (0+k) _ _ (0,0) h];simpa using hv⟩⟩
theorem WB.below{B:Nat}{l:List WdM}(h:WB w g l)(hb:Below B w w')(hg:g<B):WB w' g l:=(hb.block g hg).trans h
theorem aJ2 (w:World)(g i:Nat)(cs:List Value)(v:Value)(h:w.heap[g]?=some (.cells cs.toArray 100 (0,0))):(w.setCell ⟨g,i,none⟩ v).heap[g]?=some (.cells (cs.set i v).toArray 100 (0,0)):=by
 rw[heap_setCell_same w g i _ _ _ h];simp
theorem WB.set {w:World}{g k:Nat}{l:List WdM}(h:WB w g l)(x:WdM)(hk:k<l.length):
  WB (((((((w.setCell ⟨g,k*7,none⟩ (.bool x.t)).setCell ⟨g,k*7+1,none⟩ (.int .i64 x.n)).setCell ⟨g,k*7+2,none⟩ (.int .i64 x.l)).setCell ⟨g,k*7+3,none⟩ (.int .i64 x.h)).setCell ⟨g,k*7+4,none⟩ (.int .i64 x.a)).setCell ⟨g,k*7+5,none⟩ (.int .i64 x.p)).setCell ⟨g,k*7+6,none⟩ (.int .i64 x.s)) g (l.set k x):=by
 unfold WB;rw[<-aHx l k x hk];exact aJ2 _ _ _ _ _ (aJ2 _ _ _ _ _ (aJ2 _ _ _ _ _ (aJ2 _ _ _ _ _ (aJ2 _ _ _ _ _ (aJ2 _ _ _ _ _ (aJ2 _ _ _ _ _ h))))))
theorem WB.other{k i:Nat}{l:List WdM}{v:Value}(h:WB w g l)(Ae:g ≠ k):WB (w.setCell ⟨k,i,none⟩ v) g l:=(heap_setCell_other w ⟨k,i,none⟩ g v Ae).trans h
end
theorem aNb.el {w:World}{b off n:Nat}{l:List WdM}(h:aNb w (some ⟨b,off,none⟩) n l){k:Nat}(hk:k<n):∃x,l[k]?=some x/\w.cell? ⟨b,off+k*7,none⟩=some (.bool x.t)/\w.cell? ⟨b,off+k*7+1,none⟩=some (.int .i64 x.n)/\w.cell? ⟨b,off+k*7+2,none⟩=some (.int .i64 x.l)/\w.cell? ⟨b,off+k*7+3,none⟩=some (.int .i64 x.h)/\w.cell? ⟨b,off+k*7+4,none⟩=some (.int .i64 x.a)/\w.cell? ⟨b,off+k*7+5,none⟩=some (.int .i64 x.p)/\w.cell? ⟨b,off+k*7+6,none⟩=some (.int .i64 x.s):=by
 obtain⟨b',Kw,e,hc⟩:=h.2 A0;simp only[zG2,Addr.mk.injEq,and_true]at e;obtain⟨rfl,rfl⟩:=e;exact⟨_,zA0 A70,aGi hc (zA0 A70)⟩
section
variable{l l':List Oj}
theorem aH4{j f:Nat}{m:List Int}(h:sH (l.take j) m=some f):f<j:=by
 obtain⟨x,hx,_⟩:=dZ h;have:=(zC1.1 hx).1;rw[List.length_take]at this;omega
structure aJz (l l':List Oj):Prop where
 len:l'.length=l.length
 at_:∀(j:Nat) (o o':Oj),l[j]?=some o->l'[j]?=some o'->o'.name=o.name/\o'.ex=o.ex/\o'.data=o.data/\o'.code=o.code/\o'.im.length=o.im.length/\∀(k:Nat) (x y:Ip),o.im[k]?=some x->o'.im[k]?=some y->y.mod=x.mod/\y.name=x.name/\(y.print=x.print\/(0<=y.print/\y.print<=2147483647))
theorem aJz.get(h:aJz l l'){j:Nat}{o:Oj}(ho:l[j]?=some o):∃o',l'[j]?=some o':=⟨_,zA0 (by rw[h.len];exact(zC1.1 ho).1)⟩
theorem aJz.back(h:aJz l l'){j:Nat}{o:Oj}(ho:l'[j]?=some o):∃o',l[j]?=some o':=⟨_,zA0 (by rw[<-h.len];exact(zC1.1 ho).1)⟩
theorem qT(h:aJz l l')(j:Nat)(m:List Int):sH (l'.take j) m=sH (l.take j) m:=by
 have Cc:∀(i:Nat) (o o':Oj),(l.take j)[i]?=some o->(l'.take j)[i]?=some o'->o'.name=o.name:=fun i o o' h1 h2=>by
  rw[List.getElem?_take]at h1 h2;split at h1
  .
   rw[if_pos (by assumption)]at h2;exact(h.at_ i o o' h1 h2).1
  .
   cases h1
 have hl:(l'.take j).length=(l.take j).length:=by rw[List.length_take,List.length_take,h.len]
 cases hc:sH (l.take j) m with
 | none=>
  refine pM fun i y hy=>?_;obtain⟨o,ho⟩:∃o,(l.take j)[i]?=some o:=⟨_,zA0 (by rw[<-hl];exact(zC1.1 hy).1)⟩
  have:=pL hc i o ho;rw[Cc i o y ho hy];exact this
 | some f=>
  obtain⟨x,hx,hp,Ai⟩:=dZ hc;obtain⟨o,ho⟩:∃o,(l'.take j)[f]?=some o:=⟨_,zA0 (by rw[hl];exact(zC1.1 hx).1)⟩
  refine kR ho (by rw[Cc f x o hx ho];exact hp) fun i y hi hy=>?_;obtain⟨z,hz⟩:∃z,(l.take j)[i]?=some z:=⟨_,zA0 (by rw[<-hl];exact(zC1.1 hy).1)⟩
  rw[Cc i z y hz hy];exact Ai i z hi hz
theorem aEt{o o':Oj}(e1:o'.name=o.name)(e2:o'.ex=o.ex)(e3:o'.data=o.data)(e4:o'.code=o.code)(e5:o'.im.length=o.im.length)(e6:∀(k:Nat) (x y:Ip),o.im[k]?=some x->o'.im[k]?=some y->y.mod=x.mod/\y.name=x.name/\(y.print=x.print\/(0<=y.print/\y.print<=2147483647)))(h:cU o.ob=true):cU o'.ob=true:=by
 have d1:o'.ob=⟨o.name,o.ex.map Xp.d,o'.im.map Ip.d,o.data,o.code⟩:=by unfold Oj.ob;rw[e1,e2,e3,e4]
 rw[d1];unfold cU at h ⊢;simp only[zC0]at h ⊢;obtain⟨⟨⟨⟨h1,h2⟩,h3⟩,h4⟩,h5⟩:=h;refine⟨⟨⟨⟨h1,h2⟩, ?_⟩,h4⟩,h5⟩;have h3:eU (o.im.map Ip.d)=true:=h3;show eU (o'.im.map Ip.d)=true
 unfold eU at h3 ⊢;simp only[zC0,zE3,zB2]at h3 ⊢;refine⟨by rw[e5];exact h3.1,zF3.2 fun k hk=>?_⟩;have Ld:k<o'.im.length:=by rw[List.mem_range]at hk;exact hk
 obtain⟨y,hy⟩:∃y,o'.im[k]?=some y:=⟨_,zA0 Ld⟩
 obtain⟨x,hx⟩:∃x,o.im[k]?=some x:=⟨_,zA0 (by rw[<-e5];exact Ld)⟩
 have h9:=zF3.1 h3.2 k (by rw[List.mem_range,<-e5];exact Ld);obtain⟨a1,a2,a3⟩:=e6 k x y hx hy;rw[pH (l:=x.mod) (l2:=x.name) (p:=x.print) (by rw[zA2,hx];rfl)]at h9;rw[pH (l:=y.mod) (l2:=y.name) (p:=y.print) (by rw[zA2,hy];rfl),a1,a2];simp only[zC0]at h9 ⊢;refine⟨h9.1, ?_⟩;rcases a3 with e|e
 .
  rw[e];exact h9.2
 .
  simp only[jL,zC0,zE3];exact e
theorem aBm{fm:Int}{a b:Ig}{c:Int}(h:Lk fm l a 0)(h':Lk fm l' b c)(hN:aJz l l'){j k:Nat}{o o':Oj}{x y:Ip}(ho:l[j]?=some o)(ho':l'[j]?=some o')(hx:o.im[k]?=some x)(hy:o'.im[k]?=some y)(hp:y.print ≠ x.print):c=3:=by
 cases h with
 | well q hf hu hg hm=>
 have Qn:=(zC1.1 ho).1;have f':kZ l':=⟨by rw[hN.len];exact hf.1,fun o2 h2=>by
  obtain⟨i,hi,rfl⟩:=List.mem_iff_getElem.1 h2;obtain⟨z,hz⟩:=hN.back (zA0 hi);obtain⟨b1,b2,b3,b4,b5,b6⟩:=hN.at_ i z _ hz (zA0 hi);exact aEt b1 b2 b3 b4 b5 b6 (hf.2 z (zA3 hz))⟩
 have u':aCo l':=fun i hi=>by
  have h1:=qT hN l'.length (mG l' i).name;rw[List.take_length,zD3 (by rw[hN.len];exact zB0 _)]at h1;rw[h1];obtain⟨z,hz⟩:=hN.back (zA0 hi);rw[cA (zA0 hi),(hN.at_ i z _ hz (zA0 hi)).1];have:=hu i (by rw[<-hN.len];exact hi);rwa [cA hz]at this
 have g':¬jM l' l'.length:=fun hg'=>by
  have h1:=hg j Qn x (by rw[cA ho];exact zA3 hx);have h2:=hg' j (by rw[hN.len];exact Qn) y (by rw[cA ho'];exact zA3 hy);obtain⟨b1,b2,b3,b4,b5,b6⟩:=hN.at_ j o o' ho ho';obtain⟨c1,c2,_⟩:=b6 k x y hx hy;unfold aD8 at h1 h2;rw[qT hN,c1]at h2;cases hf2:sH (l.take j) x.mod with
  | none=>rw[hf2]at h1;exact h1 rfl| some f=>
   rw[hf2]at h1 h2;simp only at h1 h2;have Ad:=aH4 hf2;obtain⟨z,hz⟩:∃z,l[f]?=some z:=⟨_,zA0 A0⟩
   obtain⟨z',Xm⟩:=hN.get hz;have t1:(l.take j)[f]?=some z:=by rw[List.getElem?_take,if_pos Ad];exact hz
   have t2:(l'.take j)[f]?=some z':=by rw[List.getElem?_take,if_pos Ad];exact Xm
   rw[t1]at h1;rw[t2]at h2;simp only[zI0]at h1 h2;have hex:=(hN.at_ f z z' hz Xm).2.1;have Ho:=(dE (hf.2 z (zA3 hz))).2.2.2.2.2.1;have e2:gQ z' y.name y.print=gQ z x.name y.print:=by unfold gQ;rw[hex,c2]
   rw[e2,sG Ho]at h2;rw[sG Ho]at h1;cases hn:aH5 z x.name with
   | none=>rw[hn]at h1;exact h1 rfl| some i=>
    rw[hn]at h1 h2;simp only at h1 h2;by_cases hq:(z.ex[i]?.map Xp.print).getD 0=x.print
    .
     rw[if_neg (fun e=>hp (e.symm.trans hq))]at h2;exact h2 rfl
    .
     rw[if_neg hq]at h1;exact h1 rfl
 cases h' with
 | form h=>exact absurd f' h| name _ h=>exact absurd u' h| missing _ _ _=>rfl| main _ _ h _=>exact absurd h g'| well _ _ _ h _=>exact absurd h g'
end
section
theorem A66{p:Prop}(h:p:=by rw[hk];intro e9;cases e9):p:=h
theorem QA44{p:Prop}(h:p:=by
 obtain⟨a,c,e,_⟩:=hr.list
 obtain⟨a',c',e',_⟩:=Di.list
 rw[e]at e'
 simp only[Value.slice.injEq,zB2]at e'
 exact e'.2.1.symm):p:=h
theorem QA76{p:Prop}(h:p:=by
 rw[List.getElem?_eq_none_iff.2 A0,List.getElem?_eq_none_iff.2 A0]):p:=h
namespace Eg
structure Two (τ:Sm) (w w':World) (b p:Nat) (y:Int):Prop where
 t:TH τ w
 t':TH τ w'
 same:∀g s,τ g=some s->s.k ≠ .rc 19->w'.heap[g]?=w.heap[g]?
 cell:∀g q,(g ≠ b\/q ≠ p)->w'.cell? ⟨g,q,none⟩=w.cell? ⟨g,q,none⟩
 at_:w'.cell? ⟨b,p,none⟩=some (.int .i64 y)
section
variable {τ:Sm} {w w':World} {b p:Nat} {y:Int}
theorem Two.bytes (T:Two τ w w' b p y){v:Value}{l l':List Int}{m:Nat}(hs:FV τ (.b m) v)(h:(Fl.b l).Rd w v)(h':(Fl.b l').Rd w' v):l'=l:=by
 obtain⟨a,c,e,hb,_⟩:=h;obtain⟨a',c',e',Dy,_⟩:=h';subst e;simp only[Value.slice.injEq]at e';obtain⟨rfl,el,rfl⟩:=e';obtain⟨n,_,hs⟩:=hs;rw[<-el]at Dy;rcases hs with⟨e,rfl⟩|⟨g,j,c9,s,e,hg,hk,_⟩
 .
  simp only[Value.slice.injEq]at e;obtain⟨_,e2,_⟩:=e;have e3:l'.length=0:=A0;rw[List.length_eq_zero_iff.1 e2,List.length_eq_zero_iff.1 e3]
 .
  simp only[Value.slice.injEq]at e;obtain⟨rfl,e2,_⟩:=e;have hsm:=T.same g s hg A66;refine(aE9 (w:=w') ⟨hb.1,hb.2.1,fun hn=>?_⟩ Dy).symm;obtain⟨b1,o1,e1,hc⟩:=hb.2.2 hn;simp only[zG2,Addr.mk.injEq,and_true]at e1;obtain⟨rfl,rfl⟩:=e1;exact⟨_,_,rfl,fun i hi=>(World.cell?_of_block (a:=⟨g,j*Rs.bt.k+i,none⟩) hsm).trans (hc i hi)⟩
theorem Two.el (T:Two τ w w' b p y){t n i:Nat}{v:Value}{rs Wb:List (List Fl)}{r r':List Fl}(h:SV τ (.rc t) n v)(hr:(Fl.l (Dt t).2.length rs).Rd w v)(Di:(Fl.l (Dt t).2.length Wb).Rd w' v)(hi:rs[i]?=some r)(hi':Wb[i]?=some r')(hrk:r.length=(Dt t).2.length):
  ∃g j c vs vs' q,v=.slice (some ⟨g,j*(Dt t).2.length,none⟩) n c/\(∃s,τ g=some s/\s.k=.rc t)/\RV τ (if q=true then Lt t else (Dt t).2) vs/\aL w r vs/\aL w' r' vs'/\(∀z u,vs[z]?=some u->w.cell? ⟨g,(j+i)*(Dt t).2.length+z,none⟩=some u)/\(∀z u,vs'[z]?=some u->w'.cell? ⟨g,(j+i)*(Dt t).2.length+z,none⟩=some u)/\vs.length=(Dt t).2.length:=by
 obtain⟨a,c0,e0,hL⟩:=hr.list;obtain⟨a',c0',Eh,hL'⟩:=Di.list;have hl:=(zC1.1 hi).1;have hn:n=rs.length:=by
  have:=sv_ln h;rw[e0]at this;exact this.symm
 obtain⟨g,j,c,s,e,_,_,hs,hk,_,_,hg⟩:=h.get T.t A0;have Ld:(Rs.rc t).k=(Dt t).2.length:=rfl;rw[Ld]at e hg;rw[e]at e0 Eh;simp only[Value.slice.injEq]at e0 Eh;obtain⟨rfl,_,rfl⟩:=e0;obtain⟨rfl,_,rfl⟩:=Eh;obtain⟨b1,o1,vs,e1,h1,h2⟩:=hL.cellsAt hi;obtain⟨b2,o2,vs',e2,h3,h4⟩:=hL'.cellsAt hi';simp only[zG2,Addr.mk.injEq,and_true]at e1 e2;obtain⟨rfl,rfl⟩:=e1;obtain⟨rfl,rfl⟩:=e2;obtain⟨us,u1,u2⟩:=hg i A0;have hul:=EV.length u1;have ez:∀z,(j+i)*(Dt t).2.length+z=j*(Dt t).2.length+i*(Dt t).2.length+z:=fun z=>by rw[Nat.add_mul]
 have Ak:∀z,z<(Dt t).2.length->∀u,us[z]?=some u->∀v,vs[z]?=some v->u=v:=fun z hz u hu v hv=>by
  have q1:=u2 z u hu;have q2:=h2 z v hv;rw[ez,q2]at q1;exact(Option.some.inj q1).symm
 have Ox:RV τ (if s.q=true then Lt t else (Dt t).2) us:=u1;refine⟨g,j,c,us,vs',s.q,e,⟨s,hs,hk⟩,Ox, ?_,h3,u2,fun z u hu=>by rw[ez];exact h4 z u hu,hul⟩;have:us=vs:=by
  have Xz:=h1.len;refine List.ext_getElem? fun z=>?_;by_cases hz:z<us.length
  .
   obtain⟨u,hu⟩:∃u,us[z]?=some u:=⟨_,zA0 hz⟩
   obtain⟨v,hv⟩:∃v,vs[z]?=some v:=⟨_,zA0 A0⟩
   rw[hu,hv,Ak z A0 u hu v hv]
  .
   exact QA76
 rw[this];exact h1
theorem tC {g:Nat}{o:Nat}{vs vs':List Value}(hl:vs.length=vs'.length)(h1:∀z u,vs[z]?=some u->w.cell? ⟨g,o+z,none⟩=some u)(h2:∀z u,vs'[z]?=some u->w'.cell? ⟨g,o+z,none⟩=some u)(hs:∀z,z<vs.length->w'.cell? ⟨g,o+z,none⟩=w.cell? ⟨g,o+z,none⟩):vs'=vs:=by
 refine List.ext_getElem? fun z=>?_;by_cases hz:z<vs.length
 .
  obtain⟨u,hu⟩:∃u,vs[z]?=some u:=⟨_,zA0 hz⟩
  obtain⟨v,hv⟩:∃v,vs'[z]?=some v:=⟨_,zA0 A0⟩
  have q1:=h1 z u hu;have q2:=h2 z v hv;rw[hs z hz,q1]at q2;rw[hu,hv];exact q2.symm
 .
  exact QA76
theorem Two.exps (T:Two τ w w' b p y){lo m:Nat}{v:Value}{l l':List Xp}(h:FV τ (.l 18 lo m) v)(hr:(Fl.l 3 (l.map Xp.fl)).Rd w v)(Di:(Fl.l 3 (l'.map Xp.fl)).Rd w' v):l'=l:=by
 obtain⟨n,_,hs⟩:=h;have hl:l'.length=l.length:=by
  exact QA44
 refine List.ext_getElem? fun i=>?_;by_cases hi:i<l.length
 .
  obtain⟨x,hx⟩:∃x,l[i]?=some x:=⟨_,zA0 hi⟩
  obtain⟨x',Eb⟩:∃x,l'[i]?=some x:=⟨_,zA0 A0⟩
  obtain⟨g,j,c,vs,vs',q,_,⟨s,hg,hk⟩,Ox,h1,h2,c1,c2,Qc⟩:=T.el (t:=18) hs hr Di (show(l.map Xp.fl)[i]?=some x.fl by rw[zA2,hx];rfl) (show(l'.map Xp.fl)[i]?=some x'.fl by rw[zA2,Eb];rfl) rfl;have hsm:=T.same g s hg A66;have ev:=tC (h1.len.trans h2.len.symm) c1 c2 (fun z _=>World.cell?_of_block hsm);subst ev;have Ox:RV τ [.b 4,.n,.n] vs':=by cases q <;> exact Ox
  obtain⟨v0,_,rfl,f0,v1,_,rfl,_,v2,_,rfl,_,rfl⟩:=Ox;obtain⟨_,_,e0,r0,_,_,e1,r1,_,_,e2,r2,_⟩:=h1;cases e0;cases e1;cases e2;obtain⟨_,_,e0,s0,_,_,e1,s1,_,_,e2,s2,_⟩:=h2;cases e0;cases e1;cases e2;have n0:=T.bytes f0 r0 s0;have r1:v1=.int .i64 x.print:=r1;have s1:v1=.int .i64 x'.print:=s1;have r2:v2=.int .i64 x.pos:=r2;have s2:v2=.int .i64 x'.pos:=s2;rw[r1]at s1;rw[r2]at s2;cases x;cases x';simp only[Value.int.injEq,true_and]at n0 s1 s2;rw[hx,Eb,n0,s1,s2]
 .
  exact QA76
theorem Two.imps (T:Two τ w w' b p y)(hp:p % 3=2){lo m:Nat}{v:Value}{l l':List Ip}(h:FV τ (.l 19 lo m) v)(hr:(Fl.l 3 (l.map Ip.fl)).Rd w v)(Di:(Fl.l 3 (l'.map Ip.fl)).Rd w' v):l'.length=l.length/\∀(k:Nat) (x x':Ip),l[k]?=some x->l'[k]?=some x'->x'.mod=x.mod/\x'.name=x.name/\(x'.print=x.print\/x'.print=y):=by
 obtain⟨n,_,hs⟩:=h;have hl:l'.length=l.length:=by
  exact QA44
 refine⟨hl,fun i x x' hx Eb=>?_⟩;obtain⟨g,j,c,vs,vs',q,_,⟨s,hg,hk⟩,Ox,h1,h2,c1,c2,Qc⟩:=T.el (t:=19) hs hr Di (show(l.map Ip.fl)[i]?=some x.fl by rw[zA2,hx];rfl) (show(l'.map Ip.fl)[i]?=some x'.fl by rw[zA2,Eb];rfl) rfl;have Qm:(Dt 19).2.length=3:=rfl;rw[Qm]at c1 c2;have Ox:RV τ [.b 4,.b 4,.n] vs:=by cases q <;> exact Ox
 obtain⟨v0,_,rfl,f0,v1,_,rfl,f1,v2,_,rfl,_,rfl⟩:=Ox;obtain⟨_,_,e0,r0,_,_,e1,r1,_,_,e2,r2,_⟩:=h1;cases e0;cases e1;cases e2;obtain⟨u0,_,rfl,s0,u1,_,rfl,s1,u2,_,rfl,s2,rfl⟩:=h2;have a0:=c2 0 u0 rfl;have a1:=c2 1 u1 rfl;have a2:=c2 2 u2 rfl;rw[T.cell g _ (.inr A0),c1 0 v0 rfl]at a0;rw[T.cell g _ (.inr A0),c1 1 v1 rfl]at a1;cases a0;cases a1;have r2:v2=.int .i64 x.print:=r2;have s2:u2=.int .i64 x'.print:=s2;refine⟨T.bytes f0 r0 s0,T.bytes f1 r1 s1, ?_⟩;by_cases e:g=b/\(j+i)*3+2=p
 .
  obtain⟨rfl,e⟩:=e;rw[e,T.at_,s2]at a2;simp only[zG2,Value.int.injEq,true_and]at a2;exact .inr a2.symm
 .
  rw[T.cell g _ (by exact(Classical.em (g=b)).elim (fun e1=>.inr (fun e2=>e ⟨e1,e2⟩)) .inl),c1 2 v2 rfl,r2,s2]at a2;simp only[zG2,Value.int.injEq,true_and]at a2;exact .inl a2.symm
theorem Two.near (T:Two τ w w' b p y)(hp:p % 3=2)(hy:0<=y/\y<=2147483647){n:Nat}{v:Value}{l l':List Oj}(h:SV τ (.rc 20) n v)(hr:(Fl.l 5 (l.map Oj.fl)).Rd w v)(Di:(Fl.l 5 (l'.map Oj.fl)).Rd w' v):aJz l l':=by
 have hl:l'.length=l.length:=by
  exact QA44
 refine⟨hl,fun i x x' hx Eb=>?_⟩;obtain⟨g,j,c,vs,vs',q,_,⟨s,hg,hk⟩,Ox,h1,h2,c1,c2,Qc⟩:=T.el (t:=20) h hr Di (show(l.map Oj.fl)[i]?=some x.fl by rw[zA2,hx];rfl) (show(l'.map Oj.fl)[i]?=some x'.fl by rw[zA2,Eb];rfl) rfl;have hsm:=T.same g s hg A66;have ev:=tC (h1.len.trans h2.len.symm) c1 c2 (fun z _=>World.cell?_of_block hsm);subst ev;have Ox:∃mi,RV τ [.b 4,.l 18 0 8,.l 19 0 mi,.n,.b 9001] vs':=by
  cases q
  .
   exact⟨8,Ox⟩
  .
   exact⟨9,Ox⟩
 obtain⟨mi,v0,_,rfl,f0,v1,_,rfl,f1,v2,_,rfl,f2,v3,_,rfl,_,v4,_,rfl,f4,rfl⟩:=Ox;obtain⟨_,_,e0,r0,_,_,e1,r1,_,_,e2,r2,_,_,e3,r3,_,_,e4,r4,_⟩:=h1;cases e0;cases e1;cases e2;cases e3;cases e4;obtain⟨_,_,e0,s0,_,_,e1,s1,_,_,e2,s2,_,_,e3,s3,_,_,e4,s4,_⟩:=h2;cases e0;cases e1;cases e2;cases e3;cases e4;obtain⟨i1,i2⟩:=T.imps hp f2 r2 s2;have r3:v3=.int .i64 x.data:=r3;have s3:v3=.int .i64 x'.data:=s3;rw[r3]at s3;simp only[Value.int.injEq,true_and]at s3;refine⟨T.bytes f0 r0 s0,T.exps f1 r1 s1,s3.symm,T.bytes f4 r4 s4,i1,fun k a c ha hc=>?_⟩;obtain⟨b1,b2,b3⟩:=i2 k a c ha hc;exact⟨b1,b2,b3.imp id fun e=>by rw[e];exact hy⟩
end
end Eg
end
namespace Eg
theorem aBw {τ:Sm}{w:World}(hT:TH τ w){b e:Nat}{s:So}(hb:τ b=some s)(hk:s.k=.rc 19)(he:e<s.u){y:Int}(hy:I64 y):TH τ (w.setCell ⟨b,e*3+2,none⟩ (.int .i64 y)):=fun g s' hg=>by
 by_cases Ew:g=b
 .
  subst Ew;rw[hb]at hg;cases hg;have h:=hT g s hb;obtain⟨cs,fl,e1,e2,e3⟩:=h.blk;have Hi:=e2 (by rw[hk];intro h9;cases h9);subst Hi;have Qm:s.k.k=3:=by rw[hk];rfl
  refine⟨⟨_,(0,0),heap_setCell_same w g (e*3+2) cs _ _ e1,fun _=>rfl,by simpa using e3⟩,h.u,h.c,fun i hi=>?_⟩;obtain⟨vs,h1,h2,h3⟩:=h.el i hi;rw[Qm]at h1 h3 ⊢;by_cases hie:i=e
  .
   subst hie;rw[hk]at h2;have Wv:RV τ [.b 4,.b 4,.n] vs:=by cases hq:s.q <;> rw[hq]at h2 <;> exact h2
   obtain⟨v0,_,rfl,f0,v1,_,rfl,f1,v2,_,rfl,f2,rfl⟩:=Wv;refine⟨[v0,v1,.int .i64 y],rfl, ?_,fun j v hv=>?_⟩
   .
    rw[hk];have:RV τ [.b 4,.b 4,.n] [v0,v1,.int .i64 y]:=⟨_,_,rfl,f0,_,_,rfl,f1,_,_,rfl,⟨y,rfl,hy⟩,rfl⟩
    cases hq:s.q <;> exact this
   .
    match j,hv with
    | 0,hv=>
     simp only[List.getElem?_cons_zero,zG2]at hv;subst hv;rw[World.cell?_setCell_other _ _ _ _ (by intro h9;simp at h9)];exact h3 0 _ rfl
    | 1,hv=>
     simp only[List.getElem?_cons_succ,List.getElem?_cons_zero,zG2]at hv;subst hv;rw[World.cell?_setCell_other _ _ _ _ (by intro h9;simp at h9)];exact h3 1 _ rfl
    | 2,hv=>
     simp only[List.getElem?_cons_succ,List.getElem?_cons_zero,zG2]at hv;subst hv;exact World.cell?_setCell_same' _ _ _ (by rw[h3 2 _ rfl];rfl)
    | j+3,hv=>simp at hv
  .
   refine⟨vs,h1,h2,fun j v hv=>?_⟩;have hj:=(zC1.1 hv).1;rw[World.cell?_setCell_other _ _ _ _ (by intro h9;simp only[Addr.mk.injEq,true_and,and_true]at h9;omega)];exact h3 j v hv
 .
  exact(hT g s' hg).on (Sub.refl _) (heap_setCell_other w ⟨b,e*3+2,none⟩ g _ Ew)
theorem two_of {τ:Sm}{w:World}(hT:TH τ w){b e:Nat}{s:So}(hb:τ b=some s)(hk:s.k=.rc 19)(he:e<s.u){y:Int}(hy:I64 y){v:Value}(hc:w.cell? ⟨b,e*3+2,none⟩=some v):Two τ w (w.setCell ⟨b,e*3+2,none⟩ (.int .i64 y)) b (e*3+2) y:=
 ⟨hT,aBw hT hb hk he hy,fun g s' hg Ae=>heap_setCell_other w ⟨b,e*3+2,none⟩ g _ (fun e9=>Ae (by rw[show g=b from e9,hb]at hg;cases hg;exact hk)),fun g q hgq=>World.cell?_setCell_other _ _ _ _ (by intro h9;simp only[Addr.mk.injEq,and_true]at h9;omega),World.cell?_setCell_same' _ _ _ (by rw[hc];rfl)⟩
end Eg
theorem aHr {o:Oj}(h:cU o.ob=true){k:Nat}{x:Ip}(hx:o.im[k]?=some x):0<=x.print/\x.print<=2147483647:=by
 unfold cU at h;simp only[zC0]at h;obtain⟨⟨⟨⟨_,_⟩,h3⟩,_⟩,_⟩:=h;have h3:eU (o.im.map Ip.d)=true:=h3;unfold eU at h3;simp only[zC0,zE3,zB2]at h3;have h9:=zF3.1 h3.2 k (by rw[List.mem_range];exact(zC1.1 hx).1);rw[pH (l:=x.mod) (l2:=x.name) (p:=x.print) (by rw[zA2,hx];rfl)]at h9;simp only[zC0,jL,zE3]at h9;exact h9.2
theorem aD6 {τ:Eg.Sm}{w:World}(hT:Eg.TH τ w){n c:Nat}{a:Option Addr}{os:List Oj}(hs:Eg.SV τ (.rc 20) n (.slice a n c))(hr:(Fl.l 5 (os.map Oj.fl)).Rd w (.slice a n c)){j:Nat}(hj:j<n):
  ∃b o ai k ci,a=some ⟨b,o,none⟩/\w.cell? ⟨b,o+j*5+2,none⟩=some (.slice ai k ci)/\k=(mG os j).im.length/\(∃ob,os[j]?=some ob/\ob=mG os j)/\(0<k->∃bi q s,ai=some ⟨bi,q*3,none⟩/\τ bi=some s/\s.k=.rc 19/\q+k<=s.u/\k<=ci ∧
   ∀z x,(mG os j).im[z]?=some x->w.cell? ⟨bi,(q+z)*3+2,none⟩=some (.int .i64 x.print)):=by
 obtain⟨a',c',e,hL⟩:=hr.list;simp only[Value.slice.injEq,zB2]at e;obtain⟨rfl,en,rfl⟩:=e;obtain⟨ob,It⟩:∃ob,os[j]?=some ob:=⟨_,zA0 A0⟩
 have eo:=cA It;obtain⟨b,o,vs,rfl,hv,hc⟩:=hL.cellsAt (show(os.map Oj.fl)[j]?=some ob.fl by rw[zA2,It];rfl);obtain⟨b',jj,c',s',e',_,_,_,_,_,_,hg⟩:=hs.get hT A0;have My:(Eg.Rs.rc 20).k=5:=rfl;rw[My]at e' hg;simp only[Value.slice.injEq,zG2,Addr.mk.injEq,true_and,and_true]at e';obtain⟨⟨rfl,rfl⟩,rfl⟩:=e';obtain⟨us,hu,Yg⟩:=hg j hj;have Xq:∃mi,Eg.RV τ [.b 4,.l 18 0 8,.l 19 0 mi,.n,.b 9001] us:=by
  cases hq:s'.q <;> rw[hq]at hu
  .
   exact⟨8,hu⟩
  .
   exact⟨9,hu⟩
 obtain⟨mi,u0,_,rfl,_,u1,_,rfl,_,u2,_,rfl,⟨k,_,hk⟩,u3,_,rfl,_,u4,_,rfl,_,rfl⟩:=Xq;obtain⟨v0,_,rfl,_,v1,_,rfl,_,v2,_,rfl,h2,v3,_,rfl,_,v4,_,rfl,_,rfl⟩:=hv;have x2:=Yg 2 u2 rfl;have y2:=hc 2 v2 rfl;rw[Nat.add_mul,y2]at x2;cases x2;obtain⟨ai,ci,rfl,hLi⟩:=h2.list;rw[zB2]at y2 hk;have Dp:k=ob.im.length:=by have:=Eg.sv_ln hk;exact this.symm
 subst Dp;refine⟨_,_,ai,ob.im.length,ci,rfl,y2,by rw[eo],⟨ob,It,eo.symm⟩,fun hp=>?_⟩;obtain⟨bi,q,ci',s,e,Gk,_,hbi,Hy,hqu,_,Ul⟩:=hk.get hT hp;have Qm:(Eg.Rs.rc 19).k=3:=rfl;rw[Qm]at e Ul;simp only[Value.slice.injEq,true_and]at e;obtain⟨rfl,rfl⟩:=e;refine⟨bi,q,s,rfl,hbi,Hy,hqu,Gk,fun z x hx=>?_⟩;rw[eo]at hx;obtain⟨bx,ox,ws,ex,hw,hcw⟩:=hLi.cellsAt (show(ob.im.map Ip.fl)[z]?=some x.fl by rw[zA2,hx];rfl);simp only[zG2,Addr.mk.injEq,and_true]at ex;obtain⟨rfl,rfl⟩:=ex;obtain⟨w0,_,rfl,_,w1,_,rfl,_,w2,_,rfl,Xn,rfl⟩:=hw;have Xn:w2=.int .i64 x.print:=Xn;have:=hcw 2 w2 rfl;rw[Xn]at this;rw[Nat.add_mul];exact this
theorem atM (a:Option Addr)(n c:Nat)(l:List Int)(w:World)(h:aV w a n l)(hn:n<=9223372036854775807):Calls Tryz.prog 7 #[.slice a n c,.int .i64 1] w fun e w'=>∃x:Int,e=.returned (.int .i64 x)/\0<=x/\x<=255/\w'=w:=by
 rcases zG0 n with h0|hp
 .
  subst h0;go_enter Tryz.func7,Tryz.ntmps7;go_wp2;go_ret;exact⟨0,rfl,by omega,by omega,rfl⟩
 .
  obtain⟨b,o,rfl,hc⟩:=h.2.2 hp;obtain⟨q,hq⟩:∃q:Nat,q=1 % n:=⟨_,rfl⟩
  have hm:(1:Int) % (n:Int)=(q:Int):=by rw[hq];rfl
  have Ad:q<n:=by rw[hq];exact Nat.mod_lt _ hp
  have hlt':(q:Int)<(n:Int):=A0;have r0:=hc q Ad;clear hq;have hx:=h.2.1 (l[q]?.getD 0) (by
   have hl:=h.1;rw[zA0 A0];exact List.getElem_mem _)
  generalize l[q]?.getD 0=x at *;have Ae:((n:Int) == 0)=false:=by simp;omega
  have hne':((n:Int)=0)=False:=by simp;omega
  have HX:=hid hx;clear h hc hx;go_enter Tryz.func7,Tryz.ntmps7;go_wp2;go_ret;have h9:=HX.out;rw[show wrap64 x=x by unfold wrap64;omega];exact⟨x,rfl,h9.1,h9.2,rfl⟩
theorem aHl (w:World):Calls Tryz.prog 21 #[.slice none 0 0] w fun e w'=>e=.returned (.bool true)/\Below w.heap.size w w':=by
 have HA:Calls Tryz.prog 45 #[.slice none 0 0,.func (.func 46) #[] #[]] w fun e w'=>e=.returned (.bool true)/\w.grownBy w' none:=by
  refine(aQa 46 #[] none none 0 0 [] (fun _=>true) (fun _ wr=>w.grownBy wr none) (fun _ _=>True) w ⟨qV Tryz.func46 rfl rfl,fun j wr hi=>(⟨zB0 _,zD1 _,fun _=>rfl,fun h=>(by cases h)⟩:aW wr none 0 1 []),(fun r hr=>by cases hr),(fun j r wr vs hr=>by simp at hr)⟩ rfl (aP _ _) (fun j w1 w2 h1 h2=>aC h1 h2) A8 (qV Tryz.func73 rfl rfl)).mono ?_;rintro e w' ⟨r,rfl,hg,ht⟩;refine⟨aF ?_,hg⟩;rw[yB ht];rfl
 go_enter Tryz.func21,Tryz.ntmps21;go_wp2_with fail;refine HA.mono ?_;rintro e w' ⟨rfl,hg⟩;clear HA;go_wp2;go_ret;exact⟨rfl,aA hg⟩
set_option maxHeartbeats 8000000 in
theorem aNv (l:List Oj)(a:Option Addr)(n c:Nat)(w:World)(h:aW w a c 5 (l.map Oj.fl))(hn:l.length=n)(Bg:∀o ∈ l,aO o.fl<=1048576)(Ai:∀ig code,Lk kX l ig code->code ≠ 0):
  Calls Tryz.prog 6 #[.slice a n c,.slice none 0 0,.int .i64 10] w fun e w'=>e=.returned (.agg #[.int .i64 0,.int .i64 0,.int .i64 0,.int .i64 0,.int .i64 0,.int .i64 0,.slice none 0 0,.slice none 0 0,.slice none 0 0,.slice none 0 0,.slice none 0 0])/\Below w.heap.size w w':=by
 have HI:=fun W=>aHl W;have HL:=fun W (hb:Below w.heap.size w W)=>sB l a c W (h.below hb) Bg;rw[hn]at HL;have HNO:=hid Ai;have hR:inR 10 0 100000=true:=by decide
 have HR:=fun W=>kN 10 0 100000 W;rw[hR]at HR;clear h hn Bg Ai hR;go_enter Tryz.func6,Tryz.ntmps6;have B0:=Blk.new w 34 [.int .i64 0,.int .i64 0,.int .i64 0,.int .i64 0,.int .i64 0,.int .i64 0,.slice none 0 0,.slice none 0 0,.slice none 0 0,.slice none 0 0,.slice none 0 0];have Y0:Below w.heap.size w (w.alloc (.cells #[.int .i64 0,.int .i64 0,.int .i64 0,.int .i64 0,.int .i64 0,.int .i64 0,.slice none 0 0,.slice none 0 0,.slice none 0 0,.slice none 0 0,.slice none 0 0] 34 (0,0))):=(zD2 _ _).alloc (zB0 _) _;go_upto_region 1 with fail;generalize w.alloc (.cells #[.int .i64 0,.int .i64 0,.int .i64 0,.int .i64 0,.int .i64 0,.int .i64 0,.slice none 0 0,.slice none 0 0,.slice none 0 0,.slice none 0 0,.slice none 0 0] 34 (0,0))=w1 at *;go_wp2_with fail;refine(HI w1).mono ?_;rintro e w2 ⟨rfl,hb⟩;have Ei:Hid (Below w.heap.size w w2/\Blk w2 w.heap.size 34 [.int .i64 0,.int .i64 0,.int .i64 0,.int .i64 0,.int .i64 0,.int .i64 0,.slice none 0 0,.slice none 0 0,.slice none 0 0,.slice none 0 0,.slice none 0 0]):=⟨Y0.trans (hb.mono Y0.size),B0.below hb B0.lt⟩
 clear Y0 B0 hb HI;go_wp2_with fail;refine(HR w2).mono ?_;rintro e w9 ⟨rfl,e9⟩;subst e9;clear HR;go_wp2_with fail;refine(HL _ Ei.out.1).mono ?_;rintro e w3 ⟨mv,wv,rs,ws,s,code,rfl,hk,im,hb⟩;have Ae:=HNO.out _ _ hk;obtain⟨am,cm,rfl,_⟩:=aH im.mrow.own;obtain⟨aw,cw,rfl,_⟩:=aH im.wrow.own;have hne':(code == 0)=false:=by simpa using Ae
 have Bn:Hid (Below w.heap.size w w3/\Blk w3 w.heap.size 34 [.int .i64 0,.int .i64 0,.int .i64 0,.int .i64 0,.int .i64 0,.int .i64 0,.slice none 0 0,.slice none 0 0,.slice none 0 0,.slice none 0 0,.slice none 0 0]):=⟨Ei.out.1.trans (hb.mono Ei.out.1.size),Ei.out.2.below hb Ei.out.2.lt⟩
 clear HL hk im hb Ei HNO Ae;generalize rs.length=nr at *;generalize ws.length=nw at *;go_upto_region 4 with fail;have B4:=Bn.out.2.old (o:=.cells #[.slice am nr cm,.slice aw nw cw,.int .i64 s] 28 (0,0));have Y4:Below w.heap.size w (w3.alloc (.cells #[.slice am nr cm,.slice aw nw cw,.int .i64 s] 28 (0,0))):=Bn.out.1.alloc Bn.out.1.size _;generalize w3.alloc (.cells #[.slice am nr cm,.slice aw nw cw,.int .i64 s] 28 (0,0))=w4 at *;obtain⟨g,hg⟩:=zx (w.heap.size);have HG:=hid hg;rw[<-hg]at B4 ⊢;have HY4:=hid Y4;clear hg Y4 Bn;go_upto_region 5 with fail;have u0:=B4.k 0;have f0:=B4.free 0;have B5:=B4.set (i:=0) (.int .i64 0);have u1:=B5.k 1;have f1:=B5.free 1;have B6:=B5.set (i:=1) (.int .i64 0);have u2:=B6.k 2;have f2:=B6.free 2;have B7:=B6.set (i:=2) (.int .i64 0);have u3:=B7.k 3;have f3:=B7.free 3;have B8:=B7.set (i:=3) (.int .i64 0);have u4:=B8.k 4;have f4:=B8.free 4;have B9:=B8.set (i:=4) (.int .i64 0);have u5:=B9.k 5;have f5:=B9.free 5;have B10:=B9.set (i:=5) (.int .i64 0);have u6:=B10.k 6;have f6:=B10.free 6;have B11:=B10.set (i:=6) (.slice none 0 0);have u7:=B11.k 7;have f7:=B11.free 7;have B12:=B11.set (i:=7) (.slice none 0 0);have u8:=B12.k 8;have f8:=B12.free 8;have B13:=B12.set (i:=8) (.slice none 0 0);have u9:=B13.k 9;have f9:=B13.free 9;have B14:=B13.set (i:=9) (.slice none 0 0);have u10:=B14.k 10;have f10:=B14.free 10;have B15:=B14.set (i:=10) (.slice none 0 0);have HYF:Hid (Below w.heap.size w (((((((((((w4.setCell ⟨g,0,none⟩ (.int .i64 0)).setCell ⟨g,1,none⟩ (.int .i64 0)).setCell ⟨g,2,none⟩ (.int .i64 0)).setCell ⟨g,3,none⟩ (.int .i64 0)).setCell ⟨g,4,none⟩ (.int .i64 0)).setCell ⟨g,5,none⟩ (.int .i64 0)).setCell ⟨g,6,none⟩ (.slice none 0 0)).setCell ⟨g,7,none⟩ (.slice none 0 0)).setCell ⟨g,8,none⟩ (.slice none 0 0)).setCell ⟨g,9,none⟩ (.slice none 0 0)).setCell ⟨g,10,none⟩ (.slice none 0 0))):=(((((((((((HY4.out.setCell (p:=⟨g,0,none⟩) (Nat.le_of_eq HG.out.symm) (.int .i64 0)).setCell (p:=⟨g,1,none⟩) (Nat.le_of_eq HG.out.symm) (.int .i64 0)).setCell (p:=⟨g,2,none⟩) (Nat.le_of_eq HG.out.symm) (.int .i64 0)).setCell (p:=⟨g,3,none⟩) (Nat.le_of_eq HG.out.symm) (.int .i64 0)).setCell (p:=⟨g,4,none⟩) (Nat.le_of_eq HG.out.symm) (.int .i64 0)).setCell (p:=⟨g,5,none⟩) (Nat.le_of_eq HG.out.symm) (.int .i64 0)).setCell (p:=⟨g,6,none⟩) (Nat.le_of_eq HG.out.symm) (.slice none 0 0)).setCell (p:=⟨g,7,none⟩) (Nat.le_of_eq HG.out.symm) (.slice none 0 0)).setCell (p:=⟨g,8,none⟩) (Nat.le_of_eq HG.out.symm) (.slice none 0 0)).setCell (p:=⟨g,9,none⟩) (Nat.le_of_eq HG.out.symm) (.slice none 0 0)).setCell (p:=⟨g,10,none⟩) (Nat.le_of_eq HG.out.symm) (.slice none 0 0))
 have Vx:=hid B15;clear B4 B5 B6 B7 B8 B9 B10 B11 B12 B13 B14 B15;go_wp2_with fail;clear u0 f0 u1 f1 u2 f2 u3 f3 u4 f4 u5 f5 u6 f6 u7 f7 u8 f8 u9 f9 u10 f10;generalize (((((((((((w4.setCell ⟨g,0,none⟩ (.int .i64 0)).setCell ⟨g,1,none⟩ (.int .i64 0)).setCell ⟨g,2,none⟩ (.int .i64 0)).setCell ⟨g,3,none⟩ (.int .i64 0)).setCell ⟨g,4,none⟩ (.int .i64 0)).setCell ⟨g,5,none⟩ (.int .i64 0)).setCell ⟨g,6,none⟩ (.slice none 0 0)).setCell ⟨g,7,none⟩ (.slice none 0 0)).setCell ⟨g,8,none⟩ (.slice none 0 0)).setCell ⟨g,9,none⟩ (.slice none 0 0)).setCell ⟨g,10,none⟩ (.slice none 0 0))=w5 at *;have e0:=Vx.out.k 0;have e1:=Vx.out.k 1;have e2:=Vx.out.k 2;have e3:=Vx.out.k 3;have e4:=Vx.out.k 4;have e5:=Vx.out.k 5;have e6:=Vx.out.k 6;have e7:=Vx.out.k 7;have e8:=Vx.out.k 8;have e9:=Vx.out.k 9;have e10:=Vx.out.k 10;refine zI1 (v:=.agg #[.int .i64 0,.int .i64 0,.int .i64 0,.int .i64 0,.int .i64 0,.int .i64 0,.slice none 0 0,.slice none 0 0,.slice none 0 0,.slice none 0 0,.slice none 0 0]) (by simp only[results,Tryz.results6];simp[go_sem,e0,e1,e2,e3,e4,e5,e6,e7,e8,e9,e10]) rfl ⟨rfl,HYF.out⟩
section
variable{os:List Oj}{c:Nat}{a:Option Addr}{w:World}
structure Oz (τ:Eg.Sm) (w:World) (a:Option Addr) (n c:Nat) (os:List Oj):Prop where
 t:Eg.TH τ w
 s:Eg.SV τ (.rc 20) n (.slice a n c)
 r:(Fl.l 5 (os.map Oj.fl)).Rd w (.slice a n c)
 z:∀o ∈ os,aO o.fl<=1048576
theorem Oz.below {τ:Eg.Sm}{w w':World}{a:Option Addr}{n c:Nat}{os:List Oj}(h:Oz τ w a n c os)(hb:Below w.heap.size w w'):Oz τ w' a n c os:=
 ⟨h.t.on fun b s e=>hb.block b (h.t.lt e),h.s,h.r.below hb,h.z⟩
theorem Oz.len{τ:Eg.Sm}{n:Nat}(h:Oz τ w a n c os):os.length=n:=by
 obtain⟨a',c',e,_⟩:=h.r.list;simp only[Value.slice.injEq,zB2]at e;exact e.2.1.symm
theorem Oz.row{τ:Eg.Sm}{n:Nat}(h:Oz τ w a n c os):aW w a c 5 (os.map Oj.fl):=by
 obtain⟨a',c',e,hL⟩:=h.r.list;simp only[Value.slice.injEq]at e;obtain⟨rfl,_,rfl⟩:=e;exact hL
theorem Oz.turn{τ:Eg.Sm}{n j:Nat}{fm:Int}{ig:Ig}(h:Oz τ w a n c os)(hL:Lk fm os ig 0)(hj:j<n):
  ∃b o ai k ci,a=some ⟨b,o,none⟩/\w.cell? ⟨b,o+j*5+2,none⟩=some (.slice ai k ci)/\k<=8/\∀z,z<k->∃bi q p,ai=some ⟨bi,q*3,none⟩/\τ bi ≠ none/\w.cell? ⟨bi,q*3+z*3+2,none⟩=some (.int .i64 p)/\w.frozen? ⟨bi,q*3+z*3+2,none⟩=false/\0<=p/\p<=2147483647 ∧
   ∀y:Int,0<=y->y<=2147483647->y ≠ p->∃Oc,Oz τ (w.setCell ⟨bi,q*3+z*3+2,none⟩ (.int .i64 y)) a n c Oc/\∀ig' c',Lk fm Oc ig' c'->c'=3:=by
 obtain⟨b,o,ai,k,ci,rfl,h1,h2,⟨ob,It,eob⟩,h3⟩:=aD6 h.t h.s h.r hj;have hf:cU ob.ob=true:=by
  cases hL with
  | well x f1 _ _ _=>exact f1.2 ob (zA3 It)
 have h8:=(dE hf).2.1;refine⟨b,o,ai,k,ci,rfl,h1,by rw[h2,<-eob];exact h8,fun z hz=>?_⟩;obtain⟨bi,q,s,rfl,hb,hk,hu,_,hc⟩:=h3 A0;obtain⟨x,hx⟩:∃x,(mG os j).im[z]?=some x:=⟨_,zA0 A0⟩
 have Eb:ob.im[z]?=some x:=by rw[eob];exact hx
 have e0:q*3+z*3+2=(q+z)*3+2:=A0;have hcz:=hc z x hx;obtain⟨p0,p1⟩:=aHr hf Eb;obtain⟨cs,fl,Ck,Hi,_⟩:=(h.t bi s hb).blk;have hfl0:=Hi (by rw[hk];intro h9;cases h9);subst hfl0;refine⟨bi,q,x.print,rfl,(by rw[hb];intro h9;cases h9),by rw[e0];exact hcz,by rw[e0];exact frozen_of_row w bi _ _ _ Ck,p0,p1,fun y y0 y1 Ae=>?_⟩;rw[e0];have hy:Eg.I64 y:=by unfold Eg.I64;omega
 have T:=Eg.two_of h.t hb hk (by omega:q+z<s.u) hy hcz;obtain⟨Oc,l1,l2,l3⟩:=Eg.rdOjs T.t' h.s;have O':Oz τ (w.setCell ⟨bi,(q+z)*3+2,none⟩ (.int .i64 y)) (some ⟨b,o,none⟩) n c Oc:=⟨T.t',h.s,l2,fun o9 h9=>zF2 (l3 o9 h9) A0⟩
 have hN:aJz os Oc:=T.near A0 ⟨y0,y1⟩ h.s h.r l2;refine⟨Oc,O',fun ig' c' hL'=>?_⟩;obtain⟨b',o',ai',k',ci',e',g1,g2,⟨ob',hob',eob'⟩,g3⟩:=aD6 T.t' h.s l2 hj;cases e';obtain⟨bb,jj,cc,s',e9,_,_,hbb,Cg,_⟩:=h.s.get h.t A0;simp only[Value.slice.injEq,zG2,Addr.mk.injEq,and_true]at e9;obtain⟨⟨rfl,_⟩,_⟩:=e9;have Aw:=T.same _ s' hbb (by rw[Cg];intro h9;cases h9);rw[World.cell?_of_block (a:=⟨_,o+j*5+2,none⟩) Aw,h1]at g1;cases g1;obtain⟨bi',q',s9,e8,_,_,_,_,gc⟩:=g3 A0;simp only[zG2,Addr.mk.injEq,and_true]at e8;obtain⟨rfl,eq⟩:=e8;have Ua:q'=q:=A0;subst Ua;obtain⟨x',Tt⟩:∃x',(mG Oc j).im[z]?=some x':=⟨_,zA0 A0⟩
 have h7:=gc z x' Tt;rw[T.at_]at h7;simp only[zG2,Value.int.injEq,true_and]at h7;exact aBm hL hL' hN It hob' Eb (by rw[eob'];exact Tt) (by rw[<-h7];exact Ae)
end
end Go.Proofs.YtcbhdhmhidpdgaaGreatDoor

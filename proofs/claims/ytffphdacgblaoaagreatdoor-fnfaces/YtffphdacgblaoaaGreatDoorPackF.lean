import Derived.Maps.Own
import Derived.Maps.OwnOps
import Derived.Maps.OwnSet
import Derived.Maps.Views
import Derived.StringKeys
import Derived.Test.YtffphdacgblaoaaGreatDoorPackD
namespace Go.Proofs.YtffphdacgblaoaaGreatDoor
open Go.RowKit
set_option linter.unusedVariables false
set_option linter.unusedSimpArgs false
set_option maxRecDepth 100000
def zM:Value:=.agg #[.int .i64 0,.slice none 0 0]
def Rm (v:Value):Option (DataW Value × List MemPlace):=some (.held v,[])
def aG3 (s:List Int):Lit:=.string (strOfNums s).data.toList
def Bt (l:List Int):Prop:=∀x ∈ l,0<=x/\x<=255
theorem zY {s t:List Int}(hs:Bt s)(ht:Bt t)(h:aG3 s=aG3 t):s=t:=by
 unfold aG3 at h;simp only[Lit.string.injEq]at h;refine(aDx hs ht).1 ?_
 cases hx:strOfNums s
 cases hy:strOfNums t
 rw[hx,hy]at h
 simpa using h
structure NM (w:World) (b k:Nat) (f:List Int->Value):Prop where
 ex:∃D:DataW Value,w.ownsMap Tryz.prog 9 Rm b k D/\Maps.IsMap D/\∀s,Bt s->D.atKey (aG3 s) (.held zM)=.held (f s)
def upd (f:List Int->Value)(s:List Int)(v:Value):List Int->Value:=fun t=>if t=s then v else f t
theorem NM.made (w:World):NM (w.alloc (.map #[] 0)) w.heap.size 0 (fun _=>zM):=
 ⟨⟨.map [],World.ownsMap_made w _ _ _,Maps.isMap_empty,fun s _=>rfl⟩⟩
theorem NM.kept {w w':World}{b k:Nat}{f:List Int->Value}{row:Option Nat}(h:NM w b k f)(hg:w.grownBy w' row)(Aw:some b ≠ row):NM w' b k f:=by
 obtain⟨D,h1,h2,h3⟩:=h.ex;exact⟨⟨D,h1.kept hg Aw,h2,h3⟩⟩
theorem NM.lt {w:World}{b k:Nat}{f:List Int->Value}(h:NM w b k f):b<w.heap.size:=by
 obtain⟨D,h1,_⟩:=h.ex;exact h1.lt
theorem NM.below {w w':World}{b k:Nat}{f:List Int->Value}(h:NM w b k f)(hb:Below w.heap.size w w'):NM w' b k f:=h.kept (row:=none) ⟨hb.os,hb.tape,hb.output,hb.size,fun i hi _=>hb.block i hi⟩ Q9
theorem lI {s:List Int}(hs:s.length<=maxLen):keyOf Tryz.prog 9 (.string (strOfNums s))=some (aG3 s):=by
 exact WideMaps.keyOf_string_mk Tryz.underlying9 (by rw[strOfNums_size];exact hs)
theorem NM.lookup {w:World}{b k:Nat}{f:List Int->Value}(h:NM w b k f){s:List Int}(hs:Bt s)(hl:s.length<=maxLen):(Instr.lookup 45 (.map (some b)) (.string (strOfNums s)) false).run Tryz.prog w=.ok (f s) w:=by
 obtain⟨D,h1,_,h3⟩:=h.ex;obtain⟨v,ps,hrun,hv⟩:=h1.lookup (t:=45) (e:=85) (Maps.string_keyed Tryz.underlying9) Tryz.underlying45 (z:=zM) (Tryz.zeroValue85 w) (zd:=.held zM) (zp:=[]) rfl (lI hl)
 have e:v=f s:=by
  unfold Rm at hv;simp only[zG2,Prod.mk.injEq]at hv
  have:=hv.1.trans (h3 s hs)
  simpa using this
 rw[e]at hrun;exact hrun
theorem NM.put {w':World}{b k:Nat}{f:List Int->Value}{D:DataW Value}{s:List Int}{v:Value}(h2:Maps.IsMap D)(h3:∀s,Bt s->D.atKey (aG3 s) (.held zM)=.held (f s))(hs:Bt s)(h:w'.ownsMap Tryz.prog 9 Rm b k (D.put (aG3 s) (.held v))):NM w' b k (upd f s v):=by
 refine⟨⟨_,h,h2.put _ _,fun t ht=>?_⟩⟩
 unfold upd
 by_cases e:t=s
 .
  subst e;rw[if_pos rfl]
  exact Maps.atKey_put_same h2 (by unfold aG3;trivial) _ _
 .
  rw[if_neg e,Maps.atKey_put_other (fun e2=>e (zY ht hs e2))]
  exact h3 t ht
theorem NM.del {w':World}{b k:Nat}{f:List Int->Value}{D:DataW Value}{s:List Int}(h2:Maps.IsMap D)(h3:∀s,Bt s->D.atKey (aG3 s) (.held zM)=.held (f s))(hs:Bt s)(h:w'.ownsMap Tryz.prog 9 Rm b k (D.del (aG3 s))):NM w' b k (upd f s zM):=by
 refine⟨⟨_,h,h2.del _,fun t ht=>?_⟩⟩
 unfold upd
 by_cases e:t=s
 .
  subst e;rw[if_pos rfl];exact Maps.atKey_del_same _
 .
  rw[if_neg e,Maps.atKey_del_other (fun e2=>e (zY ht hs e2))]
  exact h3 t ht
theorem wK {w:World}{ops:Array Oper}{rest:List Oper}{o:Oper}{a:Act}{Q:Exit->Act->World->Prop}{b k:Nat}{f:List Int->Value}(hgd:o.guard=none)(m x v:Operand)(ho:o.op=.mapUpdate 45 m x v)
  (h:NM w b k f) (hk:k<maxLen) (s:List Int) (val:Value) (hm:a.eval m=.map (some b)) (hx:a.eval x=.string (strOfNums s)) (hv:a.eval v=val) (hs:Bt s) (hl:s.length<=maxLen)
  (hK:∀w',NM w' b (k+1) (upd f s val)->w.grownBy w' (some b)->wpList Tryz.prog ops Q rest (a.put o.dst undef) w'):wpList Tryz.prog ops Q (o :: rest) a w:=by
 obtain⟨D,h1,h2,h3⟩:=h.ex
 exact wpList_mapUpdate_own w hgd m x v 45 ho 9 85 (Maps.string_keyed Tryz.underlying9) Tryz.underlying45 Rm b k D hm h1 hk _ val _ hx hv (lI hl) (.held val) [] rfl (fun w' h' hg=>hK w' (NM.put h2 h3 hs h') hg)
theorem pH {w:World}{ops:Array Oper}{rest:List Oper}{o:Oper}{a:Act}{Q:Exit->Act->World->Prop}{b k:Nat}{f:List Int->Value}(hgd:o.guard=none)(m x:Operand)(ho:o.op=.call { callee:=.builtin .delete,args:=#[m,x],argTypes:=#[45,9] })
  (h:NM w b k f) (s:List Int) (hm:a.eval m=.map (some b)) (hx:a.eval x=.string (strOfNums s)) (hs:Bt s) (hl:s.length<=maxLen)
  (hK:∀w',NM w' b k (upd f s zM)->w.grownBy w' (some b)->wpList Tryz.prog ops Q rest (a.put o.dst (.tuple #[])) w'):wpList Tryz.prog ops Q (o :: rest) a w:=by
 obtain⟨D,h1,h2,h3⟩:=h.ex
 exact wpList_delete_own w hgd m x 45 9 ho 85 (Maps.string_keyed Tryz.underlying9) Tryz.underlying45 Rm b k D hm h1 _ _ hx (lI hl) (fun w' h' hg=>hK w' (NM.del h2 h3 hs h') hg.grown)
theorem mQ {w:World}{T base n k g:Nat}{v:Value}{xs:List Value}(h:w.ownsRow base T k v n xs)(hg:v.ownBlock=some g):∃cur,w.heap[g]?=some (.cells cur T (0,0)):=by
 rcases h.2 with⟨e,_⟩|⟨g',cap,cur,hv,_,hh,_⟩
 .
  rw[e]at hg;cases hg
 .
  rw[hv]at hg;simp only[Value.ownBlock,zG2]at hg;subst hg;exact⟨cur,hh⟩
theorem jN {w w':World}{T base n k:Nat}{v:Value}{xs:List Value}(h:w.ownsRow base T k v n xs)(hs:∀g,v.ownBlock=some g->w'.heap[g]?=w.heap[g]?):w'.ownsRow base T k v n xs:=by
 refine⟨h.1, ?_⟩
 rcases h.2 with hn|⟨g,cap,cur,hv,hg,hh,r⟩
 .
  exact .inl hn
 .
  exact .inr ⟨g,cap,cur,hv,hg,by rw[hs g (by rw[hv];rfl)];exact hh,r⟩
theorem uU {w:World}{T base base' n k:Nat}{v:Value}{xs:List Value}(h:w.ownsRow base T k v n xs)(hb:base'<=base):w.ownsRow base' T k v n xs:=by
 refine⟨h.1, ?_⟩
 rcases h.2 with hn|⟨g,cap,cur,hv,hg,r⟩
 .
  exact .inl hn
 .
  exact .inr ⟨g,cap,cur,hv,by omega,r⟩
theorem dK {w:World}{T base n k:Nat}{v:Value}{xs:List Value}(h:w.ownsRow base T k v n xs):∃a c,v=.slice a n c/\n<=c/\c<=maxLen/\(a=none->c=0)/\(0<n->∃g,a=some ⟨g,0,none⟩):=by
 rcases h.2 with⟨rfl,rfl⟩|⟨g,cap,cur,rfl,hg,hh,hnc,hcm,hs,ht⟩
 .
  exact⟨none,0,rfl,by omega,by simp,fun _=>rfl,by omega⟩
 .
  exact⟨_,cap,rfl,hnc,hcm,by simp,fun _=>⟨g,rfl⟩⟩
structure Ob (w:World) (T:TypeId) (lo hi:Nat) (v:Value) (n:Nat) (xs:List Value):Prop where
 own:w.ownsRow lo T 1 v n xs
 lt:∀k,v.ownBlock=some k->k<hi
theorem Ob.stays {w w':World}{T lo hi n:Nat}{v:Value}{xs:List Value}(h:Ob w T lo hi v n xs)(hs:∀g,lo<=g->g<hi->(∃cur,w.heap[g]?=some (.cells cur T (0,0)))->w'.heap[g]?=w.heap[g]?):Ob w' T lo hi v n xs:=
 ⟨jN h.own fun g hg=>hs g (h.own.lt g hg).1 (h.lt g hg) (mQ h.own hg),h.lt⟩
theorem Ob.wide {w:World}{T lo hi lo' hi' n:Nat}{v:Value}{xs:List Value}(h:Ob w T lo hi v n xs)(a:lo'<=lo)(b:hi<=hi'):Ob w T lo' hi' v n xs:=
 ⟨uU h.own a,fun k hk=>Nat.lt_of_lt_of_le (h.lt k hk) b⟩
def bV (l:List Int):List Value:=l.map (Value.int .u8)
def iV (l:List Int):List Value:=l.map (Value.int .i64)
def isB (l:List Int):Prop:=∀x ∈ l,0<=x/\x<=255
def isI (l:List Int):Prop:=∀x ∈ l, -9223372036854775808<=x/\x<=9223372036854775807
def Fps (w:World):Nat->Nat->List (Value × Value)->List Fp->Prop
 | lo,hi,[],ds=>ds=[]
 | lo,hi,x :: l,ds=>∃d ds' m1 m2,ds=d :: ds'/\lo<=m1/\m1<=m2/\m2<=hi/\Ob w 5 lo m1 x.1 d.name.length (bV d.name)/\isB d.name/\Ob w 3 m1 m2 x.2 d.kinds.length (iV d.kinds)/\isI d.kinds/\Fps w m2 hi l ds'
def oM (lo hi:Nat)(w w':World):Prop:=∀g,lo<=g->g<hi->((∃cur,w.heap[g]?=some (.cells cur 5 (0,0)))\/(∃cur,w.heap[g]?=some (.cells cur 3 (0,0))))->w'.heap[g]?=w.heap[g]?
theorem oM.mono {lo hi lo' hi':Nat}{w w':World}(h:oM lo hi w w')(a:lo<=lo')(b:hi'<=hi):oM lo' hi' w w':=fun g h1 h2 h3=>h g Q0 Q0 h3
theorem oM.of {lo hi:Nat}{w w':World}(h:gT lo hi w w'):oM lo hi w w':=fun g h1 h2 _=>h g h1 h2
theorem Fps.stays {w w':World}:∀{l:List (Value × Value)} {lo hi:Nat} {ds:List Fp},Fps w lo hi l ds->oM lo hi w w'->Fps w' lo hi l ds:=by
 intro l
 induction l with
 | nil=>intro lo hi ds h _;exact h
 | cons x l ih=>
  intro lo hi ds h hs;obtain⟨d,ds',m1,m2,rfl,a,b,c,h1,hb,h2,hi',h3⟩:=h
  exact⟨d,ds',m1,m2,rfl,a,b,c,h1.stays (fun g p q r=>hs g p Q0 (.inl r)),hb,h2.stays (fun g p q r=>hs g Q0 Q0 (.inr r)),hi',ih h3 (hs.mono Q0 (zB0 _))⟩
theorem Fps.wide {w:World}:∀{l:List (Value × Value)} {lo hi lo' hi':Nat} {ds:List Fp},Fps w lo hi l ds->lo'<=lo->hi<=hi'->Fps w lo' hi' l ds:=by
 intro l
 induction l with
 | nil=>intro lo hi lo' hi' ds h _ _;exact h
 | cons x l ih=>
  intro lo hi lo' hi' ds h p q;obtain⟨d,ds',m1,m2,rfl,a,b,c,h1,hb,h2,hi',h3⟩:=h
  exact⟨d,ds',m1,m2,rfl,by omega,b,by omega,h1.wide p (zB0 _),hb,h2,hi',ih h3 (zB0 _) q⟩
theorem Fps.len {w:World}:∀{l:List (Value × Value)} {lo hi:Nat} {ds:List Fp},Fps w lo hi l ds->l.length=ds.length:=by
 intro l
 induction l with
 | nil=>intro lo hi ds h;rw[show ds=[] from h];rfl
 | cons x l ih=>
  intro lo hi ds h;obtain⟨d,ds',m1,m2,rfl,a,b,c,h1,hb,h2,hi',h3⟩:=h
  simp[ih h3]
theorem Fps.snoc {w:World}:∀{l:List (Value × Value)} {lo mid m1 m2:Nat} {ds:List Fp} {x:Value × Value} {d:Fp},Fps w lo mid l ds->lo<=mid->mid<=m1->m1<=m2->Ob w 5 mid m1 x.1 d.name.length (bV d.name)->isB d.name->Ob w 3 m1 m2 x.2 d.kinds.length (iV d.kinds)->isI d.kinds->Fps w lo m2 (l++[x]) (ds++[d]):=by
 intro l
 induction l with
 | nil=>
  intro lo mid m1 m2 ds x d h p q r h1 hb h2 hi
  rw[show ds=[] from h]
  exact⟨d,[],m1,m2,rfl,by omega,r,zB0 _,h1.wide p (zB0 _),hb,h2,hi,rfl⟩
 | cons y l ih=>
  intro lo mid m1 m2 ds x d h p q r h1 hb h2 hi;obtain⟨d0,ds',k1,k2,rfl,a,b,c,e1,eb,e2,ei,e3⟩:=h
  exact⟨d0,ds'++[d],k1,k2,rfl,a,b,by omega,e1,eb,e2,ei,ih e3 c q r h1 hb h2 hi⟩
def mY:List (Value × Value)->List Value
 | []=>[]
 | x :: l=>x.1 :: x.2 :: mY l
theorem vM (l m:List (Value × Value)):mY (l++m)=mY l++mY m:=by
 induction l with
 | nil=>rfl
 | cons x l ih=>simp[mY,ih]
theorem Ob.brow {w:World}{lo hi:Nat}{v:Value}{l:List Int}(h:Ob w 5 lo hi v l.length (bV l))(hb:isB l):(Fl.b l).Rd w v:=by
 obtain⟨a,c,rfl,h1,h2,h3,_⟩:=dK h.own;exact⟨a,c,rfl,Own.row (base:=lo) ⟨h.own,hb⟩,h1,h2,h3⟩
theorem Ob.irow {w:World}{lo hi:Nat}{v:Value}{l:List Int}(h:Ob w 3 lo hi v l.length (iV l))(hb:isI l):(Fl.i l).Rd w v:=by
 have ho:aM9 w lo v l.length l:=⟨h.own,hb⟩
 obtain⟨a,c,rfl,h1,h2,h3,_⟩:=dK h.own;obtain⟨a',c',e,_,_,hr,_⟩:=ho.shape;simp only[Value.slice.injEq,true_and]at e;obtain⟨rfl,rfl⟩:=e;exact⟨a,c,rfl,hr,h1,h2,h3⟩
theorem Fps.rows {w:World}{g:Nat}:∀{l:List (Value × Value)} {lo hi off:Nat} {ds:List Fp},Fps w lo hi l ds->(∀i v,(mY l)[i]?=some v->w.cell? ⟨g,off+i,none⟩=some v)->eT w g 2 off (ds.map Fp.fl):=by
 intro l
 induction l with
 | nil=>intro lo hi off ds h _;rw[show ds=[] from h];exact trivial
 | cons x l ih=>
  intro lo hi off ds h hc;obtain⟨d,ds',m1,m2,rfl,a,b,c,h1,hb,h2,hi',h3⟩:=h
  refine⟨⟨⟨x.1,hc 0 _ rfl,h1.brow hb⟩,⟨x.2,hc 1 _ rfl,h2.irow hi'⟩,trivial⟩,ih h3 fun i v hv=>?_⟩
  have:=hc (i+2) v (by simpa [mY] using hv)
  rw[show off+(i+2)=off+2+i by omega]at this
  exact this
structure Fg (w:World) (lo hi:Nat) (nv pv:Value) (l:List (Value × Value)) (f:Fa):Prop where
 name:∃m,lo<=m/\m<=hi/\Ob w 5 lo m nv f.name.length (bV f.name)/\isB f.name/\Fps w m hi l f.procs
 row:w.ownsRow lo 59 2 pv f.procs.length (mY l)
 lt:∀k,pv.ownBlock=some k->k<hi
theorem Fg.stays {w w':World}{lo hi:Nat}{nv pv:Value}{l:List (Value × Value)}{f:Fa}(h:Fg w lo hi nv pv l f)(hs:gT lo hi w w'):Fg w' lo hi nv pv l f:=by
 obtain⟨m,a,b,h1,hb,h2⟩:=h.name
 exact⟨⟨m,a,b,h1.stays (fun g p q _=>hs g p Q0),hb,h2.stays (oM.of (hs.mono a (zB0 _)))⟩,jN h.row (fun g hg=>hs g (h.row.lt g hg).1 (h.lt g hg)),h.lt⟩
theorem Fg.wide {w:World}{lo hi lo' hi':Nat}{nv pv:Value}{l:List (Value × Value)}{f:Fa}(h:Fg w lo hi nv pv l f)(p:lo'<=lo)(q:hi<=hi'):Fg w lo' hi' nv pv l f:=by
 obtain⟨m,a,b,h1,hb,h2⟩:=h.name
 exact⟨⟨m,by omega,by omega,h1.wide p (zB0 _),hb,h2.wide (zB0 _) q⟩,uU h.row p,fun k hk=>Nat.lt_of_lt_of_le (h.lt k hk) q⟩
theorem rI {w:World}{T base n k g c:Nat}{xs:List Value}(h:w.ownsRow base T k (.slice (some ⟨g,0,none⟩) n c) n xs):∀i v,xs[i]?=some v->w.cell? ⟨g,i,none⟩=some v:=by
 intro i v hv;have hi:=(zC1.1 hv).1
 rw[h.cellAt i (by have:=h.1;omega)]
 exact hv
theorem Fg.rdp {w:World}{lo hi:Nat}{nv pv:Value}{l:List (Value × Value)}{f:Fa}(h:Fg w lo hi nv pv l f):(Fl.l 2 (f.procs.map Fp.fl)).Rd w pv:=by
 obtain⟨m,_,_,_,_,h2⟩:=h.name;have hrow:=h.row;obtain⟨a,c,rfl,h3,h4,h5,h6⟩:=dK hrow
 refine⟨a,c,by simp,by simpa using h3,h4,h5,fun hp=>?_⟩
 obtain⟨g,rfl⟩:=h6 (by simpa using hp)
 exact⟨g,0,rfl,h2.rows fun i v hv=>by rw[zJ2];exact rI hrow i v hv⟩
theorem Fg.vals {w:World}{lo hi:Nat}{nv pv:Value}{l:List (Value × Value)}{f:Fa}(h:Fg w lo hi nv pv l f):cC w f.fl [nv,pv]:=by
 obtain⟨m,_,_,h1,hb,_⟩:=h.name;exact⟨nv,_,rfl,h1.brow hb,pv,_,rfl,h.rdp,rfl⟩
theorem Fg.push {w w1 w2 w3 w4:World}{lo hi:Nat}{nv pv pv':Value}{l:List (Value × Value)}{f:Fa}{x y:Value}{d:Fp}(h:Fg w lo hi nv pv l f)(hlo:lo<=hi)(hh:hi<=w.heap.size)
  (b1:Below w.heap.size w w1) (hx:Ob w1 5 w.heap.size w1.heap.size x d.name.length (bV d.name)) (hxb:isB d.name)
  (b2:Below w1.heap.size w1 w2) (hy:Ob w2 3 w1.heap.size w2.heap.size y d.kinds.length (iV d.kinds)) (hyi:isI d.kinds)
  (b3:Below w2.heap.size w2 w3) (hr:w4.ownsRow lo 59 2 pv' (f.procs.length+1) (mY l++[x,y])) (hg:w3.grownBy w4 pv.ownBlock):
  Fg w4 lo w4.heap.size nv pv' (l++[(x,y)]) ⟨f.name,f.procs++[d]⟩:=by
 have s1:=b1.size;have s2:=b2.size;have s3:=b3.size;have s4:=hg.size
 have k3:gT lo hi w w3:=fun g p q=>((b3.block g Q0).trans (b2.block g Q0)).trans (b1.block g Q0)
 have h3:=h.stays k3
 have hx3:=hx.stays (w':=w3) (fun g p q _=>(b3.block g Q0).trans (b2.block g Q0))
 have hy3:=hy.stays (w':=w3) (fun g p q _=>b3.block g Q0)
 have kp:∀A B,oM A B w3 w4:=fun A B g p q r=>by
  refine hg.block g ?_ ?_
  .
   rcases r with⟨c,e⟩|⟨c,e⟩ <;> exact(zJ0.1 e).1
  .
   intro e;obtain⟨c,e2⟩:=mQ h3.row e.symm
   rcases r with⟨c',e'⟩|⟨c',e'⟩ <;> (rw[e2]at e';simp only[zG2,Obj.cells.injEq]at e';exact absurd e'.2.1 (by decide))
 obtain⟨m,a,b,n1,nb,p1⟩:=h3.name
 refine⟨⟨m,a,by omega,n1.stays (fun g p q r=>kp lo m g p q (.inl r)),nb, ?_⟩, ?_,fun k hk=>(hr.lt k hk).2⟩
 .
  have:=(p1.stays (kp m hi)).wide (zB0 _) hh |>.snoc (x:=(x,y)) (d:=d) Q0 s1 s2 (hx3.stays (fun g p q r=>kp _ _ g p q (.inl r))) hxb (hy3.stays (fun g p q r=>kp _ _ g p q (.inr r))) hyi
  exact this.wide (zB0 _) Q0
 .
  rw[vM]
  simpa [mY] using hr
def aSh (fs:List Fa)(i:Nat)(f:Fa):Prop:=vS f=true/\ix (fs.map Fa.name) f.name=some i
def aR2 (fs:List Fa):Prop:=fs.length<=8/\∀i f,fs[i]?=some f->aSh fs i f
def iJ (fs:List Fa):Bool:=decide (fs.length<=8) && fs.all vS && fU (fs.map Fa.name)
theorem aJj (a:Option Addr)(c:Nat)(l:List Fa)(w:World)(h:bQ w a c 2 (l.map Fa.fl))(hs:∀f ∈ l,f.name.length<=1048576/\∀q ∈ f.procs,q.name.length<=1048576):
  Calls Tryz.prog 35 #[.slice a l.length c,.func (.func 9) #[] #[]] w fun e w'=>e=.returned (.bool (l.all vS))/\w.grownBy w' none:=by
 refine(aMx 9 #[] none a l.length c (l.map Fa.fl) (fun j=>vS (l[j]?.getD ⟨[],[]⟩)) (fun _ wr=>w.grownBy wr none) (fun _ _=>True) w ⟨cQ Tryz.func9 rfl rfl,fun j wr hi=>h.below (aA hi), ?_, ?_⟩ Q9 (aR _ _) (fun j w1 w2 h1 h2=>aD h1 h2) Q9 (cQ Tryz.func76 rfl rfl)).mono ?_
 .
  exact U22
 .
  intro j r wr vs hr hi Ai _;rw[zA2]at hr;obtain⟨x,hx,rfl⟩:=zF0.1 hr;rw[hx];have hxs:=hs x (zA3 hx);obtain⟨y0,us,rfl,⟨a0,c0,rfl,hb0,hc0,_⟩,y1,us2,rfl,h1,rfl⟩:=Ai;obtain⟨a1,c1,rfl,hL1⟩:=h1.list;rw[zB2]
  refine(rK x a0 c0 a1 c1 wr hb0 Q0 hc0 hL1 (fun q hq=>by have:=hxs.2 q hq;omega)).mono ?_
  rintro e w' ⟨rfl,hg⟩
  exact⟨rfl,hg,fun _=>aD hi hg,fun _=>trivial⟩
 .
  rintro e w' ⟨r,rfl,hg,ht⟩;refine⟨aE ?_,hg⟩;rw[gU ht];exact hZ l ⟨[],[]⟩ vS
set_option maxHeartbeats 1000000 in
theorem aAl (l:List Fa)(a:Option Addr)(n c:Nat)(w:World)(hn:l.length=n)(h:bQ w a c 2 (l.map Fa.fl))(hs:∀f ∈ l,f.name.length<=1048576/\∀q ∈ f.procs,q.name.length<=1048576):
  Calls Tryz.prog 13 #[.slice a n c] w fun e w'=>e=.returned (.bool (iJ l))/\w.grownBy w' none:=by
 subst hn;have HK:=aJj a c l w h hs
 have hcn:l.length<=9223372036854775807:=by have h2:=h.most;have h3:=h.cap;simp only[zB2]at h3;unfold maxLen at h2;omega
 have HU:∀w3,w.grownBy w3 none->Calls Tryz.prog 36 #[.slice a l.length c,.func (.func 37) #[] #[]] w3 fun e w'=>e=.returned (.bool (fU (l.map Fa.name)))/\w.grownBy w' none:=by
  intro w3 h3;refine(aBb (cQ Tryz.func114 rfl rfl) a c l l.length w3 rfl (h.below (aA h3))).mono ?_;rintro e w' ⟨rfl,hg⟩;exact⟨rfl,aD h3 hg⟩
 have he:Hid (iJ l=(decide (l.length<=8) && l.all vS && fU (l.map Fa.name))):=rfl
 clear h hs;generalize fU (l.map Fa.name)=r3 at HU he;generalize l.all vS=r2 at HK he;generalize l.length=n1 at *;generalize hr1:decide (n1<=8)=r1 at he;go_enter Tryz.func13,Tryz.ntmps13
 by_cases h4:n1<=8
 .
  have Be:(n1:Int)<=8:=Q0
  have hr:Hid (r1=true):=by show _=_;rw[<-hr1];exact zB3 h4
  clear hr1;go_wp2_with fail;refine HK.mono ?_;rintro e w3 ⟨rfl,hg⟩;clear HK
  cases r2 with
  | false=>
   clear HU;go_wp2;go_ret;exact⟨aE Q39,hg⟩
  | true=>
   have HU3:=HU w3 hg;exact U77
 .
  have Be:¬(n1:Int)<=8:=Q0
  have hr:Hid (r1=false):=by show _=_;rw[<-hr1];exact zC2 h4
  clear hr1 HK HU;go_wp2;go_ret;exact⟨aE Q39,aR _ _⟩
end Go.Proofs.YtffphdacgblaoaaGreatDoor

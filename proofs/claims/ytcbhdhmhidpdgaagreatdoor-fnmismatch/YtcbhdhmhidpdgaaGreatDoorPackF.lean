import Derived.Test.YtcbhdhmhidpdgaaGreatDoorPackE
import Derived.Lib.AppendStr
import Derived.Deep.RegionHeld3
import Derived.Lib.ItoaNum
import Derived.Lib.AppendIntMem
namespace Go.Proofs.YtcbhdhmhidpdgaaGreatDoor
open Go.RowKit
set_option linter.unusedVariables false
set_option linter.unusedSimpArgs false
set_option maxRecDepth 100000
section
variable{l:List Int}{xs:List Value}{T hi hi' lo lo':Nat}{nv pv v:Value}{w w':World}
structure Ob (w:World) (T:TypeId) (lo hi:Nat) (v:Value) (n:Nat) (xs:List Value):Prop where
 own:w.ownsRow lo T 1 v n xs
 lt:∀k,v.ownBlock=some k->k<hi
theorem Ob.stays{n:Nat}(h:Ob w T lo hi v n xs)(hs:∀g,lo<=g->g<hi->(∃cur,w.heap[g]?=some (.cells cur T (0,0)))->w'.heap[g]?=w.heap[g]?):Ob w' T lo hi v n xs:=
 ⟨bT h.own fun g hg=>hs g (h.own.lt g hg).1 (h.lt g hg) (eI h.own hg),h.lt⟩
theorem Ob.wide{n:Nat}(h:Ob w T lo hi v n xs)(a:lo'<=lo)(b:hi<=hi'):Ob w T lo' hi' v n xs:=
 ⟨jV h.own a,fun k hk=>Nat.lt_of_lt_of_le (h.lt k hk) b⟩
def bV (l:List Int):List Value:=l.map (Value.int .u8)
def iV (l:List Int):List Value:=l.map (Value.int .i64)
def isB (l:List Int):Prop:=∀x ∈ l,0<=x/\x<=255
def isI (l:List Int):Prop:=∀x ∈ l, -9223372036854775808<=x/\x<=9223372036854775807
def Fps (w:World):Nat->Nat->List (Value × Value)->List Fp->Prop
 | lo,hi,[],ds=>ds=[]| lo,hi,x :: l,ds=>∃d Mg m1 m2,ds=d :: Mg/\lo<=m1/\m1<=m2/\m2<=hi/\Ob w 5 lo m1 x.1 d.name.length (bV d.name)/\isB d.name/\Ob w 3 m1 m2 x.2 d.kinds.length (iV d.kinds)/\isI d.kinds/\Fps w m2 hi l Mg
def nH (lo hi:Nat)(w w':World):Prop:=∀g,lo<=g->g<hi->((∃cur,w.heap[g]?=some (.cells cur 5 (0,0)))\/(∃cur,w.heap[g]?=some (.cells cur 3 (0,0))))->w'.heap[g]?=w.heap[g]?
theorem nH.mono(h:nH lo hi w w')(a:lo<=lo')(b:hi'<=hi):nH lo' hi' w w':=fun g h1 h2 h3=>h g A0 A0 h3
theorem nH.of(h:eY lo hi w w'):nH lo hi w w':=fun g h1 h2 _=>h g h1 h2
theorem Fps.stays {w w':World}:∀{l:List (Value × Value)} {lo hi:Nat} {ds:List Fp},Fps w lo hi l ds->nH lo hi w w'->Fps w' lo hi l ds:=by
 intro l;induction l with
 | nil=>intro lo hi ds h _;exact h| cons x l ih=>
  intro lo hi ds h hs;obtain⟨d,Mg,m1,m2,rfl,a,b,c,h1,hb,h2,hi',h3⟩:=h;exact⟨d,Mg,m1,m2,rfl,a,b,c,h1.stays (fun g p q r=>hs g p A0 (.inl r)),hb,h2.stays (fun g p q r=>hs g A0 A0 (.inr r)),hi',ih h3 (hs.mono A0 (zB0 _))⟩
theorem Fps.wide {w:World}:∀{l:List (Value × Value)} {lo hi lo' hi':Nat} {ds:List Fp},Fps w lo hi l ds->lo'<=lo->hi<=hi'->Fps w lo' hi' l ds:=by
 intro l;induction l with
 | nil=>intro lo hi lo' hi' ds h _ _;exact h| cons x l ih=>
  intro lo hi lo' hi' ds h p q;obtain⟨d,Mg,m1,m2,rfl,a,b,c,h1,hb,h2,hi',h3⟩:=h;exact⟨d,Mg,m1,m2,rfl,by omega,b,by omega,h1.wide p (zB0 _),hb,h2,hi',ih h3 (zB0 _) q⟩
theorem Fps.len:∀{l:List (Value × Value)} {lo hi:Nat} {ds:List Fp},Fps w lo hi l ds->l.length=ds.length:=by
 intro l;induction l with
 | nil=>intro lo hi ds h;rw[show ds=[] from h];rfl| cons x l ih=>
  intro lo hi ds h;obtain⟨d,Mg,m1,m2,rfl,a,b,c,h1,hb,h2,hi',h3⟩:=h;simp[ih h3]
theorem Fps.snoc:∀{l:List (Value × Value)} {lo mid m1 m2:Nat} {ds:List Fp} {x:Value × Value} {d:Fp},Fps w lo mid l ds->lo<=mid->mid<=m1->m1<=m2->Ob w 5 mid m1 x.1 d.name.length (bV d.name)->isB d.name->Ob w 3 m1 m2 x.2 d.kinds.length (iV d.kinds)->isI d.kinds->Fps w lo m2 (l++[x]) (ds++[d]):=by
 intro l;induction l with
 | nil=>
  intro lo mid m1 m2 ds x d h p q r h1 hb h2 hi;rw[show ds=[] from h];exact⟨d,[],m1,m2,rfl,by omega,r,zB0 _,h1.wide p (zB0 _),hb,h2,hi,rfl⟩
 | cons y l ih=>
  intro lo mid m1 m2 ds x d h p q r h1 hb h2 hi;obtain⟨d0,Mg,k1,k2,rfl,a,b,c,e1,eb,e2,ei,e3⟩:=h;exact⟨d0,Mg++[d],k1,k2,rfl,a,b,by omega,e1,eb,e2,ei,ih e3 c q r h1 hb h2 hi⟩
theorem Fps.part:∀{l:List (Value × Value)} {lo hi:Nat} {ds:List Fp} (j:Nat),Fps w lo hi l ds->lo<=hi->∃mid,lo<=mid/\mid<=hi/\Fps w lo mid (l.take j) (ds.take j)/\Fps w mid hi (l.drop j) (ds.drop j):=by
 intro l;induction l with
 | nil=>
  intro lo hi ds j h p;rw[show ds=[] from h];exact⟨lo,zB0 _,p,by simp[Fps],by simp[Fps]⟩
 | cons y l ih=>
  intro lo hi ds j h p;cases j with
  | zero=>exact⟨lo,zB0 _,p,by simp[Fps],by simpa using h⟩
  | succ j=>
   obtain⟨d0,Mg,k1,k2,rfl,a,b,c,e1,eb,e2,ei,e3⟩:=h;obtain⟨mid,h1,h2,h3,h4⟩:=ih j e3 c;exact⟨mid,by omega,h2,⟨d0,Mg.take j,k1,k2,rfl,a,b,h1,e1,eb,e2,ei,h3⟩,by simpa using h4⟩
def qB:List (Value × Value)->List Value
 | []=>[]| x :: l=>x.1 :: x.2 :: qB l
theorem uW (l m:List (Value × Value)):qB (l++m)=qB l++qB m:=by
 induction l with
 | nil=>rfl| cons x l ih=>simp[qB,ih]
theorem Ob.brow(h:Ob w 5 lo hi v l.length (bV l))(hb:isB l):(Fl.b l).Rd w v:=by
 exact QA92
theorem Ob.irow(h:Ob w 3 lo hi v l.length (iV l))(hb:isI l):(Fl.i l).Rd w v:=by
 have ho:aNc w lo v l.length l:=⟨h.own,hb⟩
 obtain⟨a,c,rfl,h1,h2,h3,_⟩:=aH h.own;obtain⟨a',c',e,_,_,hr,_⟩:=ho.shape;simp only[Value.slice.injEq,true_and]at e;obtain⟨rfl,rfl⟩:=e;exact⟨a,c,rfl,hr,h1,h2,h3⟩
theorem Fps.rows{g:Nat}:∀{l:List (Value × Value)} {lo hi off:Nat} {ds:List Fp},Fps w lo hi l ds->(∀i v,(qB l)[i]?=some v->w.cell? ⟨g,off+i,none⟩=some v)->dD w g 2 off (ds.map Fp.fl):=by
 intro l;induction l with
 | nil=>intro lo hi off ds h _;rw[show ds=[] from h];exact trivial| cons x l ih=>
  intro lo hi off ds h hc;obtain⟨d,Mg,m1,m2,rfl,a,b,c,h1,hb,h2,hi',h3⟩:=h;refine⟨⟨⟨x.1,hc 0 _ rfl,h1.brow hb⟩,⟨x.2,hc 1 _ rfl,h2.irow hi'⟩,trivial⟩,ih h3 fun i v hv=>?_⟩;have:=hc (i+2) v (by simpa [qB] using hv);rw[show off+(i+2)=off+2+i by omega]at this;exact this
structure Fg (w:World) (lo hi:Nat) (nv pv:Value) (l:List (Value × Value)) (f:Fa):Prop where
 name:∃m,lo<=m/\m<=hi/\Ob w 5 lo m nv f.name.length (bV f.name)/\isB f.name/\Fps w m hi l f.procs
 row:w.ownsRow lo 138 2 pv f.procs.length (qB l)
 lt:∀k,pv.ownBlock=some k->k<hi
theorem Fg.stays {w w':World}{lo hi:Nat}{nv pv:Value}{l:List (Value × Value)}{f:Fa}(h:Fg w lo hi nv pv l f)(hs:eY lo hi w w'):Fg w' lo hi nv pv l f:=by
 obtain⟨m,a,b,h1,hb,h2⟩:=h.name;exact⟨⟨m,a,b,h1.stays (fun g p q _=>hs g p A0),hb,h2.stays (nH.of (hs.mono a (zB0 _)))⟩,bT h.row (fun g hg=>hs g (h.row.lt g hg).1 (h.lt g hg)),h.lt⟩
theorem Fg.wide {w:World}{lo hi lo' hi':Nat}{nv pv:Value}{l:List (Value × Value)}{f:Fa}(h:Fg w lo hi nv pv l f)(p:lo'<=lo)(q:hi<=hi'):Fg w lo' hi' nv pv l f:=by
 obtain⟨m,a,b,h1,hb,h2⟩:=h.name;exact⟨⟨m,by omega,by omega,h1.wide p (zB0 _),hb,h2.wide (zB0 _) q⟩,jV h.row p,fun k hk=>Nat.lt_of_lt_of_le (h.lt k hk) q⟩
theorem Fg.rdp{l:List (Value × Value)}{f:Fa}(h:Fg w lo hi nv pv l f):(Fl.l 2 (f.procs.map Fp.fl)).Rd w pv:=by
 obtain⟨m,_,_,_,_,h2⟩:=h.name;have Au:=h.row;obtain⟨a,c,rfl,h3,h4,h5,h6⟩:=aH Au;refine⟨a,c,by simp,by simpa using h3,h4,h5,fun hp=>?_⟩;obtain⟨g,rfl⟩:=h6 (by simpa using hp);exact⟨g,0,rfl,h2.rows fun i v hv=>by rw[zJ0];exact dL Au i v hv⟩
theorem Fg.vals{l:List (Value × Value)}{f:Fa}(h:Fg w lo hi nv pv l f):aL w f.fl [nv,pv]:=by
 obtain⟨m,_,_,h1,hb,_⟩:=h.name;exact⟨nv,_,rfl,h1.brow hb,pv,_,rfl,h.rdp,rfl⟩
theorem Fg.push{w1 w2 w3 w4:World}{pv':Value}{l:List (Value × Value)}{f:Fa}{x y:Value}{d:Fp}(h:Fg w lo hi nv pv l f)(Ki:lo<=hi)(hh:hi<=w.heap.size)
  (b1:Below w.heap.size w w1) (hx:Ob w1 5 w.heap.size w1.heap.size x d.name.length (bV d.name)) (hxb:isB d.name)
  (b2:Below w1.heap.size w1 w2) (hy:Ob w2 3 w1.heap.size w2.heap.size y d.kinds.length (iV d.kinds)) (hyi:isI d.kinds)
  (b3:Below w2.heap.size w2 w3) (hr:w4.ownsRow lo 138 2 pv' (f.procs.length+1) (qB l++[x,y])) (hg:w3.grownBy w4 pv.ownBlock):
  Fg w4 lo w4.heap.size nv pv' (l++[(x,y)]) ⟨f.name,f.procs++[d]⟩:=by
 have s1:=b1.size;have s2:=b2.size;have s3:=b3.size;have s4:=hg.size;have k3:eY lo hi w w3:=fun g p q=>((b3.block g A0).trans (b2.block g A0)).trans (b1.block g A0);have h3:=h.stays k3;have hx3:=hx.stays (w':=w3) (fun g p q _=>(b3.block g A0).trans (b2.block g A0));have hy3:=hy.stays (w':=w3) (fun g p q _=>b3.block g A0);have kp:∀A B,nH A B w3 w4:=fun A B g p q r=>by
  refine hg.block g ?_ ?_
  .
   rcases r with⟨c,e⟩|⟨c,e⟩ <;> exact(zI3.1 e).1
  .
   intro e;obtain⟨c,e2⟩:=eI h3.row e.symm;rcases r with⟨c',e'⟩|⟨c',e'⟩ <;> (rw[e2]at e';simp only[zG2,Obj.cells.injEq]at e';exact absurd e'.2.1 A6)
 obtain⟨m,a,b,n1,nb,p1⟩:=h3.name;refine⟨⟨m,a,by omega,n1.stays (fun g p q r=>kp lo m g p q (.inl r)),nb, ?_⟩, ?_,fun k hk=>(hr.lt k hk).2⟩
 .
  have:=(p1.stays (kp m hi)).wide (zB0 _) hh |>.snoc (x:=(x,y)) (d:=d) A0 s1 s2 (hx3.stays (fun g p q r=>kp _ _ g p q (.inl r))) hxb (hy3.stays (fun g p q r=>kp _ _ g p q (.inr r))) hyi
  exact this.wide (zB0 _) A0
 .
  rw[uW];simpa [qB] using hr
end
def tI (b:Bool):Int:=if b then 1 else 0
def dR (ps:List Pa):List Int:=ps.map fun a=>tI a.arr
theorem wK {ps:List Pa}{j:Nat}{x:Pa}(h:ps[j]?=some x):dR (ps.take (j+1))=dR (ps.take j)++[tI x.arr]:=by
 obtain⟨hj,rfl⟩:=zC1.1 h;unfold dR;rw[zF1 hj,List.map_append];rfl
theorem qM (ps:List Pa):isI (dR ps):=by
 intro x hx;obtain⟨a,_,rfl⟩:=zE1.1 hx;unfold tI;split <;> omega
theorem aLe (x:Bool)(w:World):Calls Tryz.prog 101 #[.bool x] w fun e w'=>e=.returned (.int .i64 (tI x))/\w'=w:=by
 cases x <;> (go_enter Tryz.func101,Tryz.ntmps101;go_wp2;go_ret;exact⟨rfl,rfl⟩)
theorem pX {w:World}{ops:Array Oper}{rest:List Oper}{o:Oper}{a:Act}{Q:Exit->Act->World->Prop}(Le:o.guard=none)(s x:Operand)
  (ho:o.op=.call { callee:=.builtin .append,args:=#[s,x],argTypes:=#[32,32] })
  (base:Nat) (v:Value) (n:Nat) (l:List Int) (hs:a.eval s=v) (Aj:w.ownsRow base 3 1 v n (iV l))
  (g:Nat) (z:Int) (hx:a.eval x=.slice (some ⟨g,0,none⟩) 1 1) (hc:w.cell? ⟨g,0,none⟩=some (.int .i64 z)) (Bg:n<=1099511627776) (Bw:base<=w.heap.size)
  (h:∀v' w',w'.ownsRow base 3 1 v' (n+1) (iV (l++[z]))->w.grownBy w' v.ownBlock->wpList Tryz.prog ops Q rest (a.put o.dst v') w'):wpList Tryz.prog ops Q (o :: rest) a w:=by
 obtain⟨i0,hi,Dd,Db,Cz⟩:=info_parts aSj;refine wpList_append_own w Le s x 32 ho base 3 i0 (.int .i64 0) 1 8 Tryz.underlying32 hi Dd Db Cz rfl A6 v n _ hs Aj ⟨g,0,none⟩ 1 1 [.int .i64 z] hx rfl ?_ (by simp[Value.oneCell']) A11 A0 Bw ?_
 .
  intro j u hu
  match j,hu with
  | 0,hu=>simp at hu;subst hu;exact hc| j+1,hu=>simp at hu
 .
  intro v' w' ho' hg' _;exact h v' w' (by simpa [iV] using ho') hg'
set_option maxHeartbeats 2000000 in
theorem zN (q:Pr)(vs:List Value)(w:World)(h:aL w q.fl vs)(hn:q.params.length<=1048576):
  Calls Tryz.prog 51 #[agg vs] w fun e w'=>∃v,e=.returned v/\Ob w' 3 w.heap.size w'.heap.size v q.params.length (iV (dR q.params))/\Below w.heap.size w w':=by
 obtain⟨v0,_,rfl,_,v1,_,rfl,_,v2,_,rfl,h2,v3,_,rfl,_,v4,_,rfl,_,rfl⟩:=h;obtain⟨a,c,rfl,hR⟩:=h2.list;have x0:=Blk.new w 135 [v0,v1,.slice a (q.params.map Pa.fl).length c,v3,v4];have y0:Below w.heap.size w (w.alloc (.cells #[v0,v1,.slice a (q.params.map Pa.fl).length c,v3,v4] 135 (0,0))):=(zD2 _ _).alloc (zB0 _) _;obtain⟨n,hN⟩:=zx (q.params.length);have HL:=hid hN.symm;have HR:=hid hR;rw[zB2,<-hN]at x0 y0;rw[zB2];rw[<-hN]at hn ⊢;simp only[List.toArray]at x0;simp only[agg];clear hR h2 hN;go_enter Tryz.func51,Tryz.ntmps51;go_upto_region 1 with fail;generalize w.alloc (.cells #[v0,v1,.slice a n c,v3,v4] 135 (0,0))=w1 at *;obtain⟨gx,Ar⟩:=zx (w.heap.size);have HX:=hid x0;have H1:=hid y0;have hlt1:=x0.lt;clear x0 y0 Ar gx;go_wp2_with fail;go_loopw [3,4] (fun kv i wr=>∃j:Nat,j<=n/\i=.int .i64 j/\Hid (wr.ownsRow w1.heap.size 3 1 kv j (iV (dR (q.params.take j))))/\Hid (Below w1.heap.size w1 wr)) (fun _ i _=>n-(intOf i).toNat)
 case atStart=>exact⟨0,zD1 _,rfl,World.ownsRow_nil _ _ _ _,zD2 _ _⟩
 case round=>
  obtain⟨j,hj,rfl,ho,hb⟩:=hrel;obtain⟨a3,c3,rfl,_,_,_,_⟩:=aH ho.out;have x1:=HX.out.below hb.out hlt1;have k2:=x1.k 2;by_cases Ad:j<n
  .
   obtain⟨x,hx⟩:∃x,q.params[j]?=some x:=⟨_,zA0 (by rw[HL.out];exact Ad)⟩
   obtain⟨bx,offx,rfl⟩:=aW.addr HR.out (by rw[zB2,HL.out];omega);obtain⟨vs,Ak,Ab⟩:=(aW.el HR.out (show(q.params.map Pa.fl)[j]?=some x.fl by rw[zA2,hx];rfl)).vals;obtain⟨y0,us,rfl,⟨ax,cx,rfl,_⟩,y1,us1,rfl,rfl,rfl⟩:=Ak;have Fh:=H1.out.trans (hb.out.mono H1.out.size);have r1:=aB (Ab 1 _ rfl) Fh;have HK:=hid (wK hx);have HT:=aLe x.arr wr;have Hn:=hb.out.size;have Gk:(wr.alloc (.cells #[.int .i64 (tI x.arr)] 3)).cell? ⟨wr.heap.size,0,none⟩=some (.int .i64 (tI x.arr)):=by simp
   have Jc:Hid ((wr.alloc (.cells #[.int .i64 (tI x.arr)] 3)).ownsRow w1.heap.size 3 1 (.slice a3 j c3) j (iV (dR (q.params.take j)))):=ho.out.alloc _;have Ei:Hid (Below w1.heap.size w1 (wr.alloc (.cells #[.int .i64 (tI x.arr)] 3))):=hb.out.alloc Hn _;clear Ab hx ho hb x1 Fh;go_wp2_with fail;refine HT.mono ?_;rintro e w2 ⟨rfl,rfl⟩;go_wp2_with (at_builtin;refine pX rfl _ _ rfl w1.heap.size _ j _ rfl Jc.out w2.heap.size (tI x.arr) rfl Gk A0 A10 ?_);intro v3 w3 Mu Bm;have Qy:Hid (w3.ownsRow w1.heap.size 3 1 v3 (j+1) (iV (dR (q.params.take (j+1))))):=by rw[HK.out];exact Mu
   have Bn:Hid (Below w1.heap.size w1 w3):=Ei.out.grown Bm Ei.out.size (fun k hk=>(Jc.out.lt k hk).1);clear Jc Ei Mu Bm HT r1 Gk Hn k2;go_wp2;go_roundw
   case rel=>exact⟨j+1,by omega,by go_num,Qy,Bn⟩
   case measure=>simp[intOf];omega
  .
   have:n=j:=A0;subst this;have hO:=ho.out;rw[zD3 (by rw[HL.out];exact zB0 _)]at hO;have HF:Hid (Ob wr 3 w.heap.size wr.heap.size (.slice a3 n c3) n (iV (dR q.params))/\Below w.heap.size w wr):=⟨⟨jV hO H1.out.size,fun k hk=>(hO.lt k hk).2⟩,H1.out.trans (hb.out.mono H1.out.size)⟩
   clear hO ho hb x1;go_wp2;go_ret;exact⟨_,rfl,HF.out⟩
theorem A19{p:Prop}(h:p:=by simp only[results,Tryz.results172];simp[go_sem]):p:=h
theorem QA41{p:Prop}(h:p:=by
 go_wp2_with fail
 refine H1.mono ?_
 rintro e w2 ⟨rfl,hg⟩
 have yg:=aC y0 hg
 clear q2 q3 k0 k1 k2 k3 z0 z1 y0 hg H1
 go_wp2_with fail
 refine zI1 (v:=.tuple #[.slice none 0 0,.bool false]) A19 rfl ⟨.slice none 0 0,by rw[HF.out];rfl,(fun k hk=>by rw[HF.out]at hk;cases hk),yg⟩):p:=h
def aM5 (m:Mo)(x:List Int):Option (List Int):=(ix (m.procs.map Pr.name) x).bind fun i=>m.procs[i]?.map fun q=>dR q.params
def sJ (fs:List Fa)(x:List Int):Option Fa:=(ix (fs.map Fa.name) x).bind fun i=>fs[i]?
def vW (f:Fa)(x:List Int):Option (List Int):=(ix (f.procs.map Fp.name) x).bind fun i=>f.procs[i]?.map Fp.kinds
def fE (m:Mo)(fs:List Fa)(mod name:List Int):Option (List Int):=
 if mod=[] then aM5 m name else (sJ fs mod).bind fun f=>if mod ∈ m.uses then vW f name else none
theorem qK {m:Mo}{fs:List Fa}{mod name:List Int}(h:mod=[]):fE m fs mod name=aM5 m name:=if_pos h
theorem qL {m:Mo}{fs:List Fa}{mod name:List Int}(h:mod ≠ []):fE m fs mod name=(sJ fs mod).bind fun f=>if mod ∈ m.uses then vW f name else none:=if_neg h
set_option maxHeartbeats 8000000 in
theorem aBn (m:Mo)(fs:List Fa)(x0 x1:Int)(mod name:List Int)(ks:List Ex)(vs es:List Value)(b:Option Addr)(nf d:Nat)(w:World)(hm:aL w m.fl vs)(hf:aW w b d 2 (fs.map Fa.fl))(Hi:fs.length=nf)(he:aL w (Ex.fl ⟨x0,x1,mod,name,ks⟩) es)
  (Qh:∀q ∈ m.procs,q.params.length<=1048576):
  Calls Tryz.prog 172 #[agg vs,.slice b nf d,agg es] w fun e w'=>∃v,e=.returned (.tuple #[v,.bool (fE m fs mod name).isSome])/\(∀k,fE m fs mod name=some k->(Fl.i k).Rd w' v)/\w.grownBy w' none:=by
 have Cq:=hm;obtain⟨v0,_,rfl,_,v1,_,rfl,Tw,v2,_,rfl,_,v3,_,rfl,hpr,rfl⟩:=hm;obtain⟨e0,_,rfl,rfl,e1,_,rfl,rfl,e2,_,rfl,⟨am,cm,rfl,Es,_⟩,e3,_,rfl,⟨an,cn,rfl,Be,_⟩,e4,_,rfl,_,rfl⟩:=he;obtain⟨au,cu,rfl,hU⟩:=Tw.list;obtain⟨ap,cp,rfl,hP⟩:=hpr.list;have Ub:=hP.len9;have hf9:=hf.len9;rw[zB2]at Ub hf9;rw[Hi]at hf9;have hul:(dI m.uses).length=m.uses.length:=by simp[dI]
 simp only[zB2,hul]at Cq ⊢;obtain⟨np,Eu⟩:=zx (m.procs.length);obtain⟨nu,hnu⟩:=zx (m.uses.length);have Px:=hid Eu.symm;have HNU:=hid hnu.symm;rw[<-Eu,<-hnu]at Cq ⊢;rw[<-Eu]at Ub;have HM:=hid Cq;have HP:=hid hP;have HU:=hid hU;have HFS:=hid hf;have HFL:=hid Hi;have HBM:=hid Es;have Mk:=hid Be;have HPL:=hid Qh;clear Cq hP hU hf Hi Es Be Tw hpr Eu hnu Qh hul;have z0:=(Blk.new w 86 [v0,.slice au nu cu,v2,.slice ap np cp]).old (o:=.cells #[.int .i64 x0,.int .i64 x1,.slice am mod.length cm,.slice an name.length cn,e4] 176 (0,0));have z1:=Blk.new (w.alloc (.cells #[v0,.slice au nu cu,v2,.slice ap np cp] 86 (0,0))) 176 [.int .i64 x0,.int .i64 x1,.slice am mod.length cm,.slice an name.length cn,e4];have hgz:(w.alloc (.cells #[v0,.slice au nu cu,v2,.slice ap np cp] 86 (0,0))).heap.size=w.heap.size+1:=by simp
 have y0:w.grownBy ((w.alloc (.cells #[v0,.slice au nu cu,v2,.slice ap np cp] 86 (0,0))).alloc (.cells #[.int .i64 x0,.int .i64 x1,.slice am mod.length cm,.slice an name.length cn,e4] 176 (0,0))) none:=aC (aE w _ none) (aE _ _ none);simp only[List.toArray]at z0 z1;rw[hgz]at z1;clear hgz;simp only[agg];go_enter Tryz.func172,Tryz.ntmps172;go_upto_region 1 with fail;generalize (w.alloc (.cells #[v0,.slice au nu cu,v2,.slice ap np cp] 86 (0,0))).alloc (.cells #[.int .i64 x0,.int .i64 x1,.slice am mod.length cm,.slice an name.length cn,e4] 176 (0,0))=w1 at *;have q2:=z1.k 2;have q3:=z1.k 3;obtain⟨k0,k1,k2,k3⟩:=z0.c4;by_cases Fv:mod=[]
 .
  have HQ:Hid (fE m fs mod name=aM5 m name):=qK Fv;have Qj:mod.length=0:=by rw[Fv];rfl
  rw[Qj]at q2;have H1:=aDu m _ w1 (aL.below HM.out (aA y0)) an name.length cn name (aV.below Mk.out (aA y0));simp only[agg,List.toArray]at H1;cases hi:ix (m.procs.map Pr.name) name with
  | none=>
   have HF:Hid (fE m fs mod name=none):=by show _=_;rw[HQ.out];unfold aM5;rw[hi];rfl
   rw[dF hi]at H1;clear hi Fv;exact QA41
  | some i=>
   obtain⟨q,hq,_⟩:=lT hi;have HF:Hid (fE m fs mod name=some (dR q.params)):=by show _=_;rw[HQ.out];unfold aM5;rw[hi,Option.bind_some,hq];rfl
   have Wk:i<np:=by have:=iG hq;rw[Px.out]at this;exact this
   have hql:=HPL.out q (zA3 hq);rw[cJ hi]at H1;obtain⟨bp,off,ys,rfl,Ky,Ab⟩:=aW.cellsAt HP.out (show(m.procs.map Pr.fl)[i]?=some q.fl by rw[zA2,hq];rfl);have HY:Hid (aL w q.fl ys):=Ky;obtain⟨s0,_,rfl,_,s1,_,rfl,_,s2,_,rfl,_,s3,_,rfl,_,s4,_,rfl,_,rfl⟩:=Ky;have HR:Hid (∀z v,[s0,s1,s2,s3,s4][z]?=some v->w.cell? ⟨bp,off+i*5+z,none⟩=some v):=Ab;clear hi Fv Ab hq;have Td:¬((i:Int)<0):=A0;go_wp2_with fail;refine M975 ?_;intro w2 hg yg;replace z0:=z0.below (aA hg) z0.lt;have k3:=z0.k 3;have r0:=aB (HR.out 0 _ rfl) (aA yg);have r1:=aB (HR.out 1 _ rfl) (aA yg);have r2:=aB (HR.out 2 _ rfl) (aA yg);have r3:=aB (HR.out 3 _ rfl) (aA yg);have r4:=aB (HR.out 4 _ rfl) (aA yg);rw[zG1]at r0;have H2:=zN q _ w2 (aL.below HY.out (aA yg)) hql;simp only[agg,List.toArray]at H2;clear q2 q3 k0 k1 k2 z0 z1 y0 hg H1;go_wp2_with fail;refine H2.mono ?_;rintro e w3 ⟨v,rfl,ho,hb⟩;have yh:=aC yg (aM hb none);have HV:Hid ((Fl.i (dR q.params)).Rd w3 v):=Ob.irow (l:=dR q.params) (by have:(dR q.params).length=q.params.length:=(by simp[dR]);rw[this];exact ho) (qM _);clear H2 ho hb yg r0 r1 r2 r3 r4 k3;go_wp2_with fail;refine zI1 (v:=.tuple #[v,.bool true]) A19 rfl ⟨v,by rw[HF.out];rfl,(fun k hk=>by rw[HF.out]at hk;cases hk;exact HV.out),yh⟩
 .
  have HQ:Hid (fE m fs mod name=(sJ fs mod).bind fun f=>if mod ∈ m.uses then vW f name else none):=qL Fv;have Qj:(mod.length:Int) ≠ 0:=by
   intro e;exact Fv (zE0 A0)
  have hmb:((mod.length:Int) == 0)=false:=by simpa using Qj
  have H1:=pB fs b nf d w1 (aW.below HFS.out (aA y0)) HFL.out am mod.length cm mod (aV.below HBM.out (aA y0));clear Fv;cases hi:ix (fs.map Fa.name) mod with
  | none=>
   have HF:Hid (fE m fs mod name=none):=by show _=_;rw[HQ.out];unfold sJ;rw[hi];rfl
   rw[dF hi]at H1;clear hi;exact QA41
  | some i=>
   obtain⟨f,Yd,_⟩:=lT hi;have hfq:sJ fs mod=some f:=by unfold sJ;rw[hi,Option.bind_some,Yd]
   have Wk:i<nf:=by have:=iG Yd;rw[HFL.out]at this;exact this
   rw[cJ hi]at H1;obtain⟨bf,off,ys,rfl,Ky,Ab⟩:=aW.cellsAt HFS.out (show(fs.map Fa.fl)[i]?=some f.fl by rw[zA2,Yd];rfl);have HY0:=Ky;obtain⟨s0,_,rfl,_,s1,_,rfl,Xu,rfl⟩:=Ky;obtain⟨aq,cq,rfl,hQ⟩:=Xu.list;have hq9:=hQ.len9;rw[zB2]at hq9;rw[zB2]at Ab HY0;obtain⟨nq,Js⟩:=zx (f.procs.length);have HNQ:=hid Js.symm;rw[<-Js]at Ab HY0 hq9;have HY:=hid HY0;have HR0:Hid (w.cell? ⟨bf,off+i*2,none⟩=some s0):=Ab 0 _ rfl;have HR1:Hid (w.cell? ⟨bf,off+i*2+1,none⟩=some (.slice aq nq cq)):=Ab 1 _ rfl;have HLQ:=hid hQ;clear hi Ab Yd hQ Xu HY0 Js;have Td:¬((i:Int)<0):=A0;go_wp2_with fail;refine M975 ?_;intro w2 hg yg;replace z0:=z0.below (aA hg) z0.lt;replace z1:=z1.below (aA hg) z1.lt;clear q2 q3 k0 k1 k2 k3 y0 hg H1;have q2:=z1.k 2;have k1:=z0.k 1;have H2:=aOl m.uses au nu cu w2 (aW.below HU.out (aA yg)) HNU.out am mod.length cm mod (aV.below HBM.out (aA yg));by_cases Ha:mod ∈ m.uses
   .
    rw[zB3 Ha]at H2;have Pv:Hid (fE m fs mod name=vW f name):=by show _=_;rw[HQ.out,hfq,Option.bind_some,if_pos Ha]
    clear Ha hfq;go_wp2_with fail;refine H2.mono ?_;rintro e w3 ⟨rfl,hg⟩;have yh:=aC yg hg;replace z0:=z0.below (aA hg) z0.lt;replace z1:=z1.below (aA hg) z1.lt;clear q2 k1 yg hg H2;have q3:=z1.k 3;go_wp2_with fail;have r0:=aB HR0.out (aA yh);have r1:=aB HR1.out (aA yh);have HS:∀{wl:World},Below w3.heap.size w3 wl->wl.cell? ⟨bf,off+i*2,none⟩=some s0/\wl.cell? ⟨bf,off+i*2+1,none⟩=some (.slice aq nq cq)/\wl.cell? ⟨w.heap.size+1,3,none⟩=some (.slice an name.length cn):=fun hb=>⟨aB r0 hb,aB r1 hb,aB q3 hb⟩;have An:=HS (wl:=w3.drew) (zD2 _ _).drew;have yd:=(aA yh).drew;have H3:=lE f _ w3.drew (aL.below HY.out yd) an name.length cn name (aV.below Mk.out yd);simp only[agg,List.toArray]at H3;refine zJ3 (S:=fun wl=>wl.cell? ⟨bf,off+i*2,none⟩=some s0/\wl.cell? ⟨bf,off+i*2+1,none⟩=some (.slice aq nq cq)/\wl.cell? ⟨w.heap.size+1,3,none⟩=some (.slice an name.length cn)) A1 An (fun Aa=>?_);refine ta 0 ?_;refine ta 1 ?_;refine ta 2 ?_;try simp only[nrm]
    refine ta 3 ?_;refine ta 4 ?_;refine ta 5 ?_;try simp only[nrm]
    refine ra 6 fun K hK=>?_;go_simp
    (with_reducible refine H3.mono ?_)
    rintro e w4 ⟨rfl,Af⟩;have b4:Below w3.heap.size w3 w4:=(zD2 w3.heap.size w3).drew.trans (aA Af);have yi:=aC yh (aM b4 none);have Cn:=HS b4;go_wp2_with fail;refine hK.out _ _ (Cn) (fun Aa=>?_);clear hK K;try simp only[nrm]
    refine ta 7 ?_;try simp only[nrm]
    refine zK0 A1 ?_ _;have rr1:=Cn.2.1;clear HS An Cn Aa H3 r0 r1 q3 yd z0 z1 yh Af b4;cases hj:ix (f.procs.map Fp.name) name with
    | none=>
     have HF:Hid (fE m fs mod name=none):=by show _=_;rw[Pv.out];unfold vW;rw[hj];rfl
     rw[dF hj];clear hj rr1;go_wp2_with fail;refine zI1 (v:=.tuple #[.slice none 0 0,.bool false]) A19 rfl ⟨.slice none 0 0,by rw[HF.out];rfl,(fun k hk=>by rw[HF.out]at hk;cases hk),yi⟩
    | some j=>
     obtain⟨y,hy,_⟩:=lT hj;have HF:Hid (fE m fs mod name=some y.kinds):=by show _=_;rw[Pv.out];unfold vW;rw[hj,Option.bind_some,hy];rfl
     have Qn:j<nq:=by have:=iG hy;rw[HNQ.out]at this;exact this
     obtain⟨bq,off2,ys,rfl,Ky,Ab⟩:=aW.cellsAt HLQ.out (show(f.procs.map Fp.fl)[j]?=some y.fl by rw[zA2,hy];rfl);obtain⟨t0,_,rfl,_,t1,_,rfl,ht1,rfl⟩:=Ky;have HV:=hid (ht1.below (aA yi));have r2:=aB (Ab 1 _ rfl) (aA yi);obtain⟨at1,ct1,rfl,_⟩:=ht1;rw[cJ hj];have hj0:¬((j:Int)<0):=A0;clear hj hy Ab;generalize Dp:y.kinds.length=kl at *;go_wp2_with fail;refine zI1 (v:=.tuple #[.slice at1 kl ct1,.bool true]) A19 rfl ⟨.slice at1 kl ct1,by rw[HF.out];rfl,(fun k hk=>by rw[HF.out]at hk;cases hk;exact HV.out),yi⟩
   .
    rw[zC2 Ha]at H2;have HF:Hid (fE m fs mod name=none):=by show _=_;rw[HQ.out,hfq,Option.bind_some,if_neg Ha]
    clear Ha hfq;go_wp2_with fail;refine H2.mono ?_;rintro e w3 ⟨rfl,hg⟩;have yh:=aC yg hg;clear q2 k1 yg hg H2 z0 z1;go_wp2_with fail;refine zI1 (v:=.tuple #[.slice none 0 0,.bool false]) A19 rfl ⟨.slice none 0 0,by rw[HF.out];rfl,(fun k hk=>by rw[HF.out]at hk;cases hk),yh⟩
def yA (v:Va):Bool:=aN v.name false && inB v.size 0 20
def aRz (a:Pa):Bool:=aN a.name false
def vR (x:List Int):Bool:=aN x false
def sC (x:List Int):Bool:=aN x true
def pZ (q:Pr):Bool:=aN q.name false && decide (q.params.length<=4) && q.params.all aRz && decide (q.locals.length<=8) && q.locals.all vR
def p0:Pr:=⟨[],false,[],[],[]⟩
def gG:List Pr->Nat
 | []=>0| q :: l=>aK q.body+gG l
def pK (l:List Pr)(left:Int):Bool:=(List.range l.length).all fun j=>cI (l[j]?.getD p0).body 1 (left-(gG (l.take j):Int))
def cH (m:Mo):Bool:=aN m.name true && decide (m.uses.length<=6) && m.uses.all sC && decide (m.vars.length<=8) && m.vars.all yA && decide (m.procs.length<=8) && m.procs.all pZ && pK m.procs 250
theorem aDo (l m:List Pr):gG (l++m)=gG l+gG m:=by
 induction l with
 | nil=>simp[gG]| cons x l ih=>simp[gG,ih];omega
theorem aBh {l:List Pr}{j:Nat}{x:Pr}(h:l[j]?=some x):gG (l.take (j+1))=gG (l.take j)+aK x.body:=by
 obtain⟨hk,rfl⟩:=zC1.1 h;rw[zF1 hk,aDo];simp[gG]
section
variable{l:List Int}{vs:List Value}{base g:Nat}{x:Option Nat}{T:TypeId}{v:Value}{w w':World}
def sI (s:ByteArray):List Int:=s.data.toList.map fun b=>(b.toNat:Int)
theorem aKk (s:ByteArray):∀x ∈ sI s,0<=x/\x<=255:=by
 intro x hx;obtain⟨b,_,rfl⟩:=zE1.1 hx;have:=b.toNat_lt;omega
def aMa (o:Option Obj):Prop:=∃cs,o=some (.cells cs 5 (0,0))
structure eD (base:Nat) (x:Option Nat) (w w':World):Prop where
 os:w'.os=w.os
 tape:w'.tape=w.tape
 output:w'.output=w.output
 size:w.heap.size<=w'.heap.size
 block:∀k,k<w.heap.size->(k<base\/¬aMa w.heap[k]?)->some k ≠ x->w'.heap[k]?=w.heap[k]?
theorem eD.refl (base:Nat)(x:Option Nat)(w:World):eD base x w w:=⟨rfl,rfl,rfl,zB0 _,fun _ _ _ _=>rfl⟩
theorem eD.trans {base:Nat}{x:Option Nat}{a b c:World}(h:eD base x a b)(k:eD base x b c):eD base x a c:=
 ⟨k.os.trans h.os,k.tape.trans h.tape,k.output.trans h.output,zF2 h.size k.size,fun i hi ho hx=>by
  have h1:=h.block i hi ho hx;exact(k.block i (Nat.lt_of_lt_of_le hi h.size) (by rw[h1];exact ho) hx).trans h1⟩
theorem eD.of(h:w.grownBy w' none):eD base x w w':=
 ⟨h.os,h.tape,h.output,h.size,fun k hk _ _=>h.block k hk A8⟩
theorem eD.own{n:Nat}(ho:Own w base v n l)(h:w.grownBy w' v.ownBlock):eD base x w w':=by
 refine⟨h.os,h.tape,h.output,h.size,fun k hk hn _=>h.block k hk (fun e=>?_)⟩;rcases ho.1.2 with⟨rfl,_⟩|⟨g,cap,cur,rfl,hg,hh,_⟩
 .
  simp[Value.ownBlock]at e
 .
  simp only[Value.ownBlock,zG2]at e;subst e;rcases hn with hn|hn
  .
   omega
  .
   exact hn ⟨_,hh⟩
theorem eD.below{w0:World}(h:eD base x w w')(hb:Below w0.heap.size w0 w)(h0:w0.heap.size<=base)(hx:∀k,x=some k->w0.heap.size<=k):Below w0.heap.size w0 w':=
 ⟨h.os.trans hb.os,h.tape.trans hb.tape,h.output.trans hb.output,zF2 hb.size h.size,fun k hk=>(h.block k (Nat.lt_of_lt_of_le hk hb.size) (.inl A0) (fun e=>by have:=hx k e.symm;omega)).trans (hb.block k hk)⟩
theorem eD.blk(h:eD base x w w')(hb:Blk w g T vs)(hT:T ≠ 5)(hx:some g ≠ x):Blk w' g T vs:=by
 refine(h.block g hb.lt (.inr ?_) hx).trans hb;rintro⟨cs,e⟩;have:=hb.symm.trans e;simp only[zG2,Obj.cells.injEq]at this;exact hT this.2.1
theorem eD.wide(h:eD base none w w')(x:Option Nat):eD base x w w':=⟨h.os,h.tape,h.output,h.size,fun k hk ho _=>h.block k hk ho A8⟩
theorem eD.mono{Ci:Nat}(h:eD base x w w')(hb:Ci<=base):eD Ci x w w':=
 ⟨h.os,h.tape,h.output,h.size,fun k hk ho hx=>h.block k hk (ho.imp (fun h=>by omega) id) hx⟩
theorem eD.put{i:Nat}:eD base (some g) w (w.setCell ⟨g,i,none⟩ v):=
 ⟨rfl,rfl,rfl,by simp,fun k hk _ Ae=>heap_setCell_other w ⟨g,i,none⟩ k v (fun e=>Ae (by simp at e;rw[e]))⟩
theorem Own.free{n:Nat}(h:Own w base v n l)(hb:Blk w g T vs)(hT:T ≠ 5):v.ownBlock ≠ some g:=by
 intro e;rcases h.1.2 with⟨rfl,_⟩|⟨k,cap,cur,rfl,hg,hh,_⟩
 .
  simp[Value.ownBlock]at e
 .
  simp only[Value.ownBlock,zG2]at e;subst e;have:=hb.symm.trans hh;simp only[zG2,Obj.cells.injEq]at this;exact hT this.2.1
theorem Blk.below_row{row:Option Nat}(h:Blk w g T vs)(hg:w.grownBy w' row)(Ae:row ≠ some g):Blk w' g T vs:=(hg.block g h.lt (fun e=>Ae e.symm)).trans h
def aU0:List (List UInt8):=[[59],[66,69,71,73,78],[84,72,69,78],[69,76,83,69],[68,79]]
def aVs (s:ByteArray):Int:=if s.toList ∈ aU0 then 10 else 32
def aN1 (s:ByteArray):List Int:=sI s++[aVs s]
theorem mK (s:ByteArray):(sI s).length=s.size:=by unfold sI;rw[zB2,Array.length_toList];rfl
end
def nK (n:Int):List Int:=(Lib.itoa n).map fun b=>(b.toNat:Int)
def opI (n:Int):List Int:=if n=0 then [43] else if n=1 then [45] else if n=2 then [42] else if n=3 then [47] else if n=4 then [60] else [61]
def wN (s:List Int):List (List Int)->List Int
 | []=>[]| [x]=>x| x :: y :: l=>x++s++wN s (y :: l)
def aEs (k n:Int)(mod name:List Int)(ts:List (List Int)):List Int:=
 if k=0 then nK n++[32]
 else if k=1 then name++[32]
 else if k=2 then name++[32]++[91,32]++ts[0]?.getD []++[93,32]
 else if k=3 then [40,32]++ts[0]?.getD []++(opI n++[32])++ts[1]?.getD []++[41,32]
 else if k=4 then [73,78,32]
 else if k=5 then [76,69,78,32]++(name++[32])
 else if k=6 then (if mod.length=0 then [] else mod++[32]++[46,32])++(name++[32])++([40,32]++wN [44,32] ts++[41,32])
 else [64,32]++(name++[32])
mutual
def prE:Ex->List Int
 | .mk k n m a ks=>aEs k n m a (aC7 ks)
def aC7:List Ex->List (List Int)
 | []=>[]| e :: l=>prE e :: aC7 l
end
theorem aGn (l:List Ex):aC7 l=l.map prE:=by
 induction l with
 | nil=>rfl| cons x l ih=>simp[aC7,ih]
def aCt (k n:Int)(name:List Int)(ts:List (List Int))(body els:List Int):List Int:=
 if k=0 then name++[32]++[58,61,32]++ts[0]?.getD []++[59,10]
 else if k=1 then name++[32]++[91,32]++ts[0]?.getD []++[93,32]++[58,61,32]++ts[1]?.getD []++[59,10]
 else if k=2 then [73,70,32]++ts[0]?.getD []++[84,72,69,78,10]++body++[69,76,83,69,10]++els++[69,78,68,32]++[59,10]
 else if k=3 then [87,72,73,76,69,32]++ts[0]?.getD []++[68,79,10]++body++[69,78,68,32]++[59,10]
 else if k=4 then [82,69,84,85,82,78,32]++ts[0]?.getD []++[59,10]
 else if k=5 then [79,85,84,32]++ts[0]?.getD []++[59,10]
 else if k=6 then [84,82,65,80,32]++(nK n++[32])++[59,10]
 else [67,65,76,76,32]++ts[0]?.getD []++[59,10]
mutual
def prS:St->List Int
 | .mk k n a ks bs es=>aCt k n a (aC7 ks) (prB bs) (prB es)
def prB:List St->List Int
 | []=>[]| s :: l=>prS s++prB l
end
def aRx (v:Va):List Int:=[86,65,82,32]++(v.name++[32])++(if 0<v.size then [91,32]++(nK v.size++[32])++[93,32] else [])++[59,10]
def aUv (a:Pa):List Int:=(if a.arr then [64,32] else [])++(a.name++[32])
def aKs (x:List Int):List Int:=[86,65,82,32]++(x++[32])++[59,10]
def aRy (x:List Int):List Int:=[73,77,80,79,82,84,32]++(x++[32])++[59,10]
def aN6 (q:Pr):List Int:=[80,82,79,67,32]++(q.name++[32])++(if q.opn then [42,32] else [])++([40,32]++wN [44,32] (q.params.map aUv)++[41,32])++[59,10]++q.locals.flatMap aKs++[66,69,71,73,78,10]++prB q.body++([69,78,68,32]++[59,10])
def prM (m:Mo):List Int:=[77,79,68,85,76,69,32]++(m.name++[32])++[59,10]++m.uses.flatMap aRy++m.vars.flatMap aRx++m.procs.flatMap aN6++[69,78,68,32]++[46,10]
theorem aE1:∀(k u:Nat),u<10 ^ (k+1)->(Lib.decDigits u).length<=k+1:=by
 intro k;induction k with
 | zero=>intro u h;rw[Lib.decDigits,dif_pos A0];simp| succ k ih=>
  intro u h;rw[Lib.decDigits];split
  .
   simp
  .
   have:=ih (u / 10) (by rw[Nat.pow_succ]at h;omega);simp only[zA1,List.length_singleton];omega
theorem lD {n:Int}(h0:-9223372036854775808<=n)(h1:n<=9223372036854775807):(nK n).length<=21:=by
 unfold nK Lib.itoa;rw[zB2];split
 .
  have:=aE1 19 n.natAbs A0;simp only[zB1];omega
 .
  have:=aE1 19 n.toNat A0;omega
def Six (n:Int):Prop:=n=0\/n=1\/n=2\/n=3\/n=4\/n=5
theorem yX {k n:Int}{mod name:List Int}{ks:List Ex}(h:tZ (.mk k n mod name ks)=true):gZ k n mod name ks.length=true/\jO ks=true:=by
 unfold tZ at h;simp only[zC0]at h;exact⟨h.1.1,h.2⟩
theorem aG1 {k n:Int}{mod name:List Int}{nk:Nat}(h:gZ k n mod name nk=true)(hk:eC k=true):aN name false=true:=by
 unfold gZ at h;simp only[zC0]at h;rw[hk]at h;exact h.1.2.2
theorem aR2 {n:Int}{mod name:List Int}{nk:Nat}(h:gZ 3 n mod name nk=true):n=0\/n=1\/n=2\/n=3\/n=4\/n=5:=by
 unfold gZ at h;simp only[zC0]at h;have:=h.1.2.1.1;simp[inB,fV,dK]at this;omega
section
variable{ks:List Ex}{nb:Nat}
theorem qJ{k n:Int}{name:List Int}{bs es:List St}(h:aFr (.mk k n name ks bs es)=true):oK k n name ks bs.length es.length=true/\jO ks=true/\iP bs=true/\iP es=true:=by
 unfold aFr at h;simp only[zC0]at h;exact⟨h.1.1.1,h.1.1.2,h.1.2,h.2⟩
theorem tF{k n:Int}{name:List Int}{ne:Nat}(h:oK k n name ks nb ne=true)(hk:eG k=true):aN name false=true:=by
 unfold oK at h;simp only[zC0]at h;rw[hk]at h;exact h.1.1.1.1.2.2
theorem yK{k n:Int}{name:List Int}{ne:Nat}(h:oK k n name ks nb ne=true):(ks.length:Int)=cD k/\0<=k/\k<=7/\0<=n/\n<=cS k:=by
 unfold oK at h;simp only[zC0]at h;have h1:=h.1.1.1.1.2.1.2;have h2:=h.1.1.1.1.1;have h3:=h.1.1.1.1.2.1.1;simp[inB]at h1 h2 h3;omega
end
theorem QA28{p:Prop}(h:p:=by
 simp only[zA1,zB1,zC3];omega):p:=h
def yF:List (List Int)->Nat
 | []=>0| t :: l=>t.length+yF l
theorem aIy (ts:List (List Int)):(ts[0]?.getD []).length<=yF ts:=by
 cases ts with
 | nil=>simp| cons a l=>simp[yF]
theorem aCr (ts:List (List Int)):(ts[0]?.getD []).length+(ts[1]?.getD []).length<=yF ts:=by
 match ts with
 | []=>simp| [a]=>simp[yF]| a :: b :: l=>simp[yF]
theorem aL2 (s:List Int):∀ts:List (List Int),(wN s ts).length<=yF ts+s.length*ts.length:=by
 intro ts;induction ts with
 | nil=>simp[wN]| cons a l ih=>
  cases l with
  | nil=>simp[wN,yF]| cons b l=>
   simp only[wN,yF,zA1,zB1]at ih ⊢;rw[Nat.mul_add];omega
theorem aK7 (m:List Int):(if m.length=0 then [] else m++[32]++[46,32]:List Int).length<=m.length+3:=by split <;> simp
theorem yV (n:Int):(opI n).length<=1:=by
 unfold opI;split
 .
  simp
 split
 .
  simp
 split
 .
  simp
 split
 .
  simp
 split <;> simp
theorem aEr {k n:Int}{mod name:List Int}{nk:Nat}{ts:List (List Int)}(h:gZ k n mod name nk=true):(aEs k n mod name ts).length<=40+mod.length+name.length+yF ts+2*ts.length:=by
 have h1:=aIy ts;have h2:=aCr ts;have h3:=aL2 [44,32] ts;have h4:=aK7 mod;have h5:=yV n;simp only[zB1,zC3]at h3;unfold aEs;split
 .
  rename_i h0;subst h0;have hb:-9223372036854775808<=n/\n<=9223372036854775807:=by simp[gZ,inB,fV,dK]at h;omega
  have:=lD hb.1 hb.2;exact QA28
 split
 .
  exact QA28
 split
 .
  exact QA28
 split
 .
  exact QA28
 split
 .
  exact QA28
 split
 .
  exact QA28
 split
 .
  simp only[zA1,zB1,zC3]at h4 ⊢;omega
 .
  exact QA28
mutual
theorem aN7:∀x:Ex,tZ x=true->(prE x).length<=40+50*aO x.fl
 | .mk k n m a ks,h=>by
  obtain⟨h1,h2⟩:=yX h;have h3:=vX ks h2;have h4:=aEr (ts:=aC7 ks) h1;have e:aO (Ex.mk k n m a ks).fl=m.length+a.length+((exs ks).length+aG (exs ks)):=by simp[Ex.fl,aO,Fl.len] <;> omega
  have e2:(exs ks).length=ks.length:=by simp[aX]
  have e3:(aC7 ks).length=ks.length:=by simp[aGn]
  rw[e,e2];rw[prE];rw[e3]at h4;omega
theorem vX:∀l:List Ex,jO l=true->yF (aC7 l)<=40*l.length+50*aG (exs l)
 | [],_=>by simp[aC7,yF]
 | x :: l,h=>by
  simp only[jO,zC0]at h;have h1:=aN7 x h.1;have h2:=vX l h.2;simp only[aC7,yF,exs,aG,zB1];omega
end
theorem aCs {k n:Int}{name:List Int}{ks:List Ex}{nb ne:Nat}{ts:List (List Int)}{b e:List Int}(h:oK k n name ks nb ne=true):(aCt k n name ts b e).length<=60+name.length+yF ts+b.length+e.length:=by
 have h1:=aIy ts;have h2:=aCr ts;unfold aCt;split
 .
  exact QA28
 split
 .
  exact QA28
 split
 .
  exact QA28
 split
 .
  exact QA28
 split
 .
  exact QA28
 split
 .
  exact QA28
 split
 .
  rename_i h0;subst h0;have hb:=yK h;simp[cS]at hb;have:=lD (n:=n) A0 A0;exact QA28
 .
  exact QA28
mutual
theorem aN5:∀x:St,aFr x=true->(prS x).length<=60+60*aO x.fl
 | .mk k n a ks bs es,h=>by
  obtain⟨h1,h2,h3,h4⟩:=qJ h;have h5:=vX ks h2;have h6:=aC8 bs h3;have h7:=aC8 es h4;have h8:=aCs (ts:=aC7 ks) (b:=prB bs) (e:=prB es) h1;have e:aO (St.mk k n a ks bs es).fl=a.length+((exs ks).length+aG (exs ks))+((sts bs).length+aG (sts bs))+((sts es).length+aG (sts es)):=by simp[St.fl,aO,Fl.len] <;> omega
  have e2:(exs ks).length=ks.length:=by simp[aX]
  have e3:(sts bs).length=bs.length:=by simp[bA]
  have e4:(sts es).length=es.length:=by simp[bA]
  rw[e,e2,e3,e4,prS];omega
theorem aC8:∀l:List St,iP l=true->(prB l).length<=60*l.length+60*aG (sts l)
 | [],_=>by simp[prB]
 | x :: l,h=>by
  simp only[iP,zC0]at h;have h1:=aN5 x h.1;have h2:=aC8 l h.2;simp only[prB,sts,aG,zB1,zA1];omega
end
def aT2 (m:Mo):Bool:=cH m && decide ((prM m).length<=3000)
theorem aEn {l:List Pr}{left:Int}(h:pK l left=true):∀x ∈ l,iP x.body=true:=by
 intro x hx;obtain⟨j,hj⟩:=List.getElem?_of_mem hx;unfold pK at h;rw[zF3]at h;have:=h j (by have:=(zC1.1 hj).1;simpa using this);rw[hj]at this;unfold cI at this;simp only[zI0,zC0]at this;exact this.1.1
theorem uT {m:Mo}(h:cH m=true):aN m.name true=true/\(∀x ∈ m.uses,sC x=true)/\(∀x ∈ m.vars,yA x=true)/\(∀x ∈ m.procs,pZ x=true/\iP x.body=true):=by
 unfold cH at h;simp only[zC0,zF3]at h;exact⟨h.1.1.1.1.1.1.1,h.1.1.1.1.1.2,h.1.1.1.2,fun x hx=>⟨h.1.2 x hx,aEn h.2 x hx⟩⟩
theorem xD {α:Type}{l:List α}(h:l.length=4):∃a b c d,l=[a,b,c,d]:=by
 match l,h with
 | [a,b,c,d],_=>exact⟨a,b,c,d,rfl⟩
structure aTu (w w':World) (m:Mo) (v:Value):Prop where
 no:aT2 m=false->v=.slice none 0 0
 yes:aT2 m=true->Own w' w.heap.size v (prM m).length (prM m)
 grown:w.grownBy w' none
end Go.Proofs.YtcbhdhmhidpdgaaGreatDoor

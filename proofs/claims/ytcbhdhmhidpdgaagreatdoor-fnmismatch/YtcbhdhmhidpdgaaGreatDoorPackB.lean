import Derived.Test.YtcbhdhmhidpdgaaGreatDoorTree
import Derived.Deep.RegionHeld3
import Derived.Deep.Cut
import Derived.Deep.CutRange
import Derived.Laws.AppendOwnNone
import Derived.Deep.QuietTactic
import Derived.BigQuiet
namespace Go.Proofs.YtcbhdhmhidpdgaaGreatDoor
open Go.RowKit
set_option linter.unusedVariables false
set_option maxRecDepth 100000
set_option maxHeartbeats 2000000
section
theorem A79{p:Prop}(h:p:=by simpa using hg):p:=h
theorem QA97{p:Prop}(h:p:=by
 unfold Fl.Has at h ⊢
 obtain⟨g,e,h1,h2,h3,r⟩:=h
 exact⟨g,e,h1,h2,(hs g h1 h2).trans h3,r⟩):p:=h
theorem QA106{p:Prop}(h:p:=by
 unfold Fl.Has at h ⊢
 obtain⟨g,e,h1,h2,h3,r⟩:=h
 exact⟨g,e,by omega,by omega,h3,r⟩):p:=h
variable{f:Fl}{r:List Fl}{us:List Value}{g hi hi' lo lo':Nat}{v:Value}{w w':World}
theorem rX{base:Nat}{l:List Int}(hg:w.heap[g]?=some (.cells (l.map (Value.int .i64)).toArray 3 (0,0)))(hb:base<=g)(hm:l.length<=maxLen)(Bv:∀x ∈ l, -9223372036854775808<=x/\x<=9223372036854775807):
  aFq w (some ⟨g,0,none⟩) l.length l:=by
 refine⟨rfl,Bv,fun hn=>⟨g,0,rfl,fun i hi=>?_⟩⟩;rw[zJ0,cell_of_row w g i _ _ (0,0) hg];simp[hi]
mutual
def Fl.Has (w:World):Nat->Nat->Fl->Value->Prop
 | lo,hi,.b l,v=>∃g,v=.slice (some ⟨g,0,none⟩) l.length l.length/\lo<=g/\g<hi/\w.heap[g]?=some (.cells (l.map (Value.int .u8)).toArray 5 (0,0))/\(∀x ∈ l,0<=x/\x<=255)/\l.length<=maxLen| lo,hi,.i l,v=>∃g,v=.slice (some ⟨g,0,none⟩) l.length l.length/\lo<=g/\g<hi/\w.heap[g]?=some (.cells (l.map (Value.int .i64)).toArray 3 (0,0))/\(∀x ∈ l, -9223372036854775808<=x/\x<=9223372036854775807)/\l.length<=maxLen| lo,hi,.n x,v=>v=.int .i64 x| lo,hi,.t x,v=>v=.bool x| lo,hi,.l k rs,v=>∃g vs T,v=.slice (some ⟨g,0,none⟩) rs.length rs.length/\lo<=g/\g<hi/\w.heap[g]?=some (.cells (List.toArray vs) T (0,0))/\rs.length<=maxLen/\bE w k (g+1) hi rs vs
def bQ (w:World):Nat->Nat->List Fl->List Value->Prop
 | lo,hi,[],us=>us=[]| lo,hi,f :: r,us=>∃u us' mid,us=u :: us'/\lo<=mid/\mid<=hi/\Fl.Has w lo mid f u/\bQ w mid hi r us'
def bE (w:World)(k:Nat):Nat->Nat->List (List Fl)->List Value->Prop
 | lo,hi,[],vs=>vs=[]| lo,hi,r :: rs,vs=>∃us vs' mid,vs=us++vs'/\us.length=k/\lo<=mid/\mid<=hi/\bQ w lo mid r us/\bE w k mid hi rs vs'
end
def eY (lo hi:Nat)(w w':World):Prop:=∀g,lo<=g->g<hi->w'.heap[g]?=w.heap[g]?
theorem eY.mono(h:eY lo hi w w')(h1:lo<=lo')(h2:hi'<=hi):eY lo' hi' w w':=fun g a b=>h g A0 A0
theorem eY.of(h:Below w.heap.size w w')(hh:hi<=w.heap.size):eY lo hi w w':=fun g _ b=>h.block g A0
theorem eY.put{k i:Nat}(h:k<lo\/hi<=k):eY lo hi w (w.setCell ⟨k,i,none⟩ v):=
 fun g a b=>heap_setCell_other w ⟨k,i,none⟩ g v A10
theorem eY.trans {lo hi:Nat}{a b c:World}(h:eY lo hi a b)(k:eY lo hi b c):eY lo hi a c:=fun g x y=>(k g x y).trans (h g x y)
mutual
theorem Fl.Has.stays' {w w':World}:∀(f:Fl) (lo hi:Nat) (v:Value),eY lo hi w w'->f.Has w lo hi v->f.Has w' lo hi v
 | .b l,lo,hi,v,hs,h=>by
  exact QA97
 | .i l,lo,hi,v,hs,h=>by
  exact QA97
 | .n x,lo,hi,v,hs,h=>by unfold Fl.Has at h ⊢;exact h
 | .t x,lo,hi,v,hs,h=>by unfold Fl.Has at h ⊢;exact h
 | .l k rs,lo,hi,v,hs,h=>by
  unfold Fl.Has at h ⊢;obtain⟨g,vs,T,e,h1,h2,h3,h4,h5⟩:=h;exact⟨g,vs,T,e,h1,h2,(hs g h1 h2).trans h3,h4,bE.stays' k rs (g+1) hi vs (hs.mono A0 (zB0 _)) h5⟩
theorem bQ.stays' {w w':World}:∀(r:List Fl) (lo hi:Nat) (us:List Value),eY lo hi w w'->bQ w lo hi r us->bQ w' lo hi r us
 | [],lo,hi,us,hs,h=>by unfold bQ at h ⊢;exact h
 | f :: r,lo,hi,us,hs,h=>by
  unfold bQ at h ⊢;obtain⟨u,us',mid,e,h1,h2,h3,h4⟩:=h;exact⟨u,us',mid,e,h1,h2,Fl.Has.stays' f lo mid u (hs.mono (zB0 _) h2) h3,bQ.stays' r mid hi us' (hs.mono h1 (zB0 _)) h4⟩
theorem bE.stays' {w w':World}(k:Nat):∀(rs:List (List Fl)) (lo hi:Nat) (vs:List Value),eY lo hi w w'->bE w k lo hi rs vs->bE w' k lo hi rs vs
 | [],lo,hi,vs,hs,h=>by unfold bE at h ⊢;exact h
 | r :: rs,lo,hi,vs,hs,h=>by
  unfold bE at h ⊢;obtain⟨us,vs',mid,e,hl,h1,h2,h3,h4⟩:=h;exact⟨us,vs',mid,e,hl,h1,h2,bQ.stays' r lo mid us (hs.mono (zB0 _) h2) h3,bE.stays' k rs mid hi vs' (hs.mono h1 (zB0 _)) h4⟩
end
theorem Fl.Has.stays(h:f.Has w lo hi v)(hs:eY lo hi w w'):f.Has w' lo hi v:=Fl.Has.stays' f lo hi v hs h
theorem bQ.stays(h:bQ w lo hi r us)(hs:eY lo hi w w'):bQ w' lo hi r us:=bQ.stays' r lo hi us hs h
theorem bE.stays{k:Nat}{rs:List (List Fl)}{lo hi:Nat}{vs:List Value}(h:bE w k lo hi rs vs)(hs:eY lo hi w w'):bE w' k lo hi rs vs:=bE.stays' k rs lo hi vs hs h
mutual
theorem Fl.Has.wide' {w:World}:∀(f:Fl) (lo hi lo' hi':Nat) (v:Value),lo'<=lo->hi<=hi'->f.Has w lo hi v->f.Has w lo' hi' v
 | .b l,lo,hi,lo',hi',v,a,b,h=>by
  exact QA106
 | .i l,lo,hi,lo',hi',v,a,b,h=>by
  exact QA106
 | .n x,lo,hi,lo',hi',v,a,b,h=>by unfold Fl.Has at h ⊢;exact h
 | .t x,lo,hi,lo',hi',v,a,b,h=>by unfold Fl.Has at h ⊢;exact h
 | .l k rs,lo,hi,lo',hi',v,a,b,h=>by
  unfold Fl.Has at h ⊢;obtain⟨g,vs,T,e,h1,h2,h3,h4,h5⟩:=h;exact⟨g,vs,T,e,by omega,by omega,h3,h4,bE.wide' k rs (g+1) hi (g+1) hi' vs (zB0 _) b h5⟩
theorem bQ.wide' {w:World}:∀(r:List Fl) (lo hi lo' hi':Nat) (us:List Value),lo'<=lo->hi<=hi'->bQ w lo hi r us->bQ w lo' hi' r us
 | [],lo,hi,lo',hi',us,a,b,h=>by unfold bQ at h ⊢;exact h
 | f :: r,lo,hi,lo',hi',us,a,b,h=>by
  unfold bQ at h ⊢;obtain⟨u,us',mid,e,h1,h2,h3,h4⟩:=h;exact⟨u,us',mid,e,by omega,by omega,Fl.Has.wide' f lo mid lo' mid u a (zB0 _) h3,bQ.wide' r mid hi mid hi' us' (zB0 _) b h4⟩
theorem bE.wide' {w:World}(k:Nat):∀(rs:List (List Fl)) (lo hi lo' hi':Nat) (vs:List Value),lo'<=lo->hi<=hi'->bE w k lo hi rs vs->bE w k lo' hi' rs vs
 | [],lo,hi,lo',hi',vs,a,b,h=>by unfold bE at h ⊢;exact h
 | r :: rs,lo,hi,lo',hi',vs,a,b,h=>by
  unfold bE at h ⊢;obtain⟨us,vs',mid,e,hl,h1,h2,h3,h4⟩:=h;exact⟨us,vs',mid,e,hl,by omega,by omega,bQ.wide' r lo mid lo' mid us a (zB0 _) h3,bE.wide' k rs mid hi mid hi' vs' (zB0 _) b h4⟩
end
theorem Fl.Has.wide(h:f.Has w lo hi v)(a:lo'<=lo)(b:hi<=hi'):f.Has w lo' hi' v:=Fl.Has.wide' f lo hi lo' hi' v a b h
theorem bQ.wide(h:bQ w lo hi r us)(a:lo'<=lo)(b:hi<=hi'):bQ w lo' hi' r us:=bQ.wide' r lo hi lo' hi' us a b h
theorem bE.wide{k:Nat}{rs:List (List Fl)}{lo hi lo' hi':Nat}{vs:List Value}(h:bE w k lo hi rs vs)(a:lo'<=lo)(b:hi<=hi'):bE w k lo' hi' rs vs:=bE.wide' k rs lo hi lo' hi' vs a b h
theorem bE.len{k:Nat}:∀{rs:List (List Fl)} {lo hi:Nat} {vs:List Value},bE w k lo hi rs vs->vs.length=rs.length*k:=by
 intro rs;induction rs with
 | nil=>intro lo hi vs h;unfold bE at h;subst h;simp| cons r rs ih=>
  intro lo hi vs h;unfold bE at h;obtain⟨us,vs',mid,rfl,hl,_,_,_,h4⟩:=h;rw[zA1,hl,ih h4,zB1,Nat.add_mul];omega
theorem bE.snoc{k:Nat}:∀{rs:List (List Fl)} {lo mid hi:Nat} {vs us:List Value} {r:List Fl},bE w k lo mid rs vs->bQ w mid hi r us->us.length=k->lo<=mid->mid<=hi->bE w k lo hi (rs++[r]) (vs++us):=by
 intro rs;induction rs with
 | nil=>
  intro lo mid hi vs us r h h2 hl a b;unfold bE at h;subst h;rw[List.nil_append,List.nil_append];unfold bE;refine⟨us,[],hi,by simp,hl,by omega,zB0 _,h2.wide a (zB0 _), ?_⟩;unfold bE;rfl
 | cons x rs ih=>
  intro lo mid hi vs us r h h2 hl a b;unfold bE at h;obtain⟨us0,vs',m,rfl,Gh,h1,h3,h4,h5⟩:=h;have:=ih h5 h2 hl A0 b;rw[List.cons_append,zD0];unfold bE;exact⟨us0,vs'++us,m,rfl,Gh,h1,by omega,h4,this⟩
theorem aIh{T:TypeId}{pre:List Value}{u:Value}(h:w.heap[g]?=some (.cells (pre++u :: us).toArray T (0,0))):w.cell? ⟨g,pre.length,none⟩=some u:=by
 rw[cell_of_row w g pre.length _ T (0,0) h];simp
mutual
theorem Fl.Has.rd' {w:World}:∀(f:Fl) (lo hi:Nat) (v:Value),f.Has w lo hi v->f.Rd w v
 | .b l,lo,hi,v,h=>by
  unfold Fl.Has at h;obtain⟨g,rfl,h1,h2,h3,h4,h5⟩:=h;exact⟨_,_,rfl,(iF h3 (zD1 _) h5 h4).row,zB0 _,h5,by simp⟩
 | .i l,lo,hi,v,h=>by
  unfold Fl.Has at h;obtain⟨g,rfl,h1,h2,h3,h4,h5⟩:=h;exact⟨_,_,rfl,(rX h3 (zD1 _) h5 h4),zB0 _,h5,by simp⟩
 | .n x,lo,hi,v,h=>by unfold Fl.Has at h;exact h
 | .t x,lo,hi,v,h=>by unfold Fl.Has at h;exact h
 | .l k rs,lo,hi,v,h=>by
  unfold Fl.Has at h;obtain⟨g,vs,T,rfl,h1,h2,h3,h4,h5⟩:=h;exact⟨_,_,rfl,zB0 _,h4,by simp,fun _=>⟨g,0,rfl,bE.rd' k g T rs (g+1) hi [] vs [] (by simpa using h3) h5⟩⟩
theorem bQ.rd' {w:World}(g:Nat)(T:TypeId):∀(r:List Fl) (lo hi:Nat) (pre us post:List Value),w.heap[g]?=some (.cells (pre++us++post).toArray T (0,0))->bQ w lo hi r us->jK w g pre.length r
 | [],lo,hi,pre,us,post,hg,h=>trivial| f :: r,lo,hi,pre,us,post,hg,h=>by
  unfold bQ at h;obtain⟨u,us',mid,rfl,h1,h2,h3,h4⟩:=h;have e:pre++u :: us'++post=pre++u :: (us'++post):=by simp
  refine⟨⟨u,aIh (e ▸ hg),Fl.Has.rd' f lo mid u h3⟩, ?_⟩;have:=bQ.rd' g T r mid hi (pre++[u]) us' post A79 h4;simpa using this
theorem bE.rd' {w:World}(k g:Nat)(T:TypeId):∀(rs:List (List Fl)) (lo hi:Nat) (pre vs post:List Value),w.heap[g]?=some (.cells (pre++vs++post).toArray T (0,0))->bE w k lo hi rs vs->dD w g k pre.length rs
 | [],lo,hi,pre,vs,post,hg,h=>trivial| r :: rs,lo,hi,pre,vs,post,hg,h=>by
  unfold bE at h;obtain⟨us,vs',mid,rfl,hl,h1,h2,h3,h4⟩:=h;refine⟨bQ.rd' g T r lo mid pre us (vs'++post) A79 h3, ?_⟩;have:=bE.rd' k g T rs mid hi (pre++us) vs' post A79 h4;rw[zA1,hl]at this;exact this
end
theorem Fl.Has.rd(h:f.Has w lo hi v):f.Rd w v:=Fl.Has.rd' f lo hi v h
theorem bQ.vals:∀{r:List Fl} {lo hi:Nat} {us:List Value},bQ w lo hi r us->aL w r us:=by
 intro r;induction r with
 | nil=>intro lo hi us h;unfold bQ at h;exact h| cons f r ih=>
  intro lo hi us h;unfold bQ at h;obtain⟨u,us',mid,e,h1,h2,h3,h4⟩:=h;exact⟨u,us',e,h3.rd,ih h4⟩
end
section
variable{f:Fl}{r:List Fl}{A Z cur l us vs:List Value}{g:Nat}{T TA TR:TypeId}{u v0 v1 v2 v3 v4:Value}{W w:World}
def ToV (w:World)(F:Nat)(f:Fl)(v:Value):Prop:=
 ∀w1:World,Below w.heap.size w w1->Calls Tryz.prog F #[v] w1 fun e w'=>∃g n,e=.returned (.slice (some ⟨g,0,none⟩) n n)/\f.Has w' w1.heap.size w'.heap.size (.slice (some ⟨g,0,none⟩) n n)/\Below w1.heap.size w1 w'
def Blk (w:World)(g:Nat)(T:TypeId)(vs:List Value):Prop:=w.heap[g]?=some (.cells vs.toArray T (0,0))
theorem Blk.cell {w:World}{g i:Nat}{T:TypeId}{vs:List Value}{v:Value}(h:Blk w g T vs)(hi:vs[i]?=some v):w.cell? ⟨g,i,none⟩=some v:=by
 rw[cell_of_row w g i _ T (0,0) h];simpa using hi
theorem Blk.k(h:Blk w g T vs)(i:Nat){u:Value}(hu:vs[i]?=some u:=by rfl):w.cell? ⟨g,i,none⟩=some u:=h.cell hu
theorem Blk.c2(h:Blk w g T (v0 :: v1 :: l)):w.cell? ⟨g,0,none⟩=some v0/\w.cell? ⟨g,1,none⟩=some v1:=⟨h.k 0,h.k 1⟩
theorem Blk.c3(h:Blk w g T (v0 :: v1 :: v2 :: l)):w.cell? ⟨g,0,none⟩=some v0/\w.cell? ⟨g,1,none⟩=some v1/\w.cell? ⟨g,2,none⟩=some v2:=⟨h.k 0,h.k 1,h.k 2⟩
theorem Blk.c4(h:Blk w g T (v0 :: v1 :: v2 :: v3 :: l)):w.cell? ⟨g,0,none⟩=some v0/\w.cell? ⟨g,1,none⟩=some v1/\w.cell? ⟨g,2,none⟩=some v2/\w.cell? ⟨g,3,none⟩=some v3:=⟨h.k 0,h.k 1,h.k 2,h.k 3⟩
theorem Blk.c5(h:Blk w g T (v0 :: v1 :: v2 :: v3 :: v4 :: l)):w.cell? ⟨g,0,none⟩=some v0/\w.cell? ⟨g,1,none⟩=some v1/\w.cell? ⟨g,2,none⟩=some v2/\w.cell? ⟨g,3,none⟩=some v3/\w.cell? ⟨g,4,none⟩=some v4:=⟨h.k 0,h.k 1,h.k 2,h.k 3,h.k 4⟩
theorem Blk.c6{v5:Value}(h:Blk w g T (v0 :: v1 :: v2 :: v3 :: v4 :: v5 :: l)):w.cell? ⟨g,0,none⟩=some v0/\w.cell? ⟨g,1,none⟩=some v1/\w.cell? ⟨g,2,none⟩=some v2/\w.cell? ⟨g,3,none⟩=some v3/\w.cell? ⟨g,4,none⟩=some v4/\w.cell? ⟨g,5,none⟩=some v5:=⟨h.k 0,h.k 1,h.k 2,h.k 3,h.k 4,h.k 5⟩
theorem Blk.free(h:Blk w g T vs)(i:Nat):w.frozen? ⟨g,i,none⟩=false:=frozen_of_row w g i _ _ h
theorem Blk.below{w':World}{B:Nat}(h:Blk w g T vs)(hb:Below B w w')(hg:g<B):Blk w' g T vs:=(hb.block g hg).trans h
theorem Blk.lt(h:Blk w g T vs):g<w.heap.size:=(zI3.1 h).1
theorem Blk.new (w:World)(T:TypeId)(vs:List Value):Blk (w.alloc (.cells vs.toArray T (0,0))) w.heap.size T vs:=heap_alloc_new w _
theorem Blk.old{o:Obj}(h:Blk w g T vs):Blk (w.alloc o) g T vs:=
 ((((zD2 w.heap.size w).alloc (zB0 _) o).block g (zI3.1 h).1)).trans h
theorem Blk.other{k i:Nat}{v:Value}(h:Blk w g T vs)(Ae:g ≠ k):Blk (w.setCell ⟨k,i,none⟩ v) g T vs:=(heap_setCell_other w ⟨k,i,none⟩ g v Ae).trans h
theorem Blk.set {w:World}{g i:Nat}{T:TypeId}{vs:List Value}(h:Blk w g T vs)(v:Value):Blk (w.setCell ⟨g,i,none⟩ v) g T (vs.set i v):=by
 unfold Blk;rw[heap_setCell_same w g i _ _ _ h];simp
theorem bQ.snoc:∀{r:List Fl} {lo mid hi:Nat} {us:List Value},bQ w lo mid r us->Fl.Has w mid hi f u->lo<=mid->mid<=hi->bQ w lo hi (r++[f]) (us++[u]):=by
 intro r;induction r with
 | nil=>
  intro lo mid hi us h h2 a b;unfold bQ at h;subst h;rw[List.nil_append,List.nil_append];unfold bQ;refine⟨u,[],hi,rfl,by omega,zB0 _,h2.wide a (zB0 _), ?_⟩;unfold bQ;rfl
 | cons x r ih=>
  intro lo mid hi us h h2 a b;unfold bQ at h;obtain⟨u0,us',m,rfl,h1,h3,h4,h5⟩:=h;have:=ih h5 h2 A0 b;rw[List.cons_append,List.cons_append];unfold bQ;exact⟨u0,us'++[u],m,rfl,h1,by omega,h4,this⟩
structure TS (w W:World) (TA TR:TypeId) (A Z cur:List Value) (r:List Fl) (us:List Value):Prop where
 a:Blk W w.heap.size TA A
 z:Blk W (w.heap.size+1) TR Z
 o:Blk W (w.heap.size+1+1) TR cur
 y:Below w.heap.size w W
 s:w.heap.size+3<=W.heap.size
 h:bQ W (w.heap.size+3) W.heap.size r us
theorem TS.start (w:World)(TA TR:TypeId)(A Z:List Value):TS w (((w.alloc (.cells A.toArray TA (0,0))).alloc (.cells Z.toArray TR (0,0))).alloc (.cells Z.toArray TR (0,0))) TA TR A Z Z [] []:=by
 have y1:Below w.heap.size w (w.alloc (.cells A.toArray TA (0,0))):=(zD2 _ _).alloc (zB0 _) _;have y2:=y1.alloc y1.size (.cells Z.toArray TR (0,0));have y3:=y2.alloc y2.size (.cells Z.toArray TR (0,0));refine⟨(Blk.new w TA A).old.old, ?_, ?_,y3,by simp,by unfold bQ;rfl⟩
 .
  have:=(Blk.new (w.alloc (.cells A.toArray TA (0,0))) TR Z).old (o:=.cells Z.toArray TR (0,0));simpa using this
 .
  have:=Blk.new ((w.alloc (.cells A.toArray TA (0,0))).alloc (.cells Z.toArray TR (0,0))) TR Z;simpa using this
theorem TS.call{W1:World}(t:TS w W TA TR A Z cur r us)(h:f.Has W1 W.heap.size W1.heap.size u)(hb:Below W.heap.size W W1):
  TS w W1 TA TR A Z cur (r++[f]) (us++[u]):=
 ⟨t.a.below hb t.a.lt,t.z.below hb t.z.lt,t.o.below hb t.o.lt,t.y.trans (hb.mono t.y.size),zF2 t.s hb.size,
  (t.h.stays (eY.of hb (zB0 _))).snoc h t.s hb.size⟩
theorem TS.put {w W:World}{TA TR:TypeId}{A Z cur:List Value}{r:List Fl}{us:List Value}(t:TS w W TA TR A Z cur r us)(i:Nat)(v:Value):
  TS w (W.setCell ⟨w.heap.size+1+1,i,none⟩ v) TA TR A Z (cur.set i v) r us:=by
 have e:(W.setCell ⟨w.heap.size+1+1,i,none⟩ v).heap.size=W.heap.size:=by simp
 refine⟨t.a.other A0,t.z.other A0,t.o.set v,t.y.setCell A10 v,by rw[e];exact t.s, ?_⟩;rw[e];exact t.h.stays (eY.put (.inl A0))
theorem TS.plain(t:TS w W TA TR A Z cur r us)(i:Nat)(f:Fl)(v:Value)(hf:∀W lo hi,f.Has W lo hi v):
  TS w (W.setCell ⟨w.heap.size+1+1,i,none⟩ v) TA TR A Z (cur.set i v) (r++[f]) (us++[v]):=by
 have t':=t.put i v;exact⟨t'.a,t'.z,t'.o,t'.y,t'.s,t'.h.snoc (hf _ _ _) t'.s (zB0 _)⟩
def setAll (W:World)(g:Nat):Nat->List Value->World
 | _,[]=>W| i,v :: l=>setAll (W.setCell ⟨g,i,none⟩ v) g (i+1) l
theorem vS (g:Nat):∀(l:List Value) (W:World) (i:Nat),(setAll W g i l).heap.size=W.heap.size:=by
 intro l;induction l with
 | nil=>intro W i;rfl| cons v l ih=>intro W i;rw[setAll,ih];simp
end
theorem A6{p:Prop}(h:p:=by decide):p:=h
theorem A11{p:Prop}(h:p:=by unfold maxLen;omega):p:=h
theorem QA24{p:Prop}(h:p:=by
 intro j u hu
 have hp:0<(l2.map (Value.int .u8)).length:=Nat.lt_of_le_of_lt (zD1 j) (zC1.1 hu).1
 obtain⟨ad',e,hc⟩:=hr.pos hp
 cases e
 exact hc j u hu):p:=h
theorem QA72{p:Prop}(h:p:=by
 intro v' w' ho' hg' _
 exact h v' w' ⟨by simpa using ho',Bv⟩ hg'):p:=h
theorem M955{p q:Prop}(k:q)(h:Kx q->p:=by
 intro kQ
 obtain⟨i0,hi,Dd,Db,Cz⟩:=info_parts uI
 have Bv:∀x ∈ l++l2,0<=x/\x<=255:=fun x hx=>(List.mem_append.1 hx).elim (Aj.2 x) (hr.2.1 x)
 revert Bv;revert Cz;revert Db;revert Dd;revert hi;revert i0
 exact kQ.o):p:=h ⟨k⟩
theorem cC {w:World}{ops:Array Oper}{rest:List Oper}{o:Oper}{a:Act}{Q:Exit->Act->World->Prop}(Le:o.guard=none)(s x:Operand)
  (ho:o.op=.call { callee:=.builtin .append,args:=#[s,x],argTypes:=#[22,22] })
  (base:Nat) (v:Value) (n:Nat) (l:List Int) (hs:a.eval s=v) (Aj:Own w base v n l)
  (ao:Option Addr) (m c:Nat) (l2:List Int) (hx:a.eval x=.slice ao m c) (hr:aV w ao m l2) (Ek:ao=none->c=0)
  (Bg:n+m<=1099511627776) (Bw:base<=w.heap.size)
  (h:∀v' w',Own w' base v' (n+m) (l++l2)->w.grownBy w' v.ownBlock->wpList Tryz.prog ops Q rest (a.put o.dst v') w'):wpList Tryz.prog ops Q (o :: rest) a w:=by
 refine M955 ?_;intro i0 hi Dd Db Cz Bv;cases ao with
 | none=>
  obtain rfl:=Ek rfl;have hm:m=0:=by
   rcases zG0 m with h0|hp
   .
    exact h0
   .
    obtain⟨b,off,e,_⟩:=hr.2.2 hp;cases e
  subst hm;obtain rfl:l2=[]:=zE0 hr.1;refine wpList_append_own_none Le s x 22 ho base 5 i0 1 Tryz.underlying22 hi v n _ hs Aj.1 hx ?_;exact h v w (by simpa using Aj) (World.grownBy.refl _ _)
 | some ad=>
  refine wpList_append_own w Le s x 22 ho base 5 i0 (.int .u8 0) 1 1 Tryz.underlying22 hi Dd Db Cz rfl A6 v n _ hs Aj.1 ad m c (l2.map (Value.int .u8)) hx (by simp[hr.1]) ?_ (ints_oneCell _ _) A11 A0 Bw ?_
  .
   exact QA24
  .
   exact QA72
theorem oO (w:World)(x:Int)(h0:0<=x)(h1:x<=255):aV (w.alloc (.cells #[.int .u8 x] 5)) (some ⟨w.heap.size,0,none⟩) 1 [x]:=by
 refine⟨rfl,by simp;omega,fun _=>⟨w.heap.size,0,rfl,fun i hi=>?_⟩⟩;obtain rfl:i=0:=A0;simp
theorem lP (w:World):Own (w.alloc (.cells #[] 5)) w.heap.size (.slice (some ⟨w.heap.size,0,none⟩) 0 0) 0 []:=
 ⟨World.ownsRow_made w #[] 0 (zB0 _) A11 rfl,by simp⟩
theorem gV (w:World):Below w.heap.size w (w.alloc (.cells #[] 5)):=(zD2 _ _).alloc (zB0 _) _
theorem Own.alloc {w:World}{base:Nat}{v:Value}{n:Nat}{l:List Int}(h:Own w base v n l)(o:Obj):Own (w.alloc o) base v n l:=⟨h.1.alloc o,h.2⟩
theorem Own.grown {w w' wx:World}{base:Nat}{v:Value}{n:Nat}{l:List Int}(h:Own w base v n l)(hg:w.grownBy w' v.ownBlock)(hb:Below base wx w)(hB:base<=w.heap.size):Below base wx w':=
 hb.grown hg hB (fun k hk=>(h.1.lt k hk).1)
theorem QA75{p:Prop}(h:p:=by
 go_wp2
 go_ret
 refine⟨_,rfl, ?_,fun _=>?_,fun h=>absurd h A0,hd'⟩
 .
  exact Int.emod_nonneg _ A0
 .
  exact Int.emod_lt_of_pos _ A0):p:=h
theorem QA126{p:Prop}(h:p:=by
 rw[BitVec.toNat_and,BitVec.toNat_ofInt,hm,Nat.and_two_pow_sub_one_eq_mod]):p:=h
theorem aP9 (n:Int):bits .and .i64 n 255=n % 256:=by
 have hm:(BitVec.ofInt 64 255).toNat=2 ^ 8-1:=by decide
 have Cc:(BitVec.ofInt 64 n &&& BitVec.ofInt 64 255).toNat=(n % ((2 ^ 64:Nat):Int)).toNat % 2 ^ 8:=by
  exact QA126
 show IntKind.i64.wrap ((BitVec.ofInt 64 n &&& BitVec.ofInt 64 255).toNat:Nat)=n % 256
 rw[Cc,IntKind.wrap_i64];omega
theorem aTt (n:Int):bits .and .i64 n 1073741823=n % 1073741824:=by
 have hm:(BitVec.ofInt 64 1073741823).toNat=2 ^ 30-1:=by decide
 have Cc:(BitVec.ofInt 64 n &&& BitVec.ofInt 64 1073741823).toNat=(n % ((2 ^ 64:Nat):Int)).toNat % 2 ^ 30:=by
  exact QA126
 show IntKind.i64.wrap ((BitVec.ofInt 64 n &&& BitVec.ofInt 64 1073741823).toNat:Nat)=n % 1073741824
 rw[Cc,IntKind.wrap_i64];omega
def Cur (w:World)(g:Nat):Prop:=
 ∃(a:Option Addr) (n c:Nat) (l:List Int) (i h:Int),w.heap[g]?=some (.cells #[.slice a n c,.int .i64 i,.int .i64 h] 76 (0,0))/\0<=i/\i<=n/\n<=9223372036854775807 ∧
  l.length=n/\(∀x ∈ l,0<=x/\x<=255)/\(0<n->∃b off,a=some ⟨b,off,none⟩/\b<g/\∀j,j<n->w.cell? ⟨b,off+j,none⟩=some (.int .u8 (l[j]?.getD 0)))
set_option maxRecDepth 100000 in
theorem vE (g:Nat)(w:World)(h:Cur w g):
  Calls Tryz.prog 61 #[.pointer (some ⟨g,0,none⟩)] w fun e w'=>∃x:Int,e=.returned (.int .i64 x)/\0<=x/\x<=255/\Cur w' g/\w.grownBy w' (some g):=by
 obtain⟨a,n,c,l,i,h,hg,Td,hi1,hn,hl,Bv,hc⟩:=h;have c0:w.cell? ⟨g,0,none⟩=some (.slice a n c):=by rw[cell_of_row w g 0 _ _ (0,0) hg];rfl
 have c1:w.cell? ⟨g,1,none⟩=some (.int .i64 i):=by rw[cell_of_row w g 1 _ _ (0,0) hg];rfl
 have c2:w.cell? ⟨g,2,none⟩=some (.int .i64 h):=by rw[cell_of_row w g 2 _ _ (0,0) hg];rfl
 have f2:w.frozen? ⟨g,2,none⟩=false:=frozen_of_row w g 2 _ _ hg;have HG:=hid hg;clear hg;have ha255:=aP9;go_enter Tryz.func61,Tryz.ntmps61;go_wp2_with fail;generalize wrap64 (wrap64 (h*6364136223846793005)+1442695040888963407)=h1;generalize wrap64 (h*6364136223846793005)=h2;obtain⟨w1,Hn⟩:=zx (w.setCell ⟨g,2,none⟩ (.int .i64 h1));rw[<-Hn];have hg1:w1.heap[g]?=some (.cells #[.slice a n c,.int .i64 i,.int .i64 h1] 76 (0,0)):=by
  rw[Hn,heap_setCell_same w g 2 _ _ _ HG.out];rfl
 have Al:w.grownBy w1 (some g):=by
  rw[Hn];exact⟨rfl,rfl,rfl,by simp,fun k _ hk=>heap_setCell_other w ⟨g,2,none⟩ k _ (fun e=>hk (by simp[e]))⟩
 have Gk:0<n->∃b off,a=some ⟨b,off,none⟩/\b<g/\∀j,j<n->w1.cell? ⟨b,off+j,none⟩=some (.int .u8 (l[j]?.getD 0)):=by
  intro hp;obtain⟨b,off,e,hb,Hk⟩:=hc hp;exact⟨b,off,e,hb,fun j hj=>Al.cell (Hk j hj) A10⟩
 have d0:w1.cell? ⟨g,0,none⟩=some (.slice a n c):=by rw[cell_of_row w1 g 0 _ _ (0,0) hg1];rfl
 have d1:w1.cell? ⟨g,1,none⟩=some (.int .i64 i):=by rw[cell_of_row w1 g 1 _ _ (0,0) hg1];rfl
 have d2:w1.cell? ⟨g,2,none⟩=some (.int .i64 h1):=by rw[cell_of_row w1 g 2 _ _ (0,0) hg1];rfl
 have k1:w1.frozen? ⟨g,1,none⟩=false:=frozen_of_row w1 g 1 _ _ hg1;have HC:=hid Gk;have Wz:=hid hg1;have HR:=hid Al;have HLL:=hid hl;clear hc c0 c1 c2 f2 HG Hn Gk hg1 Al hl;obtain⟨k,rfl⟩:=Int.eq_ofNat_of_zero_le Td;have Fx:Hid (∀(w2:World) (k':Nat),w2.heap[g]?=some (.cells #[.slice a n c,.int .i64 k',.int .i64 h1] 76 (0,0))->k'<=n->w1.grownBy w2 (some g)->Cur w2 g/\w.grownBy w2 (some g)):=by
  intro w2 k' hb Ld Gi;refine⟨⟨a,n,c,l,k',h1,hb,by omega,by omega,hn,HLL.out,Bv,fun hp=>?_⟩, ?_⟩
  .
   obtain⟨b,off,e,Lf,Hk⟩:=HC.out hp;exact⟨b,off,e,Lf,fun j hj=>Gi.cell (Hk j hj) A10⟩
  .
   have Kp:=HR.out;exact⟨Gi.os.trans Kp.os,Gi.tape.trans Kp.tape,Gi.output.trans Kp.output,zF2 Kp.size Gi.size,fun b hb Ae=>(Gi.block b (Nat.lt_of_lt_of_le hb Kp.size) Ae).trans (Kp.block b hb Ae)⟩
 by_cases Ha:k<n
 .
  obtain⟨b,off,rfl,Lf,Hk⟩:=HC.out A0;have hx:=Hk k Ha;have hxb:=kD Bv k;have hst:Hid (∀q,((w1.drewN q).setCell ⟨g,1,none⟩ (.int .i64 ((k:Int)+1))).heap[g]?=some (.cells #[.slice (some ⟨b,off,none⟩) n c,.int .i64 ((k+1:Nat):Int),.int .i64 h1] 76 (0,0))/\w1.grownBy ((w1.drewN q).setCell ⟨g,1,none⟩ (.int .i64 ((k:Int)+1))) (some g)):=by
   intro q;refine⟨?_,⟨rfl,rfl,rfl,by simp,fun j _ hj=>heap_setCell_other w1 ⟨g,1,none⟩ j _ (fun e=>hj (by simp[e]))⟩⟩;rw[heap_setCell_same (w1.drewN q) g 1 _ _ _ Wz.out];rfl
  have hin':(k:Int)<(n:Int):=A0;clear Hk HC Wz HR HLL Bv;go_quiet (fail);go_wp2_with fail;go_quiet (fail);go_wp2_with fail;go_quiet (fail);go_wp2;go_ret;have HH:=fun q=>Fx.out _ (k+1) (hst.out q).1 A0 (hst.out q).2;refine⟨_,rfl, ?_, ?_,(HH _).1,(HH _).2⟩
  .
   omega
  .
   omega
 .
  clear HC HR HLL Bv;go_quiet (fail);go_wp2_with fail;go_quiet (fail);go_wp2;go_ret;have HH:=fun p q=>Fx.out ((w1.drewN p).drewN q) k Wz.out A0 ⟨rfl,rfl,rfl,zB0 _,fun _ _ _=>rfl⟩;refine⟨_,rfl, ?_, ?_,(HH _ _).1,(HH _ _).2⟩
  .
   omega
  .
   omega
theorem aC {w w1 w2:World}{row:Option Nat}(h1:w.grownBy w1 row)(h2:w1.grownBy w2 row):w.grownBy w2 row:=
 ⟨h2.os.trans h1.os,h2.tape.trans h1.tape,h2.output.trans h1.output,zF2 h1.size h2.size,fun b hb Ae=>(h2.block b (Nat.lt_of_lt_of_le hb h1.size) Ae).trans (h1.block b hb Ae)⟩
def qD (w w':World)(g:Nat):Prop:=Cur w' g/\w.grownBy w' (some g)
theorem qD.trans {w w1 w2:World}{g:Nat}(h1:qD w w1 g)(h2:qD w1 w2 g):qD w w2 g:=⟨h2.1,aC h1.2 h2.2⟩
set_option maxRecDepth 100000 in
theorem aAw (g:Nat)(n:Int)(w:World)(h:Cur w g)(hn:n<=1099511627776):
  Calls Tryz.prog 29 #[.pointer (some ⟨g,0,none⟩),.int .i64 n] w fun e w'=>∃x:Int,e=.returned (.int .i64 x)/\0<=x/\(0<n->x<n)/\(n<=0->x=0)/\qD w w' g:=by
 by_cases h0:n<=0
 .
  have hh:qD w w g:=⟨h,World.grownBy.refl _ _⟩
  clear h;go_enter Tryz.func29,Tryz.ntmps29;go_wp2;go_ret;exact⟨0,rfl,by omega,fun h=>absurd h A0,fun _=>rfl,hh⟩
 .
  by_cases h256:n<=256
  .
   go_enter Tryz.func29,Tryz.ntmps29;go_wp2_with fail;refine(vE g _ h).mono ?_;rintro e w1 ⟨x,rfl,Fj,Fi,hd⟩;have Ae:¬n=0:=A0;have hd':qD w w1 g:=hd;clear hd h;exact QA75
  .
   go_enter Tryz.func29,Tryz.ntmps29;go_wp2_with fail;refine(vE g _ h).mono ?_;rintro e w1 ⟨x,rfl,Fj,Fi,Gk,hd1⟩;go_wp2_with fail;refine(vE g _ Gk).mono ?_;rintro e w2 ⟨y,rfl,hy0,We,Dl,Cj⟩;go_wp2_with fail;refine(vE g _ Dl).mono ?_;rintro e w3 ⟨z,rfl,Dd,Db,Gj,Cr⟩;go_wp2_with fail;refine(vE g _ Gj).mono ?_;rintro e w4 ⟨u,rfl,hu0,Tx,Ti,Kk⟩;have Ae:¬n=0:=A0;have hd':qD w w4 g:=⟨Ti,aC hd1 (aC Cj (aC Cr Kk))⟩
   clear Gk Dl Gj Ti hd1 Cj Cr Kk h;exact QA75
end Go.Proofs.YtcbhdhmhidpdgaaGreatDoor

import Derived.Deep.RegionHeld3
import Derived.Deep.Cut
import Derived.Deep.CutRange
import Derived.Test.YtffphdacgblaoaaGreatDoorTreeSz
namespace Go.Proofs.YtffphdacgblaoaaGreatDoor
open Go.RowKit
set_option linter.unusedVariables false
set_option maxRecDepth 100000
set_option linter.unusedSimpArgs false
def ToV (w:World)(F:Nat)(f:Fl)(v:Value):Prop:=
 ∀w1:World,Below w.heap.size w w1->Calls Tryz.prog F #[v] w1 fun e w'=>∃g n,e=.returned (.slice (some ⟨g,0,none⟩) n n)/\f.Has w' w1.heap.size w'.heap.size (.slice (some ⟨g,0,none⟩) n n)/\Below w1.heap.size w1 w'
def Blk (w:World)(g:Nat)(T:TypeId)(vs:List Value):Prop:=w.heap[g]?=some (.cells vs.toArray T (0,0))
theorem Blk.cell {w:World}{g i:Nat}{T:TypeId}{vs:List Value}{v:Value}(h:Blk w g T vs)(hi:vs[i]?=some v):w.cell? ⟨g,i,none⟩=some v:=by
 rw[cell_of_row w g i _ T (0,0) h];simpa using hi
theorem Blk.k {w:World}{g:Nat}{T:TypeId}{vs:List Value}(h:Blk w g T vs)(i:Nat){u:Value}(hu:vs[i]?=some u:=by rfl):w.cell? ⟨g,i,none⟩=some u:=h.cell hu
theorem Blk.c2 {w:World}{g:Nat}{T:TypeId}{v0 v1:Value}{l:List Value}(h:Blk w g T (v0 :: v1 :: l)):w.cell? ⟨g,0,none⟩=some v0/\w.cell? ⟨g,1,none⟩=some v1:=⟨h.k 0,h.k 1⟩
theorem Blk.c3 {w:World}{g:Nat}{T:TypeId}{v0 v1 v2:Value}{l:List Value}(h:Blk w g T (v0 :: v1 :: v2 :: l)):w.cell? ⟨g,0,none⟩=some v0/\w.cell? ⟨g,1,none⟩=some v1/\w.cell? ⟨g,2,none⟩=some v2:=⟨h.k 0,h.k 1,h.k 2⟩
theorem Blk.c4 {w:World}{g:Nat}{T:TypeId}{v0 v1 v2 v3:Value}{l:List Value}(h:Blk w g T (v0 :: v1 :: v2 :: v3 :: l)):w.cell? ⟨g,0,none⟩=some v0/\w.cell? ⟨g,1,none⟩=some v1/\w.cell? ⟨g,2,none⟩=some v2/\w.cell? ⟨g,3,none⟩=some v3:=⟨h.k 0,h.k 1,h.k 2,h.k 3⟩
theorem Blk.c5 {w:World}{g:Nat}{T:TypeId}{v0 v1 v2 v3 v4:Value}{l:List Value}(h:Blk w g T (v0 :: v1 :: v2 :: v3 :: v4 :: l)):w.cell? ⟨g,0,none⟩=some v0/\w.cell? ⟨g,1,none⟩=some v1/\w.cell? ⟨g,2,none⟩=some v2/\w.cell? ⟨g,3,none⟩=some v3/\w.cell? ⟨g,4,none⟩=some v4:=⟨h.k 0,h.k 1,h.k 2,h.k 3,h.k 4⟩
theorem Blk.c6 {w:World}{g:Nat}{T:TypeId}{v0 v1 v2 v3 v4 v5:Value}{l:List Value}(h:Blk w g T (v0 :: v1 :: v2 :: v3 :: v4 :: v5 :: l)):w.cell? ⟨g,0,none⟩=some v0/\w.cell? ⟨g,1,none⟩=some v1/\w.cell? ⟨g,2,none⟩=some v2/\w.cell? ⟨g,3,none⟩=some v3/\w.cell? ⟨g,4,none⟩=some v4/\w.cell? ⟨g,5,none⟩=some v5:=⟨h.k 0,h.k 1,h.k 2,h.k 3,h.k 4,h.k 5⟩
theorem Blk.free {w:World}{g:Nat}{T:TypeId}{vs:List Value}(h:Blk w g T vs)(i:Nat):w.frozen? ⟨g,i,none⟩=false:=frozen_of_row w g i _ _ h
theorem Blk.below {w w':World}{g B:Nat}{T:TypeId}{vs:List Value}(h:Blk w g T vs)(hb:Below B w w')(hg:g<B):Blk w' g T vs:=(hb.block g hg).trans h
theorem Blk.lt {w:World}{g:Nat}{T:TypeId}{vs:List Value}(h:Blk w g T vs):g<w.heap.size:=(zJ0.1 h).1
theorem Blk.new (w:World)(T:TypeId)(vs:List Value):Blk (w.alloc (.cells vs.toArray T (0,0))) w.heap.size T vs:=zJ1 w _
theorem Blk.old {w:World}{g:Nat}{T:TypeId}{vs:List Value}{o:Obj}(h:Blk w g T vs):Blk (w.alloc o) g T vs:=
 ((((zD2 w.heap.size w).alloc (zB0 _) o).block g (zJ0.1 h).1)).trans h
theorem Blk.other {w:World}{g k i:Nat}{T:TypeId}{vs:List Value}{v:Value}(h:Blk w g T vs)(Aw:g ≠ k):Blk (w.setCell ⟨k,i,none⟩ v) g T vs:=(heap_setCell_other w ⟨k,i,none⟩ g v Aw).trans h
theorem Blk.set {w:World}{g i:Nat}{T:TypeId}{vs:List Value}(h:Blk w g T vs)(v:Value):Blk (w.setCell ⟨g,i,none⟩ v) g T (vs.set i v):=by
 unfold Blk;rw[heap_setCell_same w g i _ _ _ h];simp
theorem cL.snoc {w:World}{f:Fl}{u:Value}:∀{r:List Fl} {lo mid hi:Nat} {us:List Value},cL w lo mid r us->Fl.Has w mid hi f u->lo<=mid->mid<=hi->cL w lo hi (r++[f]) (us++[u]):=by
 intro r
 induction r with
 | nil=>
  intro lo mid hi us h h2 a b;unfold cL at h;subst h;rw[List.nil_append,List.nil_append];unfold cL
  refine⟨u,[],hi,rfl,by omega,zB0 _,h2.wide a (zB0 _), ?_⟩
  unfold cL;rfl
 | cons x r ih=>
  intro lo mid hi us h h2 a b;unfold cL at h;obtain⟨u0,us',m,rfl,h1,h3,h4,h5⟩:=h
  have:=ih h5 h2 Q0 b
  rw[List.cons_append,List.cons_append];unfold cL
  exact⟨u0,us'++[u],m,rfl,h1,by omega,h4,this⟩
structure TS (w W:World) (TA TR:TypeId) (A Z cur:List Value) (r:List Fl) (us:List Value):Prop where
 a:Blk W w.heap.size TA A
 z:Blk W (w.heap.size+1) TR Z
 o:Blk W (w.heap.size+1+1) TR cur
 y:Below w.heap.size w W
 s:w.heap.size+3<=W.heap.size
 h:cL W (w.heap.size+3) W.heap.size r us
theorem TS.start (w:World)(TA TR:TypeId)(A Z:List Value):TS w (((w.alloc (.cells A.toArray TA (0,0))).alloc (.cells Z.toArray TR (0,0))).alloc (.cells Z.toArray TR (0,0))) TA TR A Z Z [] []:=by
 have y1:Below w.heap.size w (w.alloc (.cells A.toArray TA (0,0))):=(zD2 _ _).alloc (zB0 _) _
 have y2:=y1.alloc y1.size (.cells Z.toArray TR (0,0));have y3:=y2.alloc y2.size (.cells Z.toArray TR (0,0))
 refine⟨(Blk.new w TA A).old.old, ?_, ?_,y3,by simp,by unfold cL;rfl⟩
 .
  have:=(Blk.new (w.alloc (.cells A.toArray TA (0,0))) TR Z).old (o:=.cells Z.toArray TR (0,0))
  simpa using this
 .
  have:=Blk.new ((w.alloc (.cells A.toArray TA (0,0))).alloc (.cells Z.toArray TR (0,0))) TR Z
  simpa using this
theorem TS.call {w W W1:World}{TA TR:TypeId}{A Z cur:List Value}{r:List Fl}{us:List Value}{f:Fl}{u:Value}(t:TS w W TA TR A Z cur r us)(h:f.Has W1 W.heap.size W1.heap.size u)(hb:Below W.heap.size W W1):
  TS w W1 TA TR A Z cur (r++[f]) (us++[u]):=
 ⟨t.a.below hb t.a.lt,t.z.below hb t.z.lt,t.o.below hb t.o.lt,t.y.trans (hb.mono t.y.size),zF2 t.s hb.size,
  (t.h.stays (gT.of hb (zB0 _))).snoc h t.s hb.size⟩
theorem TS.put {w W:World}{TA TR:TypeId}{A Z cur:List Value}{r:List Fl}{us:List Value}(t:TS w W TA TR A Z cur r us)(i:Nat)(v:Value):
  TS w (W.setCell ⟨w.heap.size+1+1,i,none⟩ v) TA TR A Z (cur.set i v) r us:=by
 have e:(W.setCell ⟨w.heap.size+1+1,i,none⟩ v).heap.size=W.heap.size:=by simp
 refine⟨t.a.other Q0,t.z.other Q0,t.o.set v,t.y.setCell Q29 v,by rw[e];exact t.s, ?_⟩
 rw[e];exact t.h.stays (gT.put (.inl Q0))
theorem TS.plain {w W:World}{TA TR:TypeId}{A Z cur:List Value}{r:List Fl}{us:List Value}(t:TS w W TA TR A Z cur r us)(i:Nat)(f:Fl)(v:Value)(hf:∀W lo hi,f.Has W lo hi v):
  TS w (W.setCell ⟨w.heap.size+1+1,i,none⟩ v) TA TR A Z (cur.set i v) (r++[f]) (us++[v]):=by
 have t':=t.put i v;exact⟨t'.a,t'.z,t'.o,t'.y,t'.s,t'.h.snoc (hf _ _ _) t'.s (zB0 _)⟩
def setAll (W:World)(g:Nat):Nat->List Value->World
 | _,[]=>W
 | i,v :: l=>setAll (W.setCell ⟨g,i,none⟩ v) g (i+1) l
theorem wR (g:Nat):∀(l:List Value) (W:World) (i:Nat),(setAll W g i l).heap.size=W.heap.size:=by
 intro l
 induction l with
 | nil=>intro W i;rfl
 | cons v l ih=>intro W i;rw[setAll,ih];simp
theorem Blk.setAll {g:Nat}{T:TypeId}:∀(us:List Value) {W:World} {pre old post:List Value},Blk W g T (pre++old++post)->old.length=us.length->Blk (setAll W g pre.length us) g T (pre++us++post):=by
 intro us
 induction us with
 | nil=>intro W pre old post h hl;have:old=[]:=zE0 hl;subst this;exact h
 | cons u us ih=>
  intro W pre old post h hl
  cases old with
  | nil=>simp at hl
  | cons x old=>
   have h1:=h.set (i:=pre.length) u
   have e:(pre++x :: old++post).set pre.length u=(pre++[u])++old++post:=by simp
   rw[e]at h1
   have h2:=ih h1 (by simpa using hl)
   have e2:(pre++[u]).length=pre.length+1:=by simp
   rw[e2]at h2
   simpa [Go.Proofs.YtffphdacgblaoaaGreatDoor.setAll] using h2
structure TL (w wr:World) (T K n j:Nat) (rs:List (List Fl)) (vs rest:List Value):Prop where
 len:rest.length=(n-j)*K
 blk:Blk wr w.heap.size T (vs++rest)
 has:bO wr K (w.heap.size+1) wr.heap.size (rs.take j) vs
 lenr:rs.length=n
 leqj:j<=n
 below:Below w.heap.size w wr
theorem TL.start {w wr:World}{T K n:Nat}{rs:List (List Fl)}{xs:List Value}(hn:rs.length=n)(h:wr.ownsRow w.heap.size T K (.slice (some ⟨w.heap.size,0,none⟩) n n) n xs)(hg:w.grownBy wr none):∃vs rest,TL w wr T K n 0 rs vs rest:=by
 have hl:=h.1
 rcases h.2 with⟨h',_⟩|⟨g',cap,cur,h',_,hgb,_,_,hs,ht⟩
 .
  simp at h'
 .
  simp only[Value.slice.injEq,zG2,Addr.mk.injEq,and_true,true_and]at h';obtain⟨rfl,rfl⟩:=h';rw[zD3 Q29]at ht
  refine⟨[],xs,by simpa using hl, ?_, ?_,hn,zD1 _,(zD2 _ _).grown hg (zB0 _) (by intro k hk;cases hk)⟩
  .
   show wr.heap[w.heap.size]?=_
   rw[hgb,<-ht];simp
  .
   rw[List.take_zero];unfold bO;rfl
theorem TL.vlen {w wr:World}{T K n j:Nat}{rs:List (List Fl)}{vs rest:List Value}(h:TL w wr T K n j rs vs rest):vs.length=j*K:=by
 rw[h.has.len,List.length_take,h.lenr,Nat.min_eq_left h.leqj]
theorem TL.call {w w1 w2:World}{T K n j:Nat}{rs:List (List Fl)}{vs rest:List Value}(h:TL w w1 T K n j rs vs rest)(hb:Below w1.heap.size w1 w2):TL w w2 T K n j rs vs rest:=
 ⟨h.len,h.blk.below hb h.blk.lt,(h.has.stays (gT.of hb (zB0 _))).wide (zB0 _) hb.size,h.lenr,h.leqj,h.below.trans (hb.mono h.below.size)⟩
theorem TL.cells {w wr:World}{T K n j:Nat}{rs:List (List Fl)}{vs rest:List Value}(h:TL w wr T K n j rs vs rest)(hj:j<n):∀i,i<K->∃v,wr.cell? ⟨w.heap.size,j*K+i,none⟩=some v:=by
 intro i hi;have hv:=h.vlen;have hr:=h.len;have hp:K<=(n-j)*K:=Nat.le_mul_of_pos_left K Q0;have Aj:i<rest.length:=Q0;refine⟨rest[i],h.blk.cell ?_⟩;rw[List.getElem?_append_right Q0,hv,Nat.add_sub_cancel_left];exact zA0 Aj
theorem TL.step {w w1 w2:World}{T K n j:Nat}{rs:List (List Fl)}{vs rest us:List Value}{r:List Fl}(h:TL w w1 T K n j rs vs rest)(hj:j<n)(hb:Below w1.heap.size w1 w2)(hr:rs[j]?=some r)(hl:us.length=K)(hh:cL w2 w1.heap.size w2.heap.size r us):
  TL w (setAll w2 w.heap.size (j*K) us) T K n (j+1) rs (vs++us) (rest.drop K):=by
 have h2:=h.call hb;have hv:=h.vlen;have hp:K<=(n-j)*K:=Nat.le_mul_of_pos_left K Q0;have hrl:=h.len
 have hb1:Blk (setAll w2 w.heap.size (j*K) us) w.heap.size T ((vs++us)++rest.drop K):=by
  have e:vs++rest=vs++rest.take K++rest.drop K:=by rw[zD0,List.take_append_drop]
  have:=h2.blk
  rw[e]at this
  have h3:=this.setAll us (by rw[List.length_take,hl];omega)
  rw[hv]at h3;exact h3
 have hlt1:=h.blk.lt
 have hrow:bO w2 K (w.heap.size+1) w2.heap.size (rs.take (j+1)) (vs++us):=by
  obtain⟨hk,e⟩:=zC1.1 hr;rw[zF1 hk,e];exact(h.has.stays (gT.of hb (zB0 _))).snoc hh hl Q0 hb.size
 have key:∀(l:List Value) (W:World) (i:Nat),Below w.heap.size w W->bO W K (w.heap.size+1) w2.heap.size (rs.take (j+1)) (vs++us)->Below w.heap.size w (setAll W w.heap.size i l)/\bO (setAll W w.heap.size i l) K (w.heap.size+1) w2.heap.size (rs.take (j+1)) (vs++us):=by
  intro l
  induction l with
  | nil=>intro W i a b;exact⟨a,b⟩
  | cons v l ih=>intro W i a b;exact ih _ _ (a.setCell Q9 v) (b.stays (gT.put (.inl Q0)))
 obtain⟨k1,k2⟩:=key us w2 (j*K) h2.below hrow
 refine⟨?_,hb1, ?_,h.lenr,by omega,k1⟩
 .
  rw[List.length_drop,hrl]
  have:n-j=(n-(j+1))+1:=Q0
  rw[this,Nat.add_mul];omega
 .
  rw[wR];exact k2
theorem cL.st {w:World}:∀{r:List Fl} {lo hi:Nat} {us:List Value},cL w lo hi r us->∀(i:Nat) (u:Value),us[i]?=some u->∀(W:World) (a:Addr) (m:Mode),(store a u m).run Tryz.prog W=stored Tryz.prog W a u m:=by
 intro r
 induction r with
 | nil=>intro lo hi us h i u hu;unfold cL at h;subst h;simp at hu
 | cons f r ih=>
  intro lo hi us h i u hu;unfold cL at h;obtain⟨x,us',mid,rfl,_,_,hf,hr⟩:=h
  cases i with
  | succ i=>exact ih hr i u (by simpa using hu)
  | zero=>
   simp only[List.getElem?_cons_zero,zG2]at hu;subst hu;intro W a m
   cases f <;> unfold Fl.Has at hf
   .
    obtain⟨g,rfl,_⟩:=hf;exact run_store_slice ..
   .
    obtain⟨g,rfl,_⟩:=hf;exact run_store_slice ..
   .
    subst hf;exact run_store_int ..
   .
    subst hf;exact run_store_bool ..
   .
    obtain⟨g,vs,T,rfl,_⟩:=hf;exact run_store_slice ..
theorem ToV.on {w w1:World}{F:Nat}{f:Fl}{v:Value}(h:ToV w F f v)(hb:Below w.heap.size w w1):ToV w1 F f v:=
 fun w2 hb2=>h w2 (hb.trans (hb2.mono hb.size))
end Go.Proofs.YtffphdacgblaoaaGreatDoor

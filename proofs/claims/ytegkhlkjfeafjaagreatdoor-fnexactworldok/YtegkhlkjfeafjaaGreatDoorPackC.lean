import Derived.Deep.RegionHeld3
import Derived.Deep.Cut
import Derived.Deep.CutRange
import Derived.Test.YtegkhlkjfeafjaaGreatDoorTreeSz
namespace Go.Proofs.YtegkhlkjfeafjaaGreatDoor
open Go.RowKit
set_option maxHeartbeats 80000000
set_option linter.unusedVariables false
set_option maxRecDepth 100000
set_option linter.unusedSimpArgs false
theorem M9207{p q:Prop}(k:q)(h:Kx q->p:=by
 intro kQ
 have h1:=h0.call hh0 Ar
 have z0:=h1.o.free 0
 have x0:=h1.o.k 0
 revert x0;revert z0;revert h1
 exact kQ.o):p:=h ⟨k⟩
theorem M9128{p q:Prop}(k:q)(h:Kx q->p:=by
 intro kQ
 have e0:=hr.free 0
 have e1:=hr.free 1
 have e2:=hr.free 2
 have e3:=hr.free 3
 revert e3;revert e2;revert e1;revert e0
 exact kQ.o):p:=h ⟨k⟩
def ToV (w:World)(F:Nat)(f:Fl)(v:Value):Prop:=
  ∀w1:World,Below w.heap.size w w1->Calls Tryz.prog F #[v] w1 fun e w'=>∃g n,e=.returned (.slice (some ⟨g,0,none⟩) n n)/\f.Has w' w1.heap.size w'.heap.size (.slice (some ⟨g,0,none⟩) n n)/\Below w1.heap.size w1 w'
def Blk (w:World)(g:Nat)(T:TypeId)(vs:List Value):Prop:=w.heap[g]?=some (.cells vs.toArray T (0,0))
theorem Blk.cell {w:World}{g i:Nat}{T:TypeId}{vs:List Value}{v:Value}(h:Blk w g T vs)(hi:vs[i]?=some v):w.cell? ⟨g,i,none⟩=some v:=by
  rw[cell_of_row w g i _ T (0,0) h];simpa using hi
theorem Blk.k {w:World}{g:Nat}{T:TypeId}{vs:List Value}(h:Blk w g T vs)(i:Nat){u:Value}(hu:vs[i]?=some u:=by rfl):w.cell? ⟨g,i,none⟩=some u:=h.cell hu
theorem Blk.c2 {w:World}{g:Nat}{T:TypeId}{v0 v1:Value}{l:List Value}(h:Blk w g T (v0 :: v1 :: l)):w.cell? ⟨g,0,none⟩=some v0/\w.cell? ⟨g,1,none⟩=some v1:=⟨h.k 0,h.k 1⟩
theorem Blk.c3 {w:World}{g:Nat}{T:TypeId}{v0 v1 v2:Value}{l:List Value}(h:Blk w g T (v0 :: v1 :: v2 :: l)):w.cell? ⟨g,0,none⟩=some v0/\w.cell? ⟨g,1,none⟩=some v1/\w.cell? ⟨g,2,none⟩=some v2:=⟨h.k 0,h.k 1,h.k 2⟩
theorem Blk.c4 {w:World}{g:Nat}{T:TypeId}{v0 v1 v2 v3:Value}{l:List Value}(h:Blk w g T (v0 :: v1 :: v2 :: v3 :: l)):w.cell? ⟨g,0,none⟩=some v0/\w.cell? ⟨g,1,none⟩=some v1/\w.cell? ⟨g,2,none⟩=some v2/\w.cell? ⟨g,3,none⟩=some v3:=⟨h.k 0,h.k 1,h.k 2,h.k 3⟩
theorem Blk.c5 {w:World}{g:Nat}{T:TypeId}{v0 v1 v2 v3 v4:Value}{l:List Value}(h:Blk w g T (v0 :: v1 :: v2 :: v3 :: v4 :: l)):w.cell? ⟨g,0,none⟩=some v0/\w.cell? ⟨g,1,none⟩=some v1/\w.cell? ⟨g,2,none⟩=some v2/\w.cell? ⟨g,3,none⟩=some v3/\w.cell? ⟨g,4,none⟩=some v4:=⟨h.k 0,h.k 1,h.k 2,h.k 3,h.k 4⟩
theorem Blk.c6 {w:World}{g:Nat}{T:TypeId}{v0 v1 v2 v3 v4 v5:Value}{l:List Value}(h:Blk w g T (v0 :: v1 :: v2 :: v3 :: v4 :: v5 :: l)):w.cell? ⟨g,0,none⟩=some v0/\w.cell? ⟨g,1,none⟩=some v1/\w.cell? ⟨g,2,none⟩=some v2/\w.cell? ⟨g,3,none⟩=some v3/\w.cell? ⟨g,4,none⟩=some v4/\w.cell? ⟨g,5,none⟩=some v5:=⟨h.k 0,h.k 1,h.k 2,h.k 3,h.k 4,h.k 5⟩
theorem Blk.free {w:World}{g:Nat}{T:TypeId}{vs:List Value}(h:Blk w g T vs)(i:Nat):w.frozen? ⟨g,i,none⟩=false:=frozen_of_row w g i _ _ h
theorem Blk.below {w w':World}{g B:Nat}{T:TypeId}{vs:List Value}(h:Blk w g T vs)(hb:Below B w w')(hg:g<B):Blk w' g T vs:=(hb.block g hg).trans h
theorem Blk.lt {w:World}{g:Nat}{T:TypeId}{vs:List Value}(h:Blk w g T vs):g<w.heap.size:=(zJ2.1 h).1
theorem Blk.new (w:World)(T:TypeId)(vs:List Value):Blk (w.alloc (.cells vs.toArray T (0,0))) w.heap.size T vs:=zJ3 w _
theorem Blk.old {w:World}{g:Nat}{T:TypeId}{vs:List Value}{o:Obj}(h:Blk w g T vs):Blk (w.alloc o) g T vs:=
  ((((zD2 w.heap.size w).alloc (zB0 _) o).block g (zJ2.1 h).1)).trans h
theorem Blk.other {w:World}{g k i:Nat}{T:TypeId}{vs:List Value}{v:Value}(h:Blk w g T vs)(hne:g ≠ k):Blk (w.setCell ⟨k,i,none⟩ v) g T vs:=(heap_setCell_other w ⟨k,i,none⟩ g v hne).trans h
theorem Blk.set {w:World}{g i:Nat}{T:TypeId}{vs:List Value}(h:Blk w g T vs)(v:Value):Blk (w.setCell ⟨g,i,none⟩ v) g T (vs.set i v):=by
  unfold Blk;rw[heap_setCell_same w g i _ _ _ h];simp
theorem bJ.snoc {w:World}{f:Fl}{u:Value}:∀{r:List Fl} {lo mid hi:Nat} {us:List Value},bJ w lo mid r us->Fl.Has w mid hi f u->lo<=mid->mid<=hi->bJ w lo hi (r++[f]) (us++[u]):=by
  intro r
  induction r with
  | nil=>
    intro lo mid hi us h h2 a b;unfold bJ at h;subst h;rw[List.nil_append,List.nil_append];unfold bJ
    refine⟨u,[],hi,rfl,by omega,zB0 _,h2.wide a (zB0 _), ?_⟩
    unfold bJ;rfl
  | cons x r ih=>
    intro lo mid hi us h h2 a b;unfold bJ at h;obtain⟨u0,us',m,rfl,h1,h3,h4,h5⟩:=h
    have:=ih h5 h2 V6 b
    rw[List.cons_append,List.cons_append];unfold bJ
    exact⟨u0,us'++[u],m,rfl,h1,by omega,h4,this⟩
structure TS (w W:World) (TA TR:TypeId) (A Z cur:List Value) (r:List Fl) (us:List Value):Prop where
  a:Blk W w.heap.size TA A
  z:Blk W (w.heap.size+1) TR Z
  o:Blk W (w.heap.size+1+1) TR cur
  y:Below w.heap.size w W
  s:w.heap.size+3<=W.heap.size
  h:bJ W (w.heap.size+3) W.heap.size r us
theorem TS.start (w:World)(TA TR:TypeId)(A Z:List Value):TS w (((w.alloc (.cells A.toArray TA (0,0))).alloc (.cells Z.toArray TR (0,0))).alloc (.cells Z.toArray TR (0,0))) TA TR A Z Z [] []:=by
  have y1:Below w.heap.size w (w.alloc (.cells A.toArray TA (0,0))):=(zD2 _ _).alloc (zB0 _) _
  have y2:=y1.alloc y1.size (.cells Z.toArray TR (0,0));have y3:=y2.alloc y2.size (.cells Z.toArray TR (0,0))
  refine⟨(Blk.new w TA A).old.old, ?_, ?_,y3,by simp,by unfold bJ;rfl⟩
  . have:=(Blk.new (w.alloc (.cells A.toArray TA (0,0))) TR Z).old (o:=.cells Z.toArray TR (0,0))
    simpa using this
  . have:=Blk.new ((w.alloc (.cells A.toArray TA (0,0))).alloc (.cells Z.toArray TR (0,0))) TR Z
    simpa using this
theorem TS.call {w W W1:World}{TA TR:TypeId}{A Z cur:List Value}{r:List Fl}{us:List Value}{f:Fl}{u:Value}(t:TS w W TA TR A Z cur r us)(h:f.Has W1 W.heap.size W1.heap.size u)(hb:Below W.heap.size W W1):
    TS w W1 TA TR A Z cur (r++[f]) (us++[u]):=
  ⟨t.a.below hb t.a.lt,t.z.below hb t.z.lt,t.o.below hb t.o.lt,t.y.trans (hb.mono t.y.size),zF2 t.s hb.size,
    (t.h.stays (gG.of hb (zB0 _))).snoc h t.s hb.size⟩
theorem TS.put {w W:World}{TA TR:TypeId}{A Z cur:List Value}{r:List Fl}{us:List Value}(t:TS w W TA TR A Z cur r us)(i:Nat)(v:Value):
    TS w (W.setCell ⟨w.heap.size+1+1,i,none⟩ v) TA TR A Z (cur.set i v) r us:=by
  have e:(W.setCell ⟨w.heap.size+1+1,i,none⟩ v).heap.size=W.heap.size:=by simp
  refine⟨t.a.other V6,t.z.other V6,t.o.set v,t.y.setCell V52 v,by rw[e];exact t.s, ?_⟩
  rw[e];exact t.h.stays (gG.put (.inl V6))
theorem TS.plain {w W:World}{TA TR:TypeId}{A Z cur:List Value}{r:List Fl}{us:List Value}(t:TS w W TA TR A Z cur r us)(i:Nat)(f:Fl)(v:Value)(hf:∀W lo hi,f.Has W lo hi v):
    TS w (W.setCell ⟨w.heap.size+1+1,i,none⟩ v) TA TR A Z (cur.set i v) (r++[f]) (us++[v]):=by
  have t':=t.put i v;exact⟨t'.a,t'.z,t'.o,t'.y,t'.s,t'.h.snoc (hf _ _ _) t'.s (zB0 _)⟩
def setAll (W:World)(g:Nat):Nat->List Value->World
  | _,[]=>W
  | i,v :: l=>setAll (W.setCell ⟨g,i,none⟩ v) g (i+1) l
theorem oF (g:Nat):∀(l:List Value) (W:World) (i:Nat),(setAll W g i l).heap.size=W.heap.size:=by
  intro l
  induction l with
  | nil=>intro W i;rfl
  | cons v l ih=>intro W i;rw[setAll,ih];simp
theorem tZ {w:World}(g:Nat){lo hi:Nat}(hg:w.heap.size<=g)(hl:g<lo){r:List Fl}{us:List Value}:∀(l:List Value) (W:World) (i:Nat),Below w.heap.size w W->bJ W lo hi r us->Below w.heap.size w (setAll W g i l)/\bJ (setAll W g i l) lo hi r us:=by
  intro l
  induction l with
  | nil=>intro W i a b;exact⟨a,b⟩
  | cons v l ih=>intro W i a b;exact ih _ _ (a.setCell V88 v) (b.stays (gG.put (.inl hl)))
theorem TS.finish {w W:World}{TA TR:TypeId}{A Z cur:List Value}{r:List Fl}{us:List Value}(t:TS w W TA TR A Z cur r us):
    bJ (setAll W (w.heap.size+1) 0 cur) w.heap.size (setAll W (w.heap.size+1) 0 cur).heap.size r us/\Below w.heap.size w (setAll W (w.heap.size+1) 0 cur):=by
  obtain⟨h1,h2⟩:=tZ (w:=w) (w.heap.size+1) (lo:=w.heap.size+3) V6 V6 cur W 0 t.y t.h;rw[oF];exact⟨h2.wide V6 (zB0 _),h1⟩
theorem aCh (x:Int):∀W lo hi,(Fl.n x).Has W lo hi (.int .i64 x):=by intro W lo hi;unfold Fl.Has;rfl
theorem aK1 (x:Bool):∀W lo hi,(Fl.t x).Has W lo hi (.bool x):=by intro W lo hi;unfold Fl.Has;rfl
theorem aJt (a0:Option Addr)(n0 c0:Nat)(f0:Fl)(p1:Int)(w:World)
    (H0:ToV w 80 f0 (.slice a0 n0 c0)):
    Calls Tryz.prog 123 #[.agg #[.slice a0 n0 c0,.int .i64 p1]] w fun e w'=>∃us,e=.returned (.agg (List.toArray us))/\us.length=2/\bJ w' w.heap.size w'.heap.size [f0,.n p1] us/\Below w.heap.size w w':=by
  go_enter Tryz.func123,Tryz.ntmps123;go_upto_region 2 with fail;have h0:=TS.start w 164 123 [.slice a0 n0 c0,.int .i64 p1] [.slice none 0 0,.int .i64 0];simp only[List.toArray]at h0;generalize ((w.alloc (.cells #[.slice a0 n0 c0,.int .i64 p1] 164 (0,0))).alloc (.cells #[.slice none 0 0,.int .i64 0] 123 (0,0))).alloc (.cells #[.slice none 0 0,.int .i64 0] 123 (0,0))=w0 at *;have q0:=h0.a.k 0;have z0:=h0.o.free 0;have x0:=h0.o.k 0;go_wp2_with fail;refine(H0 w0 h0.y).mono ?_;rintro e w1 ⟨g0,m0,rfl,hh0,Ar⟩;refine M9207 ?_;clear q0 z0 x0 h0 hh0 Ar H0;intro h1 z0 x0;go_upto_region 3 with fail;have h2:=h1.put 0 (.slice (some ⟨g0,0,none⟩) m0 m0);generalize w1.setCell ⟨w.heap.size+1+1,0,none⟩ (.slice (some ⟨g0,0,none⟩) m0 m0)=w2 at *;clear z0 x0 h1;have q1:=h2.a.k 1;have z1:=h2.o.free 1;have x1:=h2.o.k 1;have hr:=h2.z;obtain⟨d0,d1⟩:=hr.c2;have e0:=hr.free 0;have e1:=hr.free 1;obtain⟨o0,o1⟩:=h2.o.c2;go_wp2_with fail;have h3:=h2.plain 1 (.n p1) (.int .i64 p1) (aCh _);have hf:=h3.finish
  refine zJ0 (v:=.agg #[.slice (some ⟨g0,0,none⟩) m0 m0,.int .i64 p1]) (by simp only[results,Tryz.results123];simp[go_sem,d0,d1]) rfl ⟨[.slice (some ⟨g0,0,none⟩) m0 m0,.int .i64 p1],rfl,rfl,hf.1,hf.2⟩
theorem aD1 (a0:Option Addr)(n0 c0:Nat)(f0:Fl)(t1:Bool)(w:World)
    (H0:ToV w 80 f0 (.slice a0 n0 c0)):
    Calls Tryz.prog 192 #[.agg #[.slice a0 n0 c0,.bool t1]] w fun e w'=>∃us,e=.returned (.agg (List.toArray us))/\us.length=2/\bJ w' w.heap.size w'.heap.size [f0,.t t1] us/\Below w.heap.size w w':=by
  go_enter Tryz.func192,Tryz.ntmps192;go_upto_region 2 with fail;have h0:=TS.start w 231 126 [.slice a0 n0 c0,.bool t1] [.slice none 0 0,.bool false];simp only[List.toArray]at h0;generalize ((w.alloc (.cells #[.slice a0 n0 c0,.bool t1] 231 (0,0))).alloc (.cells #[.slice none 0 0,.bool false] 126 (0,0))).alloc (.cells #[.slice none 0 0,.bool false] 126 (0,0))=w0 at *;have q0:=h0.a.k 0;have z0:=h0.o.free 0;have x0:=h0.o.k 0;go_wp2_with fail;refine(H0 w0 h0.y).mono ?_;rintro e w1 ⟨g0,m0,rfl,hh0,Ar⟩;refine M9207 ?_;clear q0 z0 x0 h0 hh0 Ar H0;intro h1 z0 x0;go_upto_region 3 with fail;have h2:=h1.put 0 (.slice (some ⟨g0,0,none⟩) m0 m0);generalize w1.setCell ⟨w.heap.size+1+1,0,none⟩ (.slice (some ⟨g0,0,none⟩) m0 m0)=w2 at *;clear z0 x0 h1;have q1:=h2.a.k 1;have z1:=h2.o.free 1;have x1:=h2.o.k 1;have hr:=h2.z;obtain⟨d0,d1⟩:=hr.c2;have e0:=hr.free 0;have e1:=hr.free 1;obtain⟨o0,o1⟩:=h2.o.c2;go_wp2_with fail;have h3:=h2.plain 1 (.t t1) (.bool t1) (aK1 _);have hf:=h3.finish
  refine zJ0 (v:=.agg #[.slice (some ⟨g0,0,none⟩) m0 m0,.bool t1]) (by simp only[results,Tryz.results192];simp[go_sem,d0,d1]) rfl ⟨[.slice (some ⟨g0,0,none⟩) m0 m0,.bool t1],rfl,rfl,hf.1,hf.2⟩
theorem aHe (p0:Int)(p1:Int)(a2:Option Addr)(n2 c2:Nat)(f2:Fl)(a3:Option Addr)(n3 c3:Nat)(f3:Fl)(a4:Option Addr)(n4 c4:Nat)(f4:Fl)(w:World)
    (H2:ToV w 80 f2 (.slice a2 n2 c2)) (H3:ToV w 80 f3 (.slice a3 n3 c3)) (H4:ToV w 214 f4 (.slice a4 n4 c4)):
    Calls Tryz.prog 230 #[.agg #[.int .i64 p0,.int .i64 p1,.slice a2 n2 c2,.slice a3 n3 c3,.slice a4 n4 c4]] w fun e w'=>∃us,e=.returned (.agg (List.toArray us))/\us.length=5/\bJ w' w.heap.size w'.heap.size [.n p0,.n p1,f2,f3,f4] us/\Below w.heap.size w w':=by
  go_enter Tryz.func230,Tryz.ntmps230;go_upto_region 2 with fail;have h0:=TS.start w 270 133 [.int .i64 p0,.int .i64 p1,.slice a2 n2 c2,.slice a3 n3 c3,.slice a4 n4 c4] [.int .i64 0,.int .i64 0,.slice none 0 0,.slice none 0 0,.slice none 0 0];simp only[List.toArray]at h0;generalize ((w.alloc (.cells #[.int .i64 p0,.int .i64 p1,.slice a2 n2 c2,.slice a3 n3 c3,.slice a4 n4 c4] 270 (0,0))).alloc (.cells #[.int .i64 0,.int .i64 0,.slice none 0 0,.slice none 0 0,.slice none 0 0] 133 (0,0))).alloc (.cells #[.int .i64 0,.int .i64 0,.slice none 0 0,.slice none 0 0,.slice none 0 0] 133 (0,0))=w0 at *;have q0:=h0.a.k 0;have z0:=h0.o.free 0;have x0:=h0.o.k 0;go_upto_region 3 with fail;have h1:=h0.plain 0 (.n p0) (.int .i64 p0) (aCh _);generalize w0.setCell ⟨w.heap.size+1+1,0,none⟩ (.int .i64 p0)=w1 at *;clear z0 x0 h0 q0;have q1:=h1.a.k 1;have z1:=h1.o.free 1;have x1:=h1.o.k 1;go_upto_region 4 with fail;have h2:=h1.plain 1 (.n p1) (.int .i64 p1) (aCh _);generalize w1.setCell ⟨w.heap.size+1+1,1,none⟩ (.int .i64 p1)=w2 at *;clear z1 x1 h1 q1;have q2:=h2.a.k 2;have z2:=h2.o.free 2;have x2:=h2.o.k 2;go_wp2_with fail;refine(H2 w2 h2.y).mono ?_;rintro e w3 ⟨g2,m2,rfl,hh2,Ae⟩;have h3:=h2.call hh2 Ae;clear q2 z2 x2 h2 hh2 Ae H2;have z2:=h3.o.free 2;have x2:=h3.o.k 2;go_upto_region 5 with fail;have h4:=h3.put 2 (.slice (some ⟨g2,0,none⟩) m2 m2);generalize w3.setCell ⟨w.heap.size+1+1,2,none⟩ (.slice (some ⟨g2,0,none⟩) m2 m2)=w4 at *;clear z2 x2 h3;have q3:=h4.a.k 3;have z3:=h4.o.free 3;have x3:=h4.o.k 3;go_wp2_with fail;refine(H3 w4 h4.y).mono ?_;rintro e w5 ⟨g3,m3,rfl,hh3,hb3⟩;have h5:=h4.call hh3 hb3;clear q3 z3 x3 h4 hh3 hb3 H3;have z3:=h5.o.free 3;have x3:=h5.o.k 3;go_upto_region 6 with fail;have h6:=h5.put 3 (.slice (some ⟨g3,0,none⟩) m3 m3);generalize w5.setCell ⟨w.heap.size+1+1,3,none⟩ (.slice (some ⟨g3,0,none⟩) m3 m3)=w6 at *;clear z3 x3 h5;have q4:=h6.a.k 4;have z4:=h6.o.free 4;have x4:=h6.o.k 4;go_wp2_with fail;refine(H4 w6 h6.y).mono ?_;rintro e w7 ⟨g4,m4,rfl,hh4,hb4⟩;have h7:=h6.call hh4 hb4;clear q4 z4 x4 h6 hh4 hb4 H4;have z4:=h7.o.free 4;have x4:=h7.o.k 4;have hr:=h7.z;obtain⟨d0,d1,d2,d3,d4⟩:=hr.c5;refine M9128 ?_;intro e0 e1 e2 e3;have e4:=hr.free 4;obtain⟨o0,o1,o2,o3,o4⟩:=h7.o.c5;go_wp2_with fail;have h8:=h7.put 4 (.slice (some ⟨g4,0,none⟩) m4 m4);have hf:=h8.finish
  refine zJ0 (v:=.agg #[.int .i64 p0,.int .i64 p1,.slice (some ⟨g2,0,none⟩) m2 m2,.slice (some ⟨g3,0,none⟩) m3 m3,.slice (some ⟨g4,0,none⟩) m4 m4]) (by simp only[results,Tryz.results230];simp[go_sem,d0,d1,d2,d3,d4]) rfl ⟨[.int .i64 p0,.int .i64 p1,.slice (some ⟨g2,0,none⟩) m2 m2,.slice (some ⟨g3,0,none⟩) m3 m3,.slice (some ⟨g4,0,none⟩) m4 m4],rfl,rfl,hf.1,hf.2⟩
theorem aG7 (p0:Int)(p1:Int)(a2:Option Addr)(n2 c2:Nat)(f2:Fl)(a3:Option Addr)(n3 c3:Nat)(f3:Fl)(a4:Option Addr)(n4 c4:Nat)(f4:Fl)(a5:Option Addr)(n5 c5:Nat)(f5:Fl)(w:World)
    (H2:ToV w 80 f2 (.slice a2 n2 c2)) (H3:ToV w 214 f3 (.slice a3 n3 c3)) (H4:ToV w 166 f4 (.slice a4 n4 c4)) (H5:ToV w 166 f5 (.slice a5 n5 c5)):
    Calls Tryz.prog 193 #[.agg #[.int .i64 p0,.int .i64 p1,.slice a2 n2 c2,.slice a3 n3 c3,.slice a4 n4 c4,.slice a5 n5 c5]] w fun e w'=>∃us,e=.returned (.agg (List.toArray us))/\us.length=6/\bJ w' w.heap.size w'.heap.size [.n p0,.n p1,f2,f3,f4,f5] us/\Below w.heap.size w w':=by
  go_enter Tryz.func193,Tryz.ntmps193;go_upto_region 2 with fail;have h0:=TS.start w 235 129 [.int .i64 p0,.int .i64 p1,.slice a2 n2 c2,.slice a3 n3 c3,.slice a4 n4 c4,.slice a5 n5 c5] [.int .i64 0,.int .i64 0,.slice none 0 0,.slice none 0 0,.slice none 0 0,.slice none 0 0];simp only[List.toArray]at h0;generalize ((w.alloc (.cells #[.int .i64 p0,.int .i64 p1,.slice a2 n2 c2,.slice a3 n3 c3,.slice a4 n4 c4,.slice a5 n5 c5] 235 (0,0))).alloc (.cells #[.int .i64 0,.int .i64 0,.slice none 0 0,.slice none 0 0,.slice none 0 0,.slice none 0 0] 129 (0,0))).alloc (.cells #[.int .i64 0,.int .i64 0,.slice none 0 0,.slice none 0 0,.slice none 0 0,.slice none 0 0] 129 (0,0))=w0 at *;have q0:=h0.a.k 0;have z0:=h0.o.free 0;have x0:=h0.o.k 0;go_upto_region 3 with fail;have h1:=h0.plain 0 (.n p0) (.int .i64 p0) (aCh _);generalize w0.setCell ⟨w.heap.size+1+1,0,none⟩ (.int .i64 p0)=w1 at *;clear z0 x0 h0 q0;have q1:=h1.a.k 1;have z1:=h1.o.free 1;have x1:=h1.o.k 1;go_upto_region 4 with fail;have h2:=h1.plain 1 (.n p1) (.int .i64 p1) (aCh _);generalize w1.setCell ⟨w.heap.size+1+1,1,none⟩ (.int .i64 p1)=w2 at *;clear z1 x1 h1 q1;have q2:=h2.a.k 2;have z2:=h2.o.free 2;have x2:=h2.o.k 2;go_wp2_with fail;refine(H2 w2 h2.y).mono ?_;rintro e w3 ⟨g2,m2,rfl,hh2,Ae⟩;have h3:=h2.call hh2 Ae;clear q2 z2 x2 h2 hh2 Ae H2;have z2:=h3.o.free 2;have x2:=h3.o.k 2;go_upto_region 5 with fail;have h4:=h3.put 2 (.slice (some ⟨g2,0,none⟩) m2 m2);generalize w3.setCell ⟨w.heap.size+1+1,2,none⟩ (.slice (some ⟨g2,0,none⟩) m2 m2)=w4 at *;clear z2 x2 h3;have q3:=h4.a.k 3;have z3:=h4.o.free 3;have x3:=h4.o.k 3;go_wp2_with fail;refine(H3 w4 h4.y).mono ?_;rintro e w5 ⟨g3,m3,rfl,hh3,hb3⟩;have h5:=h4.call hh3 hb3;clear q3 z3 x3 h4 hh3 hb3 H3;have z3:=h5.o.free 3;have x3:=h5.o.k 3;go_upto_region 6 with fail;have h6:=h5.put 3 (.slice (some ⟨g3,0,none⟩) m3 m3);generalize w5.setCell ⟨w.heap.size+1+1,3,none⟩ (.slice (some ⟨g3,0,none⟩) m3 m3)=w6 at *;clear z3 x3 h5;have q4:=h6.a.k 4;have z4:=h6.o.free 4;have x4:=h6.o.k 4;go_wp2_with fail;refine(H4 w6 h6.y).mono ?_;rintro e w7 ⟨g4,m4,rfl,hh4,hb4⟩;have h7:=h6.call hh4 hb4;clear q4 z4 x4 h6 hh4 hb4 H4;have z4:=h7.o.free 4;have x4:=h7.o.k 4;go_upto_region 7 with fail;have h8:=h7.put 4 (.slice (some ⟨g4,0,none⟩) m4 m4);generalize w7.setCell ⟨w.heap.size+1+1,4,none⟩ (.slice (some ⟨g4,0,none⟩) m4 m4)=w8 at *;clear z4 x4 h7;have q5:=h8.a.k 5;have z5:=h8.o.free 5;have x5:=h8.o.k 5;go_wp2_with fail;refine(H5 w8 h8.y).mono ?_;rintro e w9 ⟨g5,m5,rfl,hh5,hb5⟩;have h9:=h8.call hh5 hb5;clear q5 z5 x5 h8 hh5 hb5 H5;have z5:=h9.o.free 5;have x5:=h9.o.k 5;have hr:=h9.z;obtain⟨d0,d1,d2,d3,d4,d5⟩:=hr.c6;refine M9128 ?_;intro e0 e1 e2 e3;have e4:=hr.free 4;have e5:=hr.free 5;obtain⟨o0,o1,o2,o3,o4,o5⟩:=h9.o.c6;go_wp2_with fail;have h10:=h9.put 5 (.slice (some ⟨g5,0,none⟩) m5 m5);have hf:=h10.finish
  refine zJ0 (v:=.agg #[.int .i64 p0,.int .i64 p1,.slice (some ⟨g2,0,none⟩) m2 m2,.slice (some ⟨g3,0,none⟩) m3 m3,.slice (some ⟨g4,0,none⟩) m4 m4,.slice (some ⟨g5,0,none⟩) m5 m5]) (by simp only[results,Tryz.results193];simp[go_sem,d0,d1,d2,d3,d4,d5]) rfl ⟨[.int .i64 p0,.int .i64 p1,.slice (some ⟨g2,0,none⟩) m2 m2,.slice (some ⟨g3,0,none⟩) m3 m3,.slice (some ⟨g4,0,none⟩) m4 m4,.slice (some ⟨g5,0,none⟩) m5 m5],rfl,rfl,hf.1,hf.2⟩
theorem aG9 (a0:Option Addr)(n0 c0:Nat)(f0:Fl)(t1:Bool)(a2:Option Addr)(n2 c2:Nat)(f2:Fl)(a3:Option Addr)(n3 c3:Nat)(f3:Fl)(a4:Option Addr)(n4 c4:Nat)(f4:Fl)(w:World)
    (H0:ToV w 80 f0 (.slice a0 n0 c0)) (H2:ToV w 165 f2 (.slice a2 n2 c2)) (H3:ToV w 81 f3 (.slice a3 n3 c3)) (H4:ToV w 166 f4 (.slice a4 n4 c4)):
    Calls Tryz.prog 124 #[.agg #[.slice a0 n0 c0,.bool t1,.slice a2 n2 c2,.slice a3 n3 c3,.slice a4 n4 c4]] w fun e w'=>∃us,e=.returned (.agg (List.toArray us))/\us.length=5/\bJ w' w.heap.size w'.heap.size [f0,.t t1,f2,f3,f4] us/\Below w.heap.size w w':=by
  go_enter Tryz.func124,Tryz.ntmps124;go_upto_region 2 with fail;have h0:=TS.start w 169 95 [.slice a0 n0 c0,.bool t1,.slice a2 n2 c2,.slice a3 n3 c3,.slice a4 n4 c4] [.slice none 0 0,.bool false,.slice none 0 0,.slice none 0 0,.slice none 0 0];simp only[List.toArray]at h0;generalize ((w.alloc (.cells #[.slice a0 n0 c0,.bool t1,.slice a2 n2 c2,.slice a3 n3 c3,.slice a4 n4 c4] 169 (0,0))).alloc (.cells #[.slice none 0 0,.bool false,.slice none 0 0,.slice none 0 0,.slice none 0 0] 95 (0,0))).alloc (.cells #[.slice none 0 0,.bool false,.slice none 0 0,.slice none 0 0,.slice none 0 0] 95 (0,0))=w0 at *;have q0:=h0.a.k 0;have z0:=h0.o.free 0;have x0:=h0.o.k 0;go_wp2_with fail;refine(H0 w0 h0.y).mono ?_;rintro e w1 ⟨g0,m0,rfl,hh0,Ar⟩;refine M9207 ?_;clear q0 z0 x0 h0 hh0 Ar H0;intro h1 z0 x0;go_upto_region 3 with fail;have h2:=h1.put 0 (.slice (some ⟨g0,0,none⟩) m0 m0);generalize w1.setCell ⟨w.heap.size+1+1,0,none⟩ (.slice (some ⟨g0,0,none⟩) m0 m0)=w2 at *;clear z0 x0 h1;have q1:=h2.a.k 1;have z1:=h2.o.free 1;have x1:=h2.o.k 1;go_upto_region 4 with fail;have h3:=h2.plain 1 (.t t1) (.bool t1) (aK1 _);generalize w2.setCell ⟨w.heap.size+1+1,1,none⟩ (.bool t1)=w3 at *;clear z1 x1 h2 q1;have q2:=h3.a.k 2;have z2:=h3.o.free 2;have x2:=h3.o.k 2;go_wp2_with fail;refine(H2 w3 h3.y).mono ?_;rintro e w4 ⟨g2,m2,rfl,hh2,Ae⟩;have h4:=h3.call hh2 Ae;clear q2 z2 x2 h3 hh2 Ae H2;have z2:=h4.o.free 2;have x2:=h4.o.k 2;go_upto_region 5 with fail;have h5:=h4.put 2 (.slice (some ⟨g2,0,none⟩) m2 m2);generalize w4.setCell ⟨w.heap.size+1+1,2,none⟩ (.slice (some ⟨g2,0,none⟩) m2 m2)=w5 at *;clear z2 x2 h4;have q3:=h5.a.k 3;have z3:=h5.o.free 3;have x3:=h5.o.k 3;go_wp2_with fail;refine(H3 w5 h5.y).mono ?_;rintro e w6 ⟨g3,m3,rfl,hh3,hb3⟩;have h6:=h5.call hh3 hb3;clear q3 z3 x3 h5 hh3 hb3 H3;have z3:=h6.o.free 3;have x3:=h6.o.k 3;go_upto_region 6 with fail;have h7:=h6.put 3 (.slice (some ⟨g3,0,none⟩) m3 m3);generalize w6.setCell ⟨w.heap.size+1+1,3,none⟩ (.slice (some ⟨g3,0,none⟩) m3 m3)=w7 at *;clear z3 x3 h6;have q4:=h7.a.k 4;have z4:=h7.o.free 4;have x4:=h7.o.k 4;go_wp2_with fail;refine(H4 w7 h7.y).mono ?_;rintro e w8 ⟨g4,m4,rfl,hh4,hb4⟩;have h8:=h7.call hh4 hb4;clear q4 z4 x4 h7 hh4 hb4 H4;have z4:=h8.o.free 4;have x4:=h8.o.k 4;have hr:=h8.z;obtain⟨d0,d1,d2,d3,d4⟩:=hr.c5;refine M9128 ?_;intro e0 e1 e2 e3;have e4:=hr.free 4;obtain⟨o0,o1,o2,o3,o4⟩:=h8.o.c5;go_wp2_with fail;have h9:=h8.put 4 (.slice (some ⟨g4,0,none⟩) m4 m4);have hf:=h9.finish
  refine zJ0 (v:=.agg #[.slice (some ⟨g0,0,none⟩) m0 m0,.bool t1,.slice (some ⟨g2,0,none⟩) m2 m2,.slice (some ⟨g3,0,none⟩) m3 m3,.slice (some ⟨g4,0,none⟩) m4 m4]) (by simp only[results,Tryz.results124];simp[go_sem,d0,d1,d2,d3,d4]) rfl ⟨[.slice (some ⟨g0,0,none⟩) m0 m0,.bool t1,.slice (some ⟨g2,0,none⟩) m2 m2,.slice (some ⟨g3,0,none⟩) m3 m3,.slice (some ⟨g4,0,none⟩) m4 m4],rfl,rfl,hf.1,hf.2⟩
theorem tV (a0:Option Addr)(n0 c0:Nat)(f0:Fl)(a1:Option Addr)(n1 c1:Nat)(f1:Fl)(w:World)
    (H0:ToV w 80 f0 (.slice a0 n0 c0)) (H1:ToV w 167 f1 (.slice a1 n1 c1)):
    Calls Tryz.prog 125 #[.agg #[.slice a0 n0 c0,.slice a1 n1 c1]] w fun e w'=>∃us,e=.returned (.agg (List.toArray us))/\us.length=2/\bJ w' w.heap.size w'.heap.size [f0,f1] us/\Below w.heap.size w w':=by
  go_enter Tryz.func125,Tryz.ntmps125;go_upto_region 2 with fail;have h0:=TS.start w 171 62 [.slice a0 n0 c0,.slice a1 n1 c1] [.slice none 0 0,.slice none 0 0];simp only[List.toArray]at h0;generalize ((w.alloc (.cells #[.slice a0 n0 c0,.slice a1 n1 c1] 171 (0,0))).alloc (.cells #[.slice none 0 0,.slice none 0 0] 62 (0,0))).alloc (.cells #[.slice none 0 0,.slice none 0 0] 62 (0,0))=w0 at *;have q0:=h0.a.k 0;have z0:=h0.o.free 0;have x0:=h0.o.k 0;go_wp2_with fail;refine(H0 w0 h0.y).mono ?_;rintro e w1 ⟨g0,m0,rfl,hh0,Ar⟩;refine M9207 ?_;clear q0 z0 x0 h0 hh0 Ar H0;intro h1 z0 x0;go_upto_region 3 with fail;have h2:=h1.put 0 (.slice (some ⟨g0,0,none⟩) m0 m0);generalize w1.setCell ⟨w.heap.size+1+1,0,none⟩ (.slice (some ⟨g0,0,none⟩) m0 m0)=w2 at *;clear z0 x0 h1;have q1:=h2.a.k 1;have z1:=h2.o.free 1;have x1:=h2.o.k 1;go_wp2_with fail;refine(H1 w2 h2.y).mono ?_;rintro e w3 ⟨g1,m1,rfl,hh1,hb1⟩;have h3:=h2.call hh1 hb1;clear q1 z1 x1 h2 hh1 hb1 H1;have z1:=h3.o.free 1;have x1:=h3.o.k 1;have hr:=h3.z;obtain⟨d0,d1⟩:=hr.c2;have e0:=hr.free 0;have e1:=hr.free 1;obtain⟨o0,o1⟩:=h3.o.c2;go_wp2_with fail;have h4:=h3.put 1 (.slice (some ⟨g1,0,none⟩) m1 m1);have hf:=h4.finish
  refine zJ0 (v:=.agg #[.slice (some ⟨g0,0,none⟩) m0 m0,.slice (some ⟨g1,0,none⟩) m1 m1]) (by simp only[results,Tryz.results125];simp[go_sem,d0,d1]) rfl ⟨[.slice (some ⟨g0,0,none⟩) m0 m0,.slice (some ⟨g1,0,none⟩) m1 m1],rfl,rfl,hf.1,hf.2⟩
theorem aHb (a0:Option Addr)(n0 c0:Nat)(f0:Fl)(a1:Option Addr)(n1 c1:Nat)(f1:Fl)(w:World)
    (H0:ToV w 80 f0 (.slice a0 n0 c0)) (H1:ToV w 84 f1 (.slice a1 n1 c1)):
    Calls Tryz.prog 44 #[.agg #[.slice a0 n0 c0,.slice a1 n1 c1]] w fun e w'=>∃us,e=.returned (.agg (List.toArray us))/\us.length=2/\bJ w' w.heap.size w'.heap.size [f0,f1] us/\Below w.heap.size w w':=by
  go_enter Tryz.func44,Tryz.ntmps44;go_upto_region 2 with fail;have h0:=TS.start w 82 52 [.slice a0 n0 c0,.slice a1 n1 c1] [.slice none 0 0,.slice none 0 0];simp only[List.toArray]at h0;generalize ((w.alloc (.cells #[.slice a0 n0 c0,.slice a1 n1 c1] 82 (0,0))).alloc (.cells #[.slice none 0 0,.slice none 0 0] 52 (0,0))).alloc (.cells #[.slice none 0 0,.slice none 0 0] 52 (0,0))=w0 at *;have q0:=h0.a.k 0;have z0:=h0.o.free 0;have x0:=h0.o.k 0;go_wp2_with fail;refine(H0 w0 h0.y).mono ?_;rintro e w1 ⟨g0,m0,rfl,hh0,Ar⟩;refine M9207 ?_;clear q0 z0 x0 h0 hh0 Ar H0;intro h1 z0 x0;go_upto_region 3 with fail;have h2:=h1.put 0 (.slice (some ⟨g0,0,none⟩) m0 m0);generalize w1.setCell ⟨w.heap.size+1+1,0,none⟩ (.slice (some ⟨g0,0,none⟩) m0 m0)=w2 at *;clear z0 x0 h1;have q1:=h2.a.k 1;have z1:=h2.o.free 1;have x1:=h2.o.k 1;go_wp2_with fail;refine(H1 w2 h2.y).mono ?_;rintro e w3 ⟨g1,m1,rfl,hh1,hb1⟩;have h3:=h2.call hh1 hb1;clear q1 z1 x1 h2 hh1 hb1 H1;have z1:=h3.o.free 1;have x1:=h3.o.k 1;have hr:=h3.z;obtain⟨d0,d1⟩:=hr.c2;have e0:=hr.free 0;have e1:=hr.free 1;obtain⟨o0,o1⟩:=h3.o.c2;go_wp2_with fail;have h4:=h3.put 1 (.slice (some ⟨g1,0,none⟩) m1 m1);have hf:=h4.finish
  refine zJ0 (v:=.agg #[.slice (some ⟨g0,0,none⟩) m0 m0,.slice (some ⟨g1,0,none⟩) m1 m1]) (by simp only[results,Tryz.results44];simp[go_sem,d0,d1]) rfl ⟨[.slice (some ⟨g0,0,none⟩) m0 m0,.slice (some ⟨g1,0,none⟩) m1 m1],rfl,rfl,hf.1,hf.2⟩
theorem aAv (a0:Option Addr)(n0 c0:Nat)(f0:Fl)(a1:Option Addr)(n1 c1:Nat)(f1:Fl)(a2:Option Addr)(n2 c2:Nat)(f2:Fl)(a3:Option Addr)(n3 c3:Nat)(f3:Fl)(w:World)
    (H0:ToV w 80 f0 (.slice a0 n0 c0)) (H1:ToV w 81 f1 (.slice a1 n1 c1)) (H2:ToV w 82 f2 (.slice a2 n2 c2)) (H3:ToV w 83 f3 (.slice a3 n3 c3)):
    Calls Tryz.prog 43 #[.agg #[.slice a0 n0 c0,.slice a1 n1 c1,.slice a2 n2 c2,.slice a3 n3 c3]] w fun e w'=>∃us,e=.returned (.agg (List.toArray us))/\us.length=4/\bJ w' w.heap.size w'.heap.size [f0,f1,f2,f3] us/\Below w.heap.size w w':=by
  go_enter Tryz.func43,Tryz.ntmps43;go_upto_region 2 with fail;have h0:=TS.start w 78 48 [.slice a0 n0 c0,.slice a1 n1 c1,.slice a2 n2 c2,.slice a3 n3 c3] [.slice none 0 0,.slice none 0 0,.slice none 0 0,.slice none 0 0];simp only[List.toArray]at h0;generalize ((w.alloc (.cells #[.slice a0 n0 c0,.slice a1 n1 c1,.slice a2 n2 c2,.slice a3 n3 c3] 78 (0,0))).alloc (.cells #[.slice none 0 0,.slice none 0 0,.slice none 0 0,.slice none 0 0] 48 (0,0))).alloc (.cells #[.slice none 0 0,.slice none 0 0,.slice none 0 0,.slice none 0 0] 48 (0,0))=w0 at *;have q0:=h0.a.k 0;have z0:=h0.o.free 0;have x0:=h0.o.k 0;go_wp2_with fail;refine(H0 w0 h0.y).mono ?_;rintro e w1 ⟨g0,m0,rfl,hh0,Ar⟩;refine M9207 ?_;clear q0 z0 x0 h0 hh0 Ar H0;intro h1 z0 x0;go_upto_region 3 with fail;have h2:=h1.put 0 (.slice (some ⟨g0,0,none⟩) m0 m0);generalize w1.setCell ⟨w.heap.size+1+1,0,none⟩ (.slice (some ⟨g0,0,none⟩) m0 m0)=w2 at *;clear z0 x0 h1;have q1:=h2.a.k 1;have z1:=h2.o.free 1;have x1:=h2.o.k 1;go_wp2_with fail;refine(H1 w2 h2.y).mono ?_;rintro e w3 ⟨g1,m1,rfl,hh1,hb1⟩;have h3:=h2.call hh1 hb1;clear q1 z1 x1 h2 hh1 hb1 H1;have z1:=h3.o.free 1;have x1:=h3.o.k 1;go_upto_region 4 with fail;have h4:=h3.put 1 (.slice (some ⟨g1,0,none⟩) m1 m1);generalize w3.setCell ⟨w.heap.size+1+1,1,none⟩ (.slice (some ⟨g1,0,none⟩) m1 m1)=w4 at *;clear z1 x1 h3;have q2:=h4.a.k 2;have z2:=h4.o.free 2;have x2:=h4.o.k 2;go_wp2_with fail;refine(H2 w4 h4.y).mono ?_;rintro e w5 ⟨g2,m2,rfl,hh2,Ae⟩;have h5:=h4.call hh2 Ae;clear q2 z2 x2 h4 hh2 Ae H2;have z2:=h5.o.free 2;have x2:=h5.o.k 2;go_upto_region 5 with fail;have h6:=h5.put 2 (.slice (some ⟨g2,0,none⟩) m2 m2);generalize w5.setCell ⟨w.heap.size+1+1,2,none⟩ (.slice (some ⟨g2,0,none⟩) m2 m2)=w6 at *;clear z2 x2 h5;have q3:=h6.a.k 3;have z3:=h6.o.free 3;have x3:=h6.o.k 3;go_wp2_with fail;refine(H3 w6 h6.y).mono ?_;rintro e w7 ⟨g3,m3,rfl,hh3,hb3⟩;have h7:=h6.call hh3 hb3;clear q3 z3 x3 h6 hh3 hb3 H3;have z3:=h7.o.free 3;have x3:=h7.o.k 3;have hr:=h7.z;obtain⟨d0,d1,d2,d3⟩:=hr.c4;refine M9128 ?_;intro e0 e1 e2 e3;obtain⟨o0,o1,o2,o3⟩:=h7.o.c4;go_wp2_with fail;have h8:=h7.put 3 (.slice (some ⟨g3,0,none⟩) m3 m3);have hf:=h8.finish
  refine zJ0 (v:=.agg #[.slice (some ⟨g0,0,none⟩) m0 m0,.slice (some ⟨g1,0,none⟩) m1 m1,.slice (some ⟨g2,0,none⟩) m2 m2,.slice (some ⟨g3,0,none⟩) m3 m3]) (by simp only[results,Tryz.results43];simp[go_sem,d0,d1,d2,d3]) rfl ⟨[.slice (some ⟨g0,0,none⟩) m0 m0,.slice (some ⟨g1,0,none⟩) m1 m1,.slice (some ⟨g2,0,none⟩) m2 m2,.slice (some ⟨g3,0,none⟩) m3 m3],rfl,rfl,hf.1,hf.2⟩
theorem aQ3 (t0:Bool)(p1:Int)(w:World)
     :
    Calls Tryz.prog 126 #[.agg #[.bool t0,.int .i64 p1]] w fun e w'=>∃us,e=.returned (.agg (List.toArray us))/\us.length=2/\bJ w' w.heap.size w'.heap.size [.t t0,.n p1] us/\Below w.heap.size w w':=by
  go_enter Tryz.func126,Tryz.ntmps126;go_upto_region 2 with fail;have h0:=TS.start w 182 98 [.bool t0,.int .i64 p1] [.bool false,.int .i64 0];simp only[List.toArray]at h0;generalize ((w.alloc (.cells #[.bool t0,.int .i64 p1] 182 (0,0))).alloc (.cells #[.bool false,.int .i64 0] 98 (0,0))).alloc (.cells #[.bool false,.int .i64 0] 98 (0,0))=w0 at *;have q0:=h0.a.k 0;have z0:=h0.o.free 0;have x0:=h0.o.k 0;go_upto_region 3 with fail;have h1:=h0.plain 0 (.t t0) (.bool t0) (aK1 _);generalize w0.setCell ⟨w.heap.size+1+1,0,none⟩ (.bool t0)=w1 at *;clear z0 x0 h0 q0;have q1:=h1.a.k 1;have z1:=h1.o.free 1;have x1:=h1.o.k 1;have hr:=h1.z;obtain⟨d0,d1⟩:=hr.c2;have e0:=hr.free 0;have e1:=hr.free 1;obtain⟨o0,o1⟩:=h1.o.c2;go_wp2_with fail;have h2:=h1.plain 1 (.n p1) (.int .i64 p1) (aCh _);have hf:=h2.finish
  refine zJ0 (v:=.agg #[.bool t0,.int .i64 p1]) (by simp only[results,Tryz.results126];simp[go_sem,d0,d1]) rfl ⟨[.bool t0,.int .i64 p1],rfl,rfl,hf.1,hf.2⟩
theorem aPy (p0:Int)(p1:Int)(p2:Int)(a3:Option Addr)(n3 c3:Nat)(f3:Fl)(p4:Int)(w:World)
    (H3:ToV w 85 f3 (.slice a3 n3 c3)):
    Calls Tryz.prog 45 #[.agg #[.int .i64 p0,.int .i64 p1,.int .i64 p2,.slice a3 n3 c3,.int .i64 p4]] w fun e w'=>∃us,e=.returned (.agg (List.toArray us))/\us.length=5/\bJ w' w.heap.size w'.heap.size [.n p0,.n p1,.n p2,f3,.n p4] us/\Below w.heap.size w w':=by
  go_enter Tryz.func45,Tryz.ntmps45;go_upto_region 2 with fail;have h0:=TS.start w 86 56 [.int .i64 p0,.int .i64 p1,.int .i64 p2,.slice a3 n3 c3,.int .i64 p4] [.int .i64 0,.int .i64 0,.int .i64 0,.slice none 0 0,.int .i64 0];simp only[List.toArray]at h0;generalize ((w.alloc (.cells #[.int .i64 p0,.int .i64 p1,.int .i64 p2,.slice a3 n3 c3,.int .i64 p4] 86 (0,0))).alloc (.cells #[.int .i64 0,.int .i64 0,.int .i64 0,.slice none 0 0,.int .i64 0] 56 (0,0))).alloc (.cells #[.int .i64 0,.int .i64 0,.int .i64 0,.slice none 0 0,.int .i64 0] 56 (0,0))=w0 at *;have q0:=h0.a.k 0;have z0:=h0.o.free 0;have x0:=h0.o.k 0;go_upto_region 3 with fail;have h1:=h0.plain 0 (.n p0) (.int .i64 p0) (aCh _);generalize w0.setCell ⟨w.heap.size+1+1,0,none⟩ (.int .i64 p0)=w1 at *;clear z0 x0 h0 q0;have q1:=h1.a.k 1;have z1:=h1.o.free 1;have x1:=h1.o.k 1;go_upto_region 4 with fail;have h2:=h1.plain 1 (.n p1) (.int .i64 p1) (aCh _);generalize w1.setCell ⟨w.heap.size+1+1,1,none⟩ (.int .i64 p1)=w2 at *;clear z1 x1 h1 q1;have q2:=h2.a.k 2;have z2:=h2.o.free 2;have x2:=h2.o.k 2;go_upto_region 5 with fail;have h3:=h2.plain 2 (.n p2) (.int .i64 p2) (aCh _);generalize w2.setCell ⟨w.heap.size+1+1,2,none⟩ (.int .i64 p2)=w3 at *;clear z2 x2 h2 q2;have q3:=h3.a.k 3;have z3:=h3.o.free 3;have x3:=h3.o.k 3;go_wp2_with fail;refine(H3 w3 h3.y).mono ?_;rintro e w4 ⟨g3,m3,rfl,hh3,hb3⟩;have h4:=h3.call hh3 hb3;clear q3 z3 x3 h3 hh3 hb3 H3;have z3:=h4.o.free 3;have x3:=h4.o.k 3;go_upto_region 6 with fail;have h5:=h4.put 3 (.slice (some ⟨g3,0,none⟩) m3 m3);generalize w4.setCell ⟨w.heap.size+1+1,3,none⟩ (.slice (some ⟨g3,0,none⟩) m3 m3)=w5 at *;clear z3 x3 h4;have q4:=h5.a.k 4;have z4:=h5.o.free 4;have x4:=h5.o.k 4;have hr:=h5.z;obtain⟨d0,d1,d2,d3,d4⟩:=hr.c5;refine M9128 ?_;intro e0 e1 e2 e3;have e4:=hr.free 4;obtain⟨o0,o1,o2,o3,o4⟩:=h5.o.c5;go_wp2_with fail;have h6:=h5.plain 4 (.n p4) (.int .i64 p4) (aCh _);have hf:=h6.finish
  refine zJ0 (v:=.agg #[.int .i64 p0,.int .i64 p1,.int .i64 p2,.slice (some ⟨g3,0,none⟩) m3 m3,.int .i64 p4]) (by simp only[results,Tryz.results45];simp[go_sem,d0,d1,d2,d3,d4]) rfl ⟨[.int .i64 p0,.int .i64 p1,.int .i64 p2,.slice (some ⟨g3,0,none⟩) m3 m3,.int .i64 p4],rfl,rfl,hf.1,hf.2⟩
theorem aP9 (a0:Option Addr)(n0 c0:Nat)(f0:Fl)(a1:Option Addr)(n1 c1:Nat)(f1:Fl)(a2:Option Addr)(n2 c2:Nat)(f2:Fl)(w:World)
    (H0:ToV w 20 f0 (.slice a0 n0 c0)) (H1:ToV w 21 f1 (.slice a1 n1 c1)) (H2:ToV w 22 f2 (.slice a2 n2 c2)):
    Calls Tryz.prog 6 #[.agg #[.slice a0 n0 c0,.slice a1 n1 c1,.slice a2 n2 c2]] w fun e w'=>∃us,e=.returned (.agg (List.toArray us))/\us.length=3/\bJ w' w.heap.size w'.heap.size [f0,f1,f2] us/\Below w.heap.size w w':=by
  go_enter Tryz.func6,Tryz.ntmps6;go_upto_region 2 with fail;have h0:=TS.start w 26 33 [.slice a0 n0 c0,.slice a1 n1 c1,.slice a2 n2 c2] [.slice none 0 0,.slice none 0 0,.slice none 0 0];simp only[List.toArray]at h0;generalize ((w.alloc (.cells #[.slice a0 n0 c0,.slice a1 n1 c1,.slice a2 n2 c2] 26 (0,0))).alloc (.cells #[.slice none 0 0,.slice none 0 0,.slice none 0 0] 33 (0,0))).alloc (.cells #[.slice none 0 0,.slice none 0 0,.slice none 0 0] 33 (0,0))=w0 at *;have q0:=h0.a.k 0;have z0:=h0.o.free 0;have x0:=h0.o.k 0;go_wp2_with fail;refine(H0 w0 h0.y).mono ?_;rintro e w1 ⟨g0,m0,rfl,hh0,Ar⟩;refine M9207 ?_;clear q0 z0 x0 h0 hh0 Ar H0;intro h1 z0 x0;go_upto_region 3 with fail;have h2:=h1.put 0 (.slice (some ⟨g0,0,none⟩) m0 m0);generalize w1.setCell ⟨w.heap.size+1+1,0,none⟩ (.slice (some ⟨g0,0,none⟩) m0 m0)=w2 at *;clear z0 x0 h1;have q1:=h2.a.k 1;have z1:=h2.o.free 1;have x1:=h2.o.k 1;go_wp2_with fail;refine(H1 w2 h2.y).mono ?_;rintro e w3 ⟨g1,m1,rfl,hh1,hb1⟩;have h3:=h2.call hh1 hb1;clear q1 z1 x1 h2 hh1 hb1 H1;have z1:=h3.o.free 1;have x1:=h3.o.k 1;go_upto_region 4 with fail;have h4:=h3.put 1 (.slice (some ⟨g1,0,none⟩) m1 m1);generalize w3.setCell ⟨w.heap.size+1+1,1,none⟩ (.slice (some ⟨g1,0,none⟩) m1 m1)=w4 at *;clear z1 x1 h3;have q2:=h4.a.k 2;have z2:=h4.o.free 2;have x2:=h4.o.k 2;go_wp2_with fail;refine(H2 w4 h4.y).mono ?_;rintro e w5 ⟨g2,m2,rfl,hh2,Ae⟩;have h5:=h4.call hh2 Ae;clear q2 z2 x2 h4 hh2 Ae H2;have z2:=h5.o.free 2;have x2:=h5.o.k 2;have hr:=h5.z;obtain⟨d0,d1,d2⟩:=hr.c3;have e0:=hr.free 0;have e1:=hr.free 1;have e2:=hr.free 2;obtain⟨o0,o1,o2⟩:=h5.o.c3;go_wp2_with fail;have h6:=h5.put 2 (.slice (some ⟨g2,0,none⟩) m2 m2);have hf:=h6.finish
  refine zJ0 (v:=.agg #[.slice (some ⟨g0,0,none⟩) m0 m0,.slice (some ⟨g1,0,none⟩) m1 m1,.slice (some ⟨g2,0,none⟩) m2 m2]) (by simp only[results,Tryz.results6];simp[go_sem,d0,d1,d2]) rfl ⟨[.slice (some ⟨g0,0,none⟩) m0 m0,.slice (some ⟨g1,0,none⟩) m1 m1,.slice (some ⟨g2,0,none⟩) m2 m2],rfl,rfl,hf.1,hf.2⟩
theorem V55{p:Prop}(h:p:=by have:=hZ (f:=fun x=>[Fl.b x]) hx;simp only[aH,Fl.len]at this;unfold bH at h;omega):p:=h
theorem U188{p:Prop}(h:p:=by
 exact⟨_,_,rfl,ht.done Hd.out V14,ht.below⟩):p:=h
theorem M999{p q:Prop}(k:q)(h:Kx q->p:=by
 intro kQ
 have e:aH x.fl=((x.mods.map Mo.fl).length+aF (x.mods.map Mo.fl))+((x.faces.map Fa.fl).length+aF (x.faces.map Fa.fl))+((x.script.map Ac.fl).length+aF (x.script.map Ac.fl)):=by simp[Wd.fl,aH,Fl.len] <;> omega
 rw[e]at h
 revert h;revert e
 exact kQ.o):p:=h ⟨k⟩
theorem M9102{p q:Prop}(k:q)(h:Kx q->p:=by
 intro kQ
 have e:aH m.fl=m.name.length+((bH m.uses).length+aF (bH m.uses))+((m.vars.map Va.fl).length+aF (m.vars.map Va.fl))+((m.procs.map Pr.fl).length+aF (m.procs.map Pr.fl)):=by simp[Mo.fl,aH,Fl.len] <;> omega
 rw[e]at h
 revert h;revert e
 exact kQ.o):p:=h ⟨k⟩
theorem M9166{p q:Prop}(k:q)(h:Kx q->p:=by
 intro kQ
 have e2:aH q.fl=q.name.length+((q.params.map Pa.fl).length+aF (q.params.map Pa.fl))+((bH q.locals).length+aF (bH q.locals))+((sts q.body).length+aF (sts q.body)):=by simp[Pr.fl,aH,Fl.len] <;> omega
 rw[e2]at this
 revert this;revert e2
 exact kQ.o):p:=h ⟨k⟩
theorem M9173{p q:Prop}(k:q)(h:Kx q->p:=by
 intro kQ
 have e:aH (St.mk k n a ks bs es).fl=a.length+((exs ks).length+aF (exs ks))+((sts bs).length+aF (sts bs))+((sts es).length+aF (sts es)):=by simp[St.fl,aH,Fl.len] <;> omega
 rw[e]at h
 revert h;revert e
 exact kQ.o):p:=h ⟨k⟩
def ToF (F:Nat)(f:Fl):Prop:=∀(w:World) (v:Value),f.Rd w v->ToV w F f v
def ToR (F K:Nat)(r:List Fl):Prop:=∀(w:World) (vs:List Value),aO w r vs->∀w1:World,Below w.heap.size w w1->Calls Tryz.prog F #[.agg vs.toArray] w1 fun e w'=>∃us,e=.returned (.agg (List.toArray us))/\us.length=K/\bJ w' w1.heap.size w'.heap.size r us/\Below w1.heap.size w1 w'
theorem aHw {w:World}{lo hi:Nat}{f:Fl}{u:Value}(h:f.Has w lo hi u)(hl:lo<=hi:=by omega):bJ w lo hi [f] [u]:=by
 unfold bJ;refine⟨u,[],hi,rfl,hl,zB0 _,h, ?_⟩;unfold bJ;rfl
theorem Blk.setAll {g:Nat}{T:TypeId}:∀(us:List Value) {W:World} {pre old post:List Value},Blk W g T (pre++old++post)->old.length=us.length->Blk (setAll W g pre.length us) g T (pre++us++post):=by
 intro us
 induction us with
 | nil=>intro W pre old post h hl;have:old=[]:=zE0 hl;subst this;exact h
 | cons u us ih=>
  intro W pre old post h hl
  cases old with
  | nil=>simp at hl
  | cons x old=>
   have h1:=h.set (i:=pre.length) u
   have e:(pre++x :: old++post).set pre.length u=(pre++[u])++old++post:=by simp
   rw[e]at h1
   have h2:=ih h1 (by simpa using hl)
   have e2:(pre++[u]).length=pre.length+1:=by simp
   rw[e2]at h2
   simpa [Go.Proofs.YtegkhlkjfeafjaaGreatDoor.setAll] using h2
structure TL (w wr:World) (T K n j:Nat) (rs:List (List Fl)) (vs rest:List Value):Prop where
 len:rest.length=(n-j)*K
 blk:Blk wr w.heap.size T (vs++rest)
 has:bQ wr K (w.heap.size+1) wr.heap.size (rs.take j) vs
 lenr:rs.length=n
 leqj:j<=n
 below:Below w.heap.size w wr
theorem TL.start {w wr:World}{T K n:Nat}{rs:List (List Fl)}{xs:List Value}(hn:rs.length=n)(h:wr.ownsRow w.heap.size T K (.slice (some ⟨w.heap.size,0,none⟩) n n) n xs)(hg:w.grownBy wr none):∃vs rest,TL w wr T K n 0 rs vs rest:=by
 have hl:=h.1
 rcases h.2 with⟨h',_⟩|⟨g',cap,cur,h',_,hgb,_,_,hs,ht⟩
 .
  simp at h'
 .
  simp only[Value.slice.injEq,zG3,Addr.mk.injEq,and_true,true_and]at h';obtain⟨rfl,rfl⟩:=h';rw[zD3 V52]at ht
  refine⟨[],xs,by simpa using hl, ?_, ?_,hn,zD1 _,(zD2 _ _).grown hg (zB0 _) V76⟩
  .
   show wr.heap[w.heap.size]?=_
   rw[hgb,<-ht];simp
  .
   rw[List.take_zero];unfold bQ;rfl
theorem TL.vlen {w wr:World}{T K n j:Nat}{rs:List (List Fl)}{vs rest:List Value}(h:TL w wr T K n j rs vs rest):vs.length=j*K:=by
 rw[h.has.len,List.length_take,h.lenr,Nat.min_eq_left h.leqj]
theorem TL.call {w w1 w2:World}{T K n j:Nat}{rs:List (List Fl)}{vs rest:List Value}(h:TL w w1 T K n j rs vs rest)(hb:Below w1.heap.size w1 w2):TL w w2 T K n j rs vs rest:=
 ⟨h.len,h.blk.below hb h.blk.lt,(h.has.stays (gG.of hb (zB0 _))).wide (zB0 _) hb.size,h.lenr,h.leqj,h.below.trans (hb.mono h.below.size)⟩
theorem TL.cells {w wr:World}{T K n j:Nat}{rs:List (List Fl)}{vs rest:List Value}(h:TL w wr T K n j rs vs rest)(hj:j<n):∀i,i<K->∃v,wr.cell? ⟨w.heap.size,j*K+i,none⟩=some v:=by
 intro i hi;have hv:=h.vlen;have hr:=h.len;have hp:K<=(n-j)*K:=Nat.le_mul_of_pos_left K V6;have Ai:i<rest.length:=V6;refine⟨rest[i],h.blk.cell ?_⟩;rw[List.getElem?_append_right V6,hv,Nat.add_sub_cancel_left];exact zA0 Ai
theorem TL.step {w w1 w2:World}{T K n j:Nat}{rs:List (List Fl)}{vs rest us:List Value}{r:List Fl}(h:TL w w1 T K n j rs vs rest)(hj:j<n)(hb:Below w1.heap.size w1 w2)(hr:rs[j]?=some r)(hl:us.length=K)(hh:bJ w2 w1.heap.size w2.heap.size r us):
  TL w (setAll w2 w.heap.size (j*K) us) T K n (j+1) rs (vs++us) (rest.drop K):=by
 have h2:=h.call hb;have hv:=h.vlen;have hp:K<=(n-j)*K:=Nat.le_mul_of_pos_left K V6;have hrl:=h.len
 have hb1:Blk (setAll w2 w.heap.size (j*K) us) w.heap.size T ((vs++us)++rest.drop K):=by
  have e:vs++rest=vs++rest.take K++rest.drop K:=by rw[zD0,List.take_append_drop]
  have:=h2.blk
  rw[e]at this
  have h3:=this.setAll us (by rw[List.length_take,hl];omega)
  rw[hv]at h3;exact h3
 have hlt1:=h.blk.lt
 have hrow:bQ w2 K (w.heap.size+1) w2.heap.size (rs.take (j+1)) (vs++us):=by
  obtain⟨hk,e⟩:=zC1.1 hr;rw[zF1 hk,e];exact(h.has.stays (gG.of hb (zB0 _))).snoc hh hl V6 hb.size
 have key:∀(l:List Value) (W:World) (i:Nat),Below w.heap.size w W->bQ W K (w.heap.size+1) w2.heap.size (rs.take (j+1)) (vs++us)->Below w.heap.size w (setAll W w.heap.size i l)/\bQ (setAll W w.heap.size i l) K (w.heap.size+1) w2.heap.size (rs.take (j+1)) (vs++us):=by
  intro l
  induction l with
  | nil=>intro W i a b;exact⟨a,b⟩
  | cons v l ih=>intro W i a b;exact ih _ _ (a.setCell V15 v) (b.stays (gG.put (.inl V6)))
 obtain⟨k1,k2⟩:=key us w2 (j*K) h2.below hrow
 refine⟨?_,hb1, ?_,h.lenr,by omega,k1⟩
 .
  rw[List.length_drop,hrl]
  have:n-j=(n-(j+1))+1:=V6
  rw[this,Nat.add_mul];omega
 .
  rw[oF];exact k2
theorem TL.done {w wr:World}{T K n:Nat}{rs:List (List Fl)}{vs rest:List Value}(h:TL w wr T K n n rs vs rest)(hn:rs.length=n)(hm:n<=maxLen):(Fl.l K rs).Has wr w.heap.size wr.heap.size (.slice (some ⟨w.heap.size,0,none⟩) n n):=by
 have hr:rest=[]:=zE0 (by rw[h.len];simp)
 have hb:=h.blk;have hh:=h.has;rw[hr,List.append_nil]at hb;rw[zD3 V6]at hh;unfold Fl.Has
 exact⟨w.heap.size,vs,T,by rw[hn],zB0 _,h.blk.lt,hb,by omega,hh⟩
theorem aEx:(Tryz.prog.info? 123).map (fun i=>(i.zero,i.size,i.bytes))=some (some (.agg #[.slice none 0 0,.int .i64 0]),2,32):=by kernel_rfl
theorem zK:(Tryz.prog.info? 126).map (fun i=>(i.zero,i.size,i.bytes))=some (some (.agg #[.slice none 0 0,.bool false]),2,32):=by kernel_rfl
theorem aCc:(Tryz.prog.info? 133).map (fun i=>(i.zero,i.size,i.bytes))=some (some (.agg #[.int .i64 0,.int .i64 0,.slice none 0 0,.slice none 0 0,.slice none 0 0]),5,88):=by kernel_rfl
theorem aB9:(Tryz.prog.info? 129).map (fun i=>(i.zero,i.size,i.bytes))=some (some (.agg #[.int .i64 0,.int .i64 0,.slice none 0 0,.slice none 0 0,.slice none 0 0,.slice none 0 0]),6,112):=by kernel_rfl
theorem aCa:(Tryz.prog.info? 95).map (fun i=>(i.zero,i.size,i.bytes))=some (some (.agg #[.slice none 0 0,.bool false,.slice none 0 0,.slice none 0 0,.slice none 0 0]),5,104):=by kernel_rfl
theorem qY:(Tryz.prog.info? 62).map (fun i=>(i.zero,i.size,i.bytes))=some (some (.agg #[.slice none 0 0,.slice none 0 0]),2,48):=by kernel_rfl
theorem aCb:(Tryz.prog.info? 52).map (fun i=>(i.zero,i.size,i.bytes))=some (some (.agg #[.slice none 0 0,.slice none 0 0]),2,48):=by kernel_rfl
theorem aQf:(Tryz.prog.info? 98).map (fun i=>(i.zero,i.size,i.bytes))=some (some (.agg #[.bool false,.int .i64 0]),2,16):=by kernel_rfl
theorem aO4:(Tryz.prog.info? 56).map (fun i=>(i.zero,i.size,i.bytes))=some (some (.agg #[.int .i64 0,.int .i64 0,.int .i64 0,.slice none 0 0,.int .i64 0]),5,56):=by kernel_rfl
theorem aO3:(Tryz.prog.info? 48).map (fun i=>(i.zero,i.size,i.bytes))=some (some (.agg #[.slice none 0 0,.slice none 0 0,.slice none 0 0,.slice none 0 0]),4,96):=by kernel_rfl
theorem zL:(Tryz.prog.info? 43).map (fun i=>(i.zero,i.size,i.bytes))=some (some (.slice none 0 0),1,24):=by kernel_rfl
theorem aAw (l:List (List Int))(hlen:(bH l).length<=1048576)(H:∀x ∈ l,ToF 80 (.b x)):ToF 81 (.l 1 (bH l)):=by
 intro w0 v hv w Ar;obtain⟨a,c,rfl,hl0⟩:=(hv.below Ar).list;clear hv Ar
 have hm:(bH l).length=l.length:=by simp[aJ,aM,bH]
 have hat:∀j,j<l.length->∃x ∈ l,(bH l)[j]?=some [.b x]:=by
  exact U9
 generalize hrs:bH l=rs at hl0 hm hat hlen ⊢;clear hrs;rw[<-hm]at hat;generalize hn:rs.length=n at hl0 hat hlen ⊢;clear hm;obtain⟨i0,hi,hz0,hz1,hz2⟩:=info_parts zL;have Hd:=hid hn;have HL:=hid hl0;have HA:=hid hat;have HH:=hid H;clear hat H;go_enter Tryz.func81,Tryz.ntmps81
 go_wp2_with (at_make;refine wpList_make_full _ rfl _ _ 44 rfl w.heap.size 43 i0 _ 1 Tryz.underlying44 hi hz0 hz1 _ _ _ _ n rfl rfl rfl rfl V50 V14 (zB0 _) ?_)
 intro w1 Av hgrow;have H1:=hid (TL.start Hd.out Av hgrow);clear Av hgrow
 rcases zG0 n with h0|Am
 .
  subst h0;clear hl0 hn;go_wp2_with fail;refine zH2 1 ?_;rw[zE2];go_wp2;go_ret;obtain⟨vs,rest,ht⟩:=H1.out;exact U188
 .
  obtain⟨b,off,rfl⟩:=hl0.addr V19;clear hl0 hn;go_wp2_with fail
  go_loopw [4] (fun i wr=>∃j:Nat,j<=n/\i=.int .i64 j/\Hid (∃vs rest,TL w wr 43 1 n j rs vs rest)) (fun i _=>n-(intOf i).toNat)
  case atStart=>exact⟨0,zD1 _,rfl,H1⟩
  case round=>
   obtain⟨j,hj,rfl,ht⟩:=hrel;clear H1
   by_cases Ai:j<n
   .
    obtain⟨vs0,rest,ht⟩:=ht.out;obtain⟨x,hx,Ak⟩:=HA.out j Ai
    obtain⟨vs,Ad,Ab⟩:=((show aS w (some ⟨b,off,none⟩) c 1 rs from HL.out).below ht.below |>.el Ak).vals
    obtain⟨y0,_,rfl,hy0,rfl⟩:=Ad;have HC:=HH.out x hx wr y0 hy0 wr (zD2 _ _);have HT:=hid ht;have HK:=hid Ak;clear ht Ak;obtain⟨a0,c0,rfl,d0⟩:=hy0
    have q0:wr.cell? ⟨b,off+j,none⟩=some _:=(by have:=Ab 0 _ rfl;simpa using this:wr.cell? ⟨b,off+j,none⟩=some (.slice a0 x.length c0))
    clear Ab d0 hx;go_wp2_with fail;refine HC.mono ?_;rintro e w2 ⟨g,m,rfl,hh,Ae⟩
    have HS:Hid _:=HT.out.step (us:=[.slice (some ⟨g,0,none⟩) m m]) Ai Ae HK.out rfl (aHw hh Ae.size)
    have hcs:=(HT.out.call Ae).cells Ai;obtain⟨v0,k0⟩:=hcs 0 V6;have z0:=(HT.out.call Ae).blk.free (j*1+0);clear hcs hh Ae HC HT HK q0;simp only[zG2,Nat.mul_one]at k0 z0;go_wp2;go_roundw
    case rel=>exact⟨j+1,by omega,by go_num,⟨_,_,by have:=HS.out;simpa [setAll] using this⟩⟩
    case measure=>simp[intOf];omega
   .
    have:j=n:=V6
    subst this;go_wp2;go_ret;obtain⟨vs,rest,ht⟩:=ht.out;exact U188
theorem aRw {l:List Value}(h:l.length=7):∃y0 y1 y2 y3 y4 y5 y6,l=[y0,y1,y2,y3,y4,y5,y6]:=by match l,h with|[y0,y1,y2,y3,y4,y5,y6],_=>exact⟨_,_,_,_,_,_,_,rfl⟩
theorem TL.pack {w wr:World}{T K n:Nat}{rs:List (List Fl)}{xs:List Value}(hn:rs.length=n)(h:wr.ownsRow w.heap.size T K (.slice (some ⟨w.heap.size,0,none⟩) n n) n xs)(hg:w.grownBy wr none):
  ∃I:World->Nat->Prop,I wr 0/\(∀x j,I x j->∃vs rest,TL w x T K n j rs vs rest)/\∀x j vs rest,TL w x T K n j rs vs rest->I x j:=
 ⟨fun x j=>∃vs rest,TL w x T K n j rs vs rest,TL.start hn h hg,fun _ _ h=>h,fun _ _ _ _ h=>⟨_,_,h⟩⟩
theorem TL.cellz {w wr:World}{T K n j:Nat}{rs:List (List Fl)}{vs rest:List Value}(h:TL w wr T K n j rs vs rest)(hj:j<n)(i:Nat)(hi:i<K):∃v,wr.cell? ⟨w.heap.size,j*K+i,none⟩=some v/\wr.frozen? ⟨w.heap.size,j*K+i,none⟩=false:=
 let ⟨v,hv⟩:=h.cells hj i hi
 ⟨v,hv,h.blk.free _⟩
theorem bJ.st {w:World}:∀{r:List Fl} {lo hi:Nat} {us:List Value},bJ w lo hi r us->∀(i:Nat) (u:Value),us[i]?=some u->∀(W:World) (a:Addr) (m:Mode),(store a u m).run Tryz.prog W=stored Tryz.prog W a u m:=by
 intro r
 induction r with
 | nil=>intro lo hi us h i u hu;unfold bJ at h;subst h;simp at hu
 | cons f r ih=>
  intro lo hi us h i u hu;unfold bJ at h;obtain⟨x,us',mid,rfl,_,_,hf,hr⟩:=h
  cases i with
  | succ i=>exact ih hr i u (by simpa using hu)
  | zero=>
   simp only[List.getElem?_cons_zero,zG3]at hu;subst hu;intro W a m
   cases f <;> unfold Fl.Has at hf
   .
    obtain⟨g,rfl,_⟩:=hf;exact run_store_slice ..
   .
    obtain⟨g,rfl,_⟩:=hf;exact run_store_slice ..
   .
    subst hf;exact run_store_int ..
   .
    subst hf;exact run_store_bool ..
   .
    obtain⟨g,vs,T,rfl,_⟩:=hf;exact run_store_slice ..
def aR6 (F G K:Nat):Prop:=∀rs:List (List Fl),rs.length<=1048576->(∀r ∈ rs,r.length=K/\ToR G K r)->ToF F (.l K rs)
theorem aN9:∀p ∈ ([
  (82,123,2),
  (165,192,2),
  (214,230,5),
  (166,193,6),
  (83,124,5),
  (84,125,2),
  (21,44,2),
  (85,126,2),
  (22,45,5),
  (20,43,4),
  ]:List (Nat × Nat × Nat)),aR6 p.1 p.2.1 p.2.2:=by
 simp only[List.forall_mem_cons]
 repeat' apply And.intro
 all_goals first|(intro _ h;cases h;done)|skip
 all_goals
  intro rs hlen H;intro w0 v hv w Ar;obtain⟨a,c,rfl,hl0⟩:=(hv.below Ar).list;clear hv Ar;generalize hn:rs.length=n at hl0 hlen ⊢;have Hd:=hid hn;have HL:=hid hl0;have HH:=hid H;clear H
  first
  | (obtain⟨i0,hi,hz0,hz1,hz2⟩:=info_parts aEx;go_enter Tryz.func82,Tryz.ntmps82;go_wp2_with (at_make;refine wpList_make_full _ rfl _ _ 45 rfl w.heap.size 123 i0 _ 2 Tryz.underlying45 hi hz0 hz1 _ _ _ _ n rfl rfl rfl rfl V50 V14 (zB0 _) ?_))
  | (obtain⟨i0,hi,hz0,hz1,hz2⟩:=info_parts zK;go_enter Tryz.func165,Tryz.ntmps165;go_wp2_with (at_make;refine wpList_make_full _ rfl _ _ 92 rfl w.heap.size 126 i0 _ 2 Tryz.underlying92 hi hz0 hz1 _ _ _ _ n rfl rfl rfl rfl V50 V14 (zB0 _) ?_))
  | (obtain⟨i0,hi,hz0,hz1,hz2⟩:=info_parts aCc;go_enter Tryz.func214,Tryz.ntmps214;go_wp2_with (at_make;refine wpList_make_full _ rfl _ _ 127 rfl w.heap.size 133 i0 _ 5 Tryz.underlying127 hi hz0 hz1 _ _ _ _ n rfl rfl rfl rfl V50 V14 (zB0 _) ?_))
  | (obtain⟨i0,hi,hz0,hz1,hz2⟩:=info_parts aB9;go_enter Tryz.func166,Tryz.ntmps166;go_wp2_with (at_make;refine wpList_make_full _ rfl _ _ 93 rfl w.heap.size 129 i0 _ 6 Tryz.underlying93 hi hz0 hz1 _ _ _ _ n rfl rfl rfl rfl V50 V14 (zB0 _) ?_))
  | (obtain⟨i0,hi,hz0,hz1,hz2⟩:=info_parts aCa;go_enter Tryz.func83,Tryz.ntmps83;go_wp2_with (at_make;refine wpList_make_full _ rfl _ _ 46 rfl w.heap.size 95 i0 _ 5 Tryz.underlying46 hi hz0 hz1 _ _ _ _ n rfl rfl rfl rfl V50 V14 (zB0 _) ?_))
  | (obtain⟨i0,hi,hz0,hz1,hz2⟩:=info_parts qY;go_enter Tryz.func84,Tryz.ntmps84;go_wp2_with (at_make;refine wpList_make_full _ rfl _ _ 50 rfl w.heap.size 62 i0 _ 2 Tryz.underlying50 hi hz0 hz1 _ _ _ _ n rfl rfl rfl rfl V50 V14 (zB0 _) ?_))
  | (obtain⟨i0,hi,hz0,hz1,hz2⟩:=info_parts aCb;go_enter Tryz.func21,Tryz.ntmps21;go_wp2_with (at_make;refine wpList_make_full _ rfl _ _ 30 rfl w.heap.size 52 i0 _ 2 Tryz.underlying30 hi hz0 hz1 _ _ _ _ n rfl rfl rfl rfl V50 V14 (zB0 _) ?_))
  | (obtain⟨i0,hi,hz0,hz1,hz2⟩:=info_parts aQf;go_enter Tryz.func85,Tryz.ntmps85;go_wp2_with (at_make;refine wpList_make_full _ rfl _ _ 54 rfl w.heap.size 98 i0 _ 2 Tryz.underlying54 hi hz0 hz1 _ _ _ _ n rfl rfl rfl rfl V50 V14 (zB0 _) ?_))
  | (obtain⟨i0,hi,hz0,hz1,hz2⟩:=info_parts aO4;go_enter Tryz.func22,Tryz.ntmps22;go_wp2_with (at_make;refine wpList_make_full _ rfl _ _ 31 rfl w.heap.size 56 i0 _ 5 Tryz.underlying31 hi hz0 hz1 _ _ _ _ n rfl rfl rfl rfl V50 V14 (zB0 _) ?_))
  | (obtain⟨i0,hi,hz0,hz1,hz2⟩:=info_parts aO3;go_enter Tryz.func20,Tryz.ntmps20;go_wp2_with (at_make;refine wpList_make_full _ rfl _ _ 29 rfl w.heap.size 48 i0 _ 4 Tryz.underlying29 hi hz0 hz1 _ _ _ _ n rfl rfl rfl rfl V50 V14 (zB0 _) ?_))
  intro w1 Av hgrow;obtain⟨I,I0,Iu,If⟩:=TL.pack Hd.out Av hgrow;have JU:=hid Iu;have JF:=hid If;have J0:=hid I0;clear Av hgrow I0 Iu If hi hz0 hz1 hz2
  rcases zG0 n with h0|Am
  .
   subst h0;clear hl0 hn;go_wp2_with fail;refine zH2 1 ?_;rw[zE2];go_wp2;go_ret;obtain⟨vs,rest,ht⟩:=JU.out _ _ J0.out;exact U188
  .
   obtain⟨b,off,rfl⟩:=hl0.addr V19;clear hl0 hn;go_wp2_with fail
   go_loopw [4] (fun i wr=>∃j:Nat,j<=n/\i=.int .i64 j/\Hid (I wr j)) (fun i _=>n-(intOf i).toNat)
   case atStart=>exact⟨0,zD1 _,rfl,J0⟩
   case round=>
    obtain⟨j,hj,rfl,ht⟩:=hrel;clear J0;obtain⟨vs0,rest,ht⟩:=JU.out _ _ ht.out
    by_cases Ai:j<n
    .
     obtain⟨x,Ak⟩:∃x,rs[j]?=some x:=⟨_,zA0 V92⟩
     obtain⟨vs,Ad,Ab⟩:=((show aS w (some ⟨b,off,none⟩) c _ rs from HL.out).below ht.below |>.el Ak).vals
     have HC:=(HH.out x (zA3 Ak)).2 wr vs Ad wr (zD2 _ _);have hvl:=Ad.lenS.trans (HH.out x (zA3 Ak)).1;have HT:=hid ht;have HK:=hid Ak;clear ht Ak Ad
     first
     | (obtain⟨y0,y1,rfl⟩:=aRt hvl)
     | (obtain⟨y0,y1,y2,rfl⟩:=aRs hvl)
     | (obtain⟨y0,y1,y2,y3,rfl⟩:=aRr hvl)
     | (obtain⟨y0,y1,y2,y3,y4,rfl⟩:=aRq hvl)
     | (obtain⟨y0,y1,y2,y3,y4,y5,rfl⟩:=aRp hvl)
     | (obtain⟨y0,y1,y2,y3,y4,y5,y6,rfl⟩:=aRw hvl)
     have q0:=Ab 0 _ rfl;have q1:=Ab 1 _ rfl
     try have q2:=Ab 2 _ rfl
     try have q3:=Ab 3 _ rfl
     try have q4:=Ab 4 _ rfl
     try have q5:=Ab 5 _ rfl
     try have q6:=Ab 6 _ rfl
     rw[zG2]at q0;clear Ab hvl;simp only[List.toArray]at HC;go_wp2_with fail;refine HC.mono ?_;clear q0 q1
     try clear q2
     try clear q3
     try clear q4
     try clear q5
     try clear q6
     rintro e w2 ⟨us,rfl,hl,hh,Ae⟩;have HS:=hid (HT.out.step Ai Ae HK.out hl hh);have hcs:=(HT.out.call Ae).cellz Ai;have hst:=hh.st
     first
     | (obtain⟨u0,u1,rfl⟩:=aRt hl)
     | (obtain⟨u0,u1,u2,rfl⟩:=aRs hl)
     | (obtain⟨u0,u1,u2,u3,rfl⟩:=aRr hl)
     | (obtain⟨u0,u1,u2,u3,u4,rfl⟩:=aRq hl)
     | (obtain⟨u0,u1,u2,u3,u4,u5,rfl⟩:=aRp hl)
     | (obtain⟨u0,u1,u2,u3,u4,u5,u6,rfl⟩:=aRw hl)
     have s0:=hst 0 _ rfl;have s1:=hst 1 _ rfl
     try have s2:=hst 2 _ rfl
     try have s3:=hst 3 _ rfl
     try have s4:=hst 4 _ rfl
     try have s5:=hst 5 _ rfl
     try have s6:=hst 6 _ rfl
     obtain⟨v0,k0,z0⟩:=hcs 0 (of_decide_eq_true rfl);obtain⟨v1,k1,z1⟩:=hcs 1 (of_decide_eq_true rfl)
     try obtain⟨v2,k2,z2⟩:=hcs 2 (of_decide_eq_true rfl)
     try obtain⟨v3,k3,z3⟩:=hcs 3 (of_decide_eq_true rfl)
     try obtain⟨v4,k4,z4⟩:=hcs 4 (of_decide_eq_true rfl)
     try obtain⟨v5,k5,z5⟩:=hcs 5 (of_decide_eq_true rfl)
     try obtain⟨v6,k6,z6⟩:=hcs 6 (of_decide_eq_true rfl)
     clear hcs hst hh Ae HC HT HK hl;simp only[zG2]at k0 z0;simp only[List.toArray];go_wp2;go_roundw
     case rel=>exact⟨j+1,by omega,by go_num,JF.out _ _ _ _ HS.out⟩
     case measure=>simp[intOf];omega
    .
     have:j=n:=V6
     subst this;go_wp2;go_ret;exact U188
theorem aG5 (l:List Va)(hlen:(l.map Va.fl).length<=1048576)(H:∀x ∈ l,ToR 123 2 (Va.fl x)):ToF 82 (.l 2 (l.map Va.fl)):=aN9 (82,123,2) V15 _ hlen (zG1.2 fun x hx=>⟨by first|rfl|(cases x;rfl),H x hx⟩)
theorem aAt (l:List Pa)(hlen:(l.map Pa.fl).length<=1048576)(H:∀x ∈ l,ToR 192 2 (Pa.fl x)):ToF 165 (.l 2 (l.map Pa.fl)):=aN9 (165,192,2) V15 _ hlen (zG1.2 fun x hx=>⟨by first|rfl|(cases x;rfl),H x hx⟩)
theorem vN (l:List Ex)(hlen:(exs l).length<=1048576)(H:∀x ∈ l,ToR 230 5 (Ex.fl x)):ToF 214 (.l 5 (exs l)):=by rw[aJ]at hlen ⊢;exact aN9 (214,230,5) V15 _ hlen (zG1.2 fun x hx=>⟨by first|rfl|(cases x;rfl),H x hx⟩)
theorem qJ (l:List St)(hlen:(sts l).length<=1048576)(H:∀x ∈ l,ToR 193 6 (St.fl x)):ToF 166 (.l 6 (sts l)):=by rw[aM]at hlen ⊢;exact aN9 (166,193,6) V15 _ hlen (zG1.2 fun x hx=>⟨by first|rfl|(cases x;rfl),H x hx⟩)
theorem aDz (l:List Pr)(hlen:(l.map Pr.fl).length<=1048576)(H:∀x ∈ l,ToR 124 5 (Pr.fl x)):ToF 83 (.l 5 (l.map Pr.fl)):=aN9 (83,124,5) V15 _ hlen (zG1.2 fun x hx=>⟨by first|rfl|(cases x;rfl),H x hx⟩)
theorem rW (l:List Fp)(hlen:(l.map Fp.fl).length<=1048576)(H:∀x ∈ l,ToR 125 2 (Fp.fl x)):ToF 84 (.l 2 (l.map Fp.fl)):=aN9 (84,125,2) V15 _ hlen (zG1.2 fun x hx=>⟨by first|rfl|(cases x;rfl),H x hx⟩)
theorem aD2 (l:List Fa)(hlen:(l.map Fa.fl).length<=1048576)(H:∀x ∈ l,ToR 44 2 (Fa.fl x)):ToF 21 (.l 2 (l.map Fa.fl)):=aN9 (21,44,2) V15 _ hlen (zG1.2 fun x hx=>⟨by first|rfl|(cases x;rfl),H x hx⟩)
theorem aQn (l:List Ag)(hlen:(l.map Ag.fl).length<=1048576)(H:∀x ∈ l,ToR 126 2 (Ag.fl x)):ToF 85 (.l 2 (l.map Ag.fl)):=aN9 (85,126,2) V15 _ hlen (zG1.2 fun x hx=>⟨by first|rfl|(cases x;rfl),H x hx⟩)
theorem aPe (l:List Ac)(hlen:(l.map Ac.fl).length<=1048576)(H:∀x ∈ l,ToR 45 5 (Ac.fl x)):ToF 22 (.l 5 (l.map Ac.fl)):=aN9 (22,45,5) V15 _ hlen (zG1.2 fun x hx=>⟨by first|rfl|(cases x;rfl),H x hx⟩)
theorem aPd (l:List Mo)(hlen:(l.map Mo.fl).length<=1048576)(H:∀x ∈ l,ToR 43 4 (Mo.fl x)):ToF 20 (.l 4 (l.map Mo.fl)):=aN9 (20,43,4) V15 _ hlen (zG1.2 fun x hx=>⟨by first|rfl|(cases x;rfl),H x hx⟩)
theorem iG (l:List Int)(hl:l.length<=1048576):ToF 80 (.b l):=by
 rintro w v hv w1 hb;obtain⟨a,c,rfl,hr,_⟩:=hv.below hb;refine(aMj a l.length c l w1 hr hl).mono ?_;rintro e w' ⟨rfl,ho,_,hb1,Ai⟩;refine⟨_,_,rfl, ?_,hb1⟩;unfold Fl.Has
 exact⟨_,rfl,zB0 _,Ai,rL ho.1,ho.2,by unfold maxLen;omega⟩
theorem pE {w:World}{base g n:Nat}{xs:List Value}(h:w.ownsRow base 3 1 (.slice (some ⟨g,0,none⟩) n n) n xs):w.heap[g]?=some (.cells xs.toArray 3 (0,0)):=by
 exact U325
theorem aJu (l:List Int)(hl:l.length<=1048576):ToF 167 (.i l):=by
 rintro w v hv w1 hb;obtain⟨a,c,rfl,hr,_⟩:=hv.below hb;refine(aMi a l.length c l w1 hr hl).mono ?_;rintro e w' ⟨rfl,ho,_,hb1,Ai⟩;refine⟨_,_,rfl, ?_,hb1⟩;unfold Fl.Has
 exact⟨_,rfl,zB0 _,Ai,pE ho.1,ho.2,by unfold maxLen;omega⟩
theorem ToV.on {w w1:World}{F:Nat}{f:Fl}{v:Value}(h:ToV w F f v)(hb:Below w.heap.size w w1):ToV w1 F f v:=
 fun w2 Ae=>h w2 (hb.trans (Ae.mono hb.size))
theorem aP8 (x0:List Mo)(x1:List Fa)(x2:List Ac)(S0:ToF 20 (.l 4 (x0.map Mo.fl)))(S1:ToF 21 (.l 2 (x1.map Fa.fl)))(S2:ToF 22 (.l 5 (x2.map Ac.fl))):ToR 6 3 (Wd.mk x0 x1 x2).fl:=by
 intro w vs hv w1 hb;unfold Wd.fl at hv ⊢;obtain⟨y0,_,rfl,h0,y1,_,rfl,h1,y2,_,rfl,h2,rfl⟩:=hv;have g0:=(S0 w _ h0).on hb;have g1:=(S1 w _ h1).on hb;have g2:=(S2 w _ h2).on hb;obtain⟨a0,c0,rfl,_⟩:=h0;obtain⟨a1,c1,rfl,_⟩:=h1;obtain⟨a2,c2,rfl,_⟩:=h2;exact aP9 a0 _ c0 _ a1 _ c1 _ a2 _ c2 _ w1 g0 g1 g2
theorem aQ2 (x0:Bool)(x1:Int) :ToR 126 2 (Ag.mk x0 x1).fl:=by
 intro w vs hv w1 hb;unfold Ag.fl at hv ⊢;obtain⟨y0,_,rfl,rfl,y1,_,rfl,rfl,rfl⟩:=hv;exact aQ3 x0 x1 w1
theorem aPx (x0:Int)(x1:Int)(x2:Int)(x3:List Ag)(x4:Int)(S3:ToF 85 (.l 2 (x3.map Ag.fl))):ToR 45 5 (Ac.mk x0 x1 x2 x3 x4).fl:=by
 intro w vs hv w1 hb;unfold Ac.fl at hv ⊢;obtain⟨y0,_,rfl,rfl,y1,_,rfl,rfl,y2,_,rfl,rfl,y3,_,rfl,h3,y4,_,rfl,rfl,rfl⟩:=hv;have g3:=(S3 w _ h3).on hb;obtain⟨a3,c3,rfl,_⟩:=h3;exact aPy x0 x1 x2 a3 _ c3 _ x4 w1 g3
theorem aJs (x0:List Int)(x1:Int)(S0:ToF 80 (.b x0)):ToR 123 2 (Va.mk x0 x1).fl:=by
 intro w vs hv w1 hb;unfold Va.fl at hv ⊢;obtain⟨y0,_,rfl,h0,y1,_,rfl,rfl,rfl⟩:=hv;have g0:=(S0 w _ h0).on hb;obtain⟨a0,c0,rfl,_⟩:=h0;exact aJt a0 _ c0 _ x1 w1 g0
theorem aD0 (x0:List Int)(x1:Bool)(S0:ToF 80 (.b x0)):ToR 192 2 (Pa.mk x0 x1).fl:=by
 intro w vs hv w1 hb;unfold Pa.fl at hv ⊢;obtain⟨y0,_,rfl,h0,y1,_,rfl,rfl,rfl⟩:=hv;have g0:=(S0 w _ h0).on hb;obtain⟨a0,c0,rfl,_⟩:=h0;exact aD1 a0 _ c0 _ x1 w1 g0
theorem aHd (x0:Int)(x1:Int)(x2:List Int)(x3:List Int)(x4:List Ex)(S2:ToF 80 (.b x2))(S3:ToF 80 (.b x3))(S4:ToF 214 (.l 5 (exs x4))):ToR 230 5 (Ex.mk x0 x1 x2 x3 x4).fl:=by
 intro w vs hv w1 hb;unfold Ex.fl at hv ⊢;obtain⟨y0,_,rfl,rfl,y1,_,rfl,rfl,y2,_,rfl,h2,y3,_,rfl,h3,y4,_,rfl,h4,rfl⟩:=hv;refine M9155 ?_;intro g2 g3 g4;obtain⟨a2,c2,rfl,_⟩:=h2;obtain⟨a3,c3,rfl,_⟩:=h3;obtain⟨a4,c4,rfl,_⟩:=h4;exact aHe x0 x1 a2 _ c2 _ a3 _ c3 _ a4 _ c4 _ w1 g2 g3 g4
theorem aG6 (x0:Int)(x1:Int)(x2:List Int)(x3:List Ex)(x4:List St)(x5:List St)(S2:ToF 80 (.b x2))(S3:ToF 214 (.l 5 (exs x3)))(S4:ToF 166 (.l 6 (sts x4)))(S5:ToF 166 (.l 6 (sts x5))):ToR 193 6 (St.mk x0 x1 x2 x3 x4 x5).fl:=by
 intro w vs hv w1 hb;unfold St.fl at hv ⊢;obtain⟨y0,_,rfl,rfl,y1,_,rfl,rfl,y2,_,rfl,h2,y3,_,rfl,h3,y4,_,rfl,h4,y5,_,rfl,h5,rfl⟩:=hv;refine M9155 ?_;intro g2 g3 g4;have g5:=(S5 w _ h5).on hb;obtain⟨a2,c2,rfl,_⟩:=h2;obtain⟨a3,c3,rfl,_⟩:=h3;obtain⟨a4,c4,rfl,_⟩:=h4;obtain⟨a5,c5,rfl,_⟩:=h5;exact aG7 x0 x1 a2 _ c2 _ a3 _ c3 _ a4 _ c4 _ a5 _ c5 _ w1 g2 g3 g4 g5
theorem aG8 (x0:List Int)(x1:Bool)(x2:List Pa)(x3:List (List Int))(x4:List St)(S0:ToF 80 (.b x0))(S2:ToF 165 (.l 2 (x2.map Pa.fl)))(S3:ToF 81 (.l 1 (bH x3)))(S4:ToF 166 (.l 6 (sts x4))):ToR 124 5 (Pr.mk x0 x1 x2 x3 x4).fl:=by
 intro w vs hv w1 hb;unfold Pr.fl at hv ⊢;obtain⟨y0,_,rfl,h0,y1,_,rfl,rfl,y2,_,rfl,h2,y3,_,rfl,h3,y4,_,rfl,h4,rfl⟩:=hv;have g0:=(S0 w _ h0).on hb;refine M9155 ?_;intro g2 g3 g4;obtain⟨a0,c0,rfl,_⟩:=h0;obtain⟨a2,c2,rfl,_⟩:=h2;obtain⟨a3,c3,rfl,_⟩:=h3;obtain⟨a4,c4,rfl,_⟩:=h4;exact aG9 a0 _ c0 _ x1 a2 _ c2 _ a3 _ c3 _ a4 _ c4 _ w1 g0 g2 g3 g4
theorem tU (x0:List Int)(x1:List Int)(S0:ToF 80 (.b x0))(S1:ToF 167 (.i x1)):ToR 125 2 (Fp.mk x0 x1).fl:=by
 intro w vs hv w1 hb;unfold Fp.fl at hv ⊢;obtain⟨y0,_,rfl,h0,y1,_,rfl,h1,rfl⟩:=hv;have g0:=(S0 w _ h0).on hb;have g1:=(S1 w _ h1).on hb;obtain⟨a0,c0,rfl,_⟩:=h0;obtain⟨a1,c1,rfl,_⟩:=h1;exact tV a0 _ c0 _ a1 _ c1 _ w1 g0 g1
theorem aHa (x0:List Int)(x1:List Fp)(S0:ToF 80 (.b x0))(S1:ToF 84 (.l 2 (x1.map Fp.fl))):ToR 44 2 (Fa.mk x0 x1).fl:=by
 intro w vs hv w1 hb;unfold Fa.fl at hv ⊢;obtain⟨y0,_,rfl,h0,y1,_,rfl,h1,rfl⟩:=hv;have g0:=(S0 w _ h0).on hb;have g1:=(S1 w _ h1).on hb;obtain⟨a0,c0,rfl,_⟩:=h0;obtain⟨a1,c1,rfl,_⟩:=h1;exact aHb a0 _ c0 _ a1 _ c1 _ w1 g0 g1
theorem aAu (x0:List Int)(x1:List (List Int))(x2:List Va)(x3:List Pr)(S0:ToF 80 (.b x0))(S1:ToF 81 (.l 1 (bH x1)))(S2:ToF 82 (.l 2 (x2.map Va.fl)))(S3:ToF 83 (.l 5 (x3.map Pr.fl))):ToR 43 4 (Mo.mk x0 x1 x2 x3).fl:=by
 intro w vs hv w1 hb;unfold Mo.fl at hv ⊢;obtain⟨y0,_,rfl,h0,y1,_,rfl,h1,y2,_,rfl,h2,y3,_,rfl,h3,rfl⟩:=hv;have g0:=(S0 w _ h0).on hb;have g1:=(S1 w _ h1).on hb;have g2:=(S2 w _ h2).on hb;have g3:=(S3 w _ h3).on hb;obtain⟨a0,c0,rfl,_⟩:=h0;obtain⟨a1,c1,rfl,_⟩:=h1;obtain⟨a2,c2,rfl,_⟩:=h2;obtain⟨a3,c3,rfl,_⟩:=h3;exact aAv a0 _ c0 _ a1 _ c1 _ a2 _ c2 _ a3 _ c3 _ w1 g0 g1 g2 g3
mutual
theorem aM3:∀e:Ex,aH e.fl<=1048576->ToR 230 5 e.fl
 | .mk k n m a ks,h=>by
  have e:aH (Ex.mk k n m a ks).fl=m.length+a.length+((exs ks).length+aF (exs ks)):=by simp[Ex.fl,aH,Fl.len] <;> omega
  rw[e]at h;exact aHd k n m a ks (iG m V6) (iG a V6) (vN ks V6 (aHc ks V6))
theorem aHc:∀(l:List Ex),aF (exs l)<=1048576->∀e ∈ l,ToR 230 5 e.fl
 | [],_,e,h=>by simp at h
 | x :: l,hl,e,h=>by
  simp only[exs,aF]at hl
  rcases zH0.1 h with h|h
  .
   rw[h];exact aM3 x V6
  .
   exact aHc l V6 e h
end
mutual
theorem aM1:∀e:St,aH e.fl<=1048576->ToR 193 6 e.fl
 | .mk k n a ks bs es,h=>by
  refine M9173 ?_;clear h;intro e h;exact aG6 k n a ks bs es (iG a V6) (vN ks V6 (aHc ks V6)) (qJ bs V6 (aDy bs V6)) (qJ es V6 (aDy es V6))
theorem aDy:∀(l:List St),aF (sts l)<=1048576->∀e ∈ l,ToR 193 6 e.fl
 | [],_,e,h=>by simp at h
 | x :: l,hl,e,h=>by
  simp only[sts,aF]at hl
  rcases zH0.1 h with h|h
  .
   rw[h];exact aM1 x V6
  .
   exact aDy l V6 e h
end
theorem hZ {α:Type}{f:α->List Fl}{l:List α}{x:α}(h:x ∈ l):aH (f x)<=aF (l.map f):=bK (List.mem_map_of_mem h)
theorem aM2 (f:Fa)(h:aH f.fl<=1048576):ToR 44 2 f.fl:=by
 have e:aH f.fl=f.name.length+((f.procs.map Fp.fl).length+aF (f.procs.map Fp.fl)):=by simp[Fa.fl,aH,Fl.len]
 rw[e]at h
 refine aHa f.name f.procs (iG _ V6) (rW _ V6 fun q hq=>?_)
 have:=hZ (f:=Fp.fl) hq
 simp only[Fp.fl,aH,Fl.len]at this;exact tU q.name q.kinds (iG _ V6) (aJu _ V6)
theorem aLk (l:List Fa)(h:(l.map Fa.fl).length+aF (l.map Fa.fl)<=1048576):ToF 21 (.l 2 (l.map Fa.fl)):=
 aD2 l V6 fun x hx=>aM2 x (by have:=hZ (f:=Fa.fl) hx;omega)
theorem aF2 (l:List (List Int))(h:(bH l).length+aF (bH l)<=1048576):ToF 81 (.l 1 (bH l)):=
 aAw l V6 fun x hx=>iG x V55
theorem aLj (m:Mo)(h:aH m.fl<=1048576):ToR 43 4 m.fl:=by
 refine M9102 ?_;clear h;intro e h
 refine aAu m.name m.uses m.vars m.procs (iG _ V6) (aF2 _ V6) (aG5 _ V6 fun v hv=>?_) (aDz _ V6 fun q hq=>?_)
 .
  have:=hZ (f:=Va.fl) hv
  simp only[Va.fl,aH,Fl.len]at this;exact aJs v.name v.size (iG _ V6)
 .
  have:=hZ (f:=Pr.fl) hq
  refine M9166 ?_;clear this;intro e2 this
  refine aG8 q.name q.opn q.params q.locals q.body (iG _ V6) (aAt _ V6 fun p hp=>?_) (aF2 _ V6) (qJ _ V6 (aDy _ V6))
  have h3:=hZ (f:=Pa.fl) hp;simp only[Pa.fl,aH,Fl.len]at h3;exact aD0 p.name p.arr (iG _ V6)
theorem aRo (l:List Ac)(h:(l.map Ac.fl).length+aF (l.map Ac.fl)<=1048576):ToF 22 (.l 5 (l.map Ac.fl)):=by
 refine aPe _ V6 fun q hq=>?_
 have:=hZ (f:=Ac.fl) hq
 have e2:aH q.fl=(q.args.map Ag.fl).length+aF (q.args.map Ag.fl):=by simp[Ac.fl,aH,Fl.len]
 rw[e2]at this
 exact aPx q.kind q.to q.proc q.args q.n (aQn _ V6 fun z _=>aQ2 z.arr z.n)
theorem aRn (x:Wd)(h:aH x.fl<=1048576):ToR 6 3 x.fl:=by
 refine M999 ?_;clear h;intro e h
 exact aP8 x.mods x.faces x.script (aPd _ V6 fun m hm=>aLj m (by have:=hZ (f:=Mo.fl) hm;omega)) (aLk _ V6) (aRo _ V6)
end Go.Proofs.YtegkhlkjfeafjaaGreatDoor

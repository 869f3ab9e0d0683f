import Derived.Test.YtnelibmaancmkaaGreatDoorTreeTo2
namespace Go.Proofs.YtnelibmaancmkaaGreatDoor
set_option maxHeartbeats 8000000
open Go.RowKit
set_option linter.unusedVariables false
set_option linter.unusedSimpArgs false
set_option maxRecDepth 100000
theorem U6{p:Prop}(h:p:=by
 have e1:∀j,wl.cell? ⟨k1,j,none⟩=wr.drew.cell? ⟨k1,j,none⟩:=fun j=>hb.cell (show k1<wr.heap.size from World.block_lt_of_cell? wr _ p0)
 have e2:∀j,wl.cell? ⟨k2,j,none⟩=wr.drew.cell? ⟨k2,j,none⟩:=fun j=>hb.cell (show k2<wr.heap.size from World.block_lt_of_cell? wr _ q0)
 simp only[e1,e2]
 exact Al):p:=h
theorem U23{p:Prop}(h:p:=by
 go_wp2_with fail
 refine wp_loop_rounds 1 ?_
 rw[rounds_succ]
 go_wp2_with fail
 go_ret
 exact⟨rfl,Below.refl _ _⟩):p:=h
theorem U24{p:Prop}(h:p:=by
 go_wp2_with fail
 go_roundw
 case rel=>exact⟨j+1,by omega,by go_num,hbw⟩
 case measure=>simp[intOf];omega):p:=h
theorem U32{p:Prop}(h:p:=by
 obtain⟨q0,q1⟩:=x.c2
 obtain⟨r0,r1⟩:=y.c2
 go_wp2_with fail
 refine(H0 w0 hb).mono ?_
 rintro e w1 ⟨rfl,Aj⟩
 clear q0 r0 q1 r1
 replace x:=x.below Aj x.lt
 replace y:=y.below Aj y.lt
 replace hb:Below w.heap.size w w1:=hb.trans (Aj.mono hb.size)
 clear Aj H0
 obtain⟨q0,q1⟩:=x.c2
 obtain⟨r0,r1⟩:=y.c2
 go_wp2_with fail
 refine(H1 w1 hb).mono ?_
 rintro e w2 ⟨rfl,Ae⟩
 clear q0 r0 q1 r1
 replace x:=x.below Ae x.lt
 replace y:=y.below Ae y.lt
 replace hb:Below w.heap.size w w2:=hb.trans (Ae.mono hb.size)
 clear Ae H1
 obtain⟨q0,q1⟩:=x.c2
 obtain⟨r0,r1⟩:=y.c2
 go_wp2_with fail
 go_ret
 exact⟨rfl,hb⟩):p:=h
theorem U59{p:Prop}(h:p:=by
 obtain⟨q0,q1⟩:=x.c2
 obtain⟨r0,r1⟩:=y.c2
 go_wp2_with fail
 refine(H0 w0 hb).mono ?_
 rintro e w1 ⟨rfl,Aj⟩
 clear q0 r0 q1 r1
 replace x:=x.below Aj x.lt
 replace y:=y.below Aj y.lt
 replace hb:Below w.heap.size w w1:=hb.trans (Aj.mono hb.size)
 clear Aj H0
 obtain⟨q0,q1⟩:=x.c2
 obtain⟨r0,r1⟩:=y.c2
 go_wp2_with fail
 go_ret
 exact⟨rfl,hb⟩):p:=h
theorem U71{p:Prop}(h:p:=by
 go_wp2_with fail
 go_ret
 exact⟨rfl,hb⟩):p:=h
theorem U72{p:Prop}(h:p:=by
 go_wp2_with fail
 go_ret
 exact⟨rfl,Au⟩):p:=h
def EqV (w:World)(F:Nat)(v u:Value):Prop:=
 ∀w1:World,Below w.heap.size w w1->Calls Tryz.prog F #[v,u] w1 fun e w'=>e=.returned (.bool true)/\Below w1.heap.size w1 w'
def EqF (F:Nat)(f:Fl):Prop:=∀(w:World) (v u:Value),f.Rd w v->f.Rd w u->EqV w F v u
def EqR (F:Nat)(r:List Fl):Prop:=∀(w:World) (vs us:List Value),aO w r vs->aO w r us->EqV w F (.agg vs.toArray) (.agg us.toArray)
theorem gZ (w:World)(t:TypeId)(A B:List Value):
  Blk ((w.alloc (.cells A.toArray t (0,0))).alloc (.cells B.toArray t (0,0))) w.heap.size t A/\Blk ((w.alloc (.cells A.toArray t (0,0))).alloc (.cells B.toArray t (0,0))) (w.heap.size+1) t B/\Below w.heap.size w ((w.alloc (.cells A.toArray t (0,0))).alloc (.cells B.toArray t (0,0))):=by
 have h:=Blk.new (w.alloc (.cells A.toArray t (0,0))) t B
 rw[show(w.alloc (.cells A.toArray t (0,0))).heap.size=w.heap.size+1 by simp]at h
 exact⟨(Blk.new w t A).old,h,((Below.refl _ _).alloc (Nat.le_refl _) _).alloc V15 _⟩
theorem aK7 (a0 b0:Option Addr)(n0 c0 d0:Nat)(p1:Int)(w:World)
  (H0:EqV w 42 (.slice a0 n0 c0) (.slice b0 n0 d0)):
  Calls Tryz.prog 100 #[.agg #[.slice a0 n0 c0,.int .i64 p1],.agg #[.slice b0 n0 d0,.int .i64 p1]] w fun e w'=>e=.returned (.bool true)/\Below w.heap.size w w':=by
 obtain⟨x,y,hb⟩:=gZ w 125 [.slice a0 n0 c0,.int .i64 p1] [.slice b0 n0 d0,.int .i64 p1]
 have hp1:(p1 != p1)=false:=by simp
 go_enter Tryz.func100,Tryz.ntmps100;go_upto_region 1 with fail;simp only[List.toArray]at x y hb;generalize (w.alloc (.cells #[.slice a0 n0 c0,.int .i64 p1] 125 (0,0))).alloc (.cells #[.slice b0 n0 d0,.int .i64 p1] 125 (0,0))=w0 at *;exact U59
theorem aFe (a0 b0:Option Addr)(n0 c0 d0:Nat)(t1:Bool)(w:World)
  (H0:EqV w 42 (.slice a0 n0 c0) (.slice b0 n0 d0)):
  Calls Tryz.prog 199 #[.agg #[.slice a0 n0 c0,.bool t1],.agg #[.slice b0 n0 d0,.bool t1]] w fun e w'=>e=.returned (.bool true)/\Below w.heap.size w w':=by
 obtain⟨x,y,hb⟩:=gZ w 128 [.slice a0 n0 c0,.bool t1] [.slice b0 n0 d0,.bool t1]
 have ht1:(t1 != t1)=false:=by simp
 go_enter Tryz.func199,Tryz.ntmps199;go_upto_region 1 with fail;simp only[List.toArray]at x y hb;generalize (w.alloc (.cells #[.slice a0 n0 c0,.bool t1] 128 (0,0))).alloc (.cells #[.slice b0 n0 d0,.bool t1] 128 (0,0))=w0 at *;exact U59
theorem aI3 (p0:Int)(p1:Int)(a2 b2:Option Addr)(n2 c2 d2:Nat)(a3 b3:Option Addr)(n3 c3 d3:Nat)(a4 b4:Option Addr)(n4 c4 d4:Nat)(w:World)
  (H2:EqV w 42 (.slice a2 n2 c2) (.slice b2 n2 d2)) (H3:EqV w 42 (.slice a3 n3 c3) (.slice b3 n3 d3)) (H4:EqV w 227 (.slice a4 n4 c4) (.slice b4 n4 d4)):
  Calls Tryz.prog 243 #[.agg #[.int .i64 p0,.int .i64 p1,.slice a2 n2 c2,.slice a3 n3 c3,.slice a4 n4 c4],.agg #[.int .i64 p0,.int .i64 p1,.slice b2 n2 d2,.slice b3 n3 d3,.slice b4 n4 d4]] w fun e w'=>e=.returned (.bool true)/\Below w.heap.size w w':=by
 obtain⟨x,y,hb⟩:=gZ w 135 [.int .i64 p0,.int .i64 p1,.slice a2 n2 c2,.slice a3 n3 c3,.slice a4 n4 c4] [.int .i64 p0,.int .i64 p1,.slice b2 n2 d2,.slice b3 n3 d3,.slice b4 n4 d4]
 have hp0:(p0 != p0)=false:=by simp
 have hp1:(p1 != p1)=false:=by simp
 go_enter Tryz.func243,Tryz.ntmps243;go_upto_region 1 with fail;simp only[List.toArray]at x y hb;generalize (w.alloc (.cells #[.int .i64 p0,.int .i64 p1,.slice a2 n2 c2,.slice a3 n3 c3,.slice a4 n4 c4] 135 (0,0))).alloc (.cells #[.int .i64 p0,.int .i64 p1,.slice b2 n2 d2,.slice b3 n3 d3,.slice b4 n4 d4] 135 (0,0))=w0 at *;obtain⟨q0,q1,q2,q3,q4⟩:=x.c5;obtain⟨r0,r1,r2,r3,r4⟩:=y.c5;go_wp2_with fail;refine(H2 w0 hb).mono ?_;rintro e w1 ⟨rfl,Aj⟩;clear q0 r0 q1 r1 q2 r2 q3 r3 q4 r4;replace x:=x.below Aj x.lt;replace y:=y.below Aj y.lt
 replace hb:Below w.heap.size w w1:=hb.trans (Aj.mono hb.size)
 clear Aj H2;obtain⟨q0,q1,q2,q3,q4⟩:=x.c5;obtain⟨r0,r1,r2,r3,r4⟩:=y.c5;go_wp2_with fail;refine(H3 w1 hb).mono ?_;rintro e w2 ⟨rfl,Ae⟩;clear q0 r0 q1 r1 q2 r2 q3 r3 q4 r4;replace x:=x.below Ae x.lt;replace y:=y.below Ae y.lt
 replace hb:Below w.heap.size w w2:=hb.trans (Ae.mono hb.size)
 clear Ae H3;obtain⟨q0,q1,q2,q3,q4⟩:=x.c5;obtain⟨r0,r1,r2,r3,r4⟩:=y.c5;go_wp2_with fail;refine(H4 w2 hb).mono ?_;rintro e w3 ⟨rfl,Bj⟩;clear q0 r0 q1 r1 q2 r2 q3 r3 q4 r4;replace x:=x.below Bj x.lt;replace y:=y.below Bj y.lt
 replace hb:Below w.heap.size w w3:=hb.trans (Bj.mono hb.size)
 clear Bj H4;obtain⟨q0,q1,q2,q3,q4⟩:=x.c5;obtain⟨r0,r1,r2,r3,r4⟩:=y.c5;exact U71
theorem aIw (p0:Int)(p1:Int)(a2 b2:Option Addr)(n2 c2 d2:Nat)(a3 b3:Option Addr)(n3 c3 d3:Nat)(a4 b4:Option Addr)(n4 c4 d4:Nat)(a5 b5:Option Addr)(n5 c5 d5:Nat)(w:World)
  (H2:EqV w 42 (.slice a2 n2 c2) (.slice b2 n2 d2)) (H3:EqV w 227 (.slice a3 n3 c3) (.slice b3 n3 d3)) (H4:EqV w 152 (.slice a4 n4 c4) (.slice b4 n4 d4)) (H5:EqV w 152 (.slice a5 n5 c5) (.slice b5 n5 d5)):
  Calls Tryz.prog 200 #[.agg #[.int .i64 p0,.int .i64 p1,.slice a2 n2 c2,.slice a3 n3 c3,.slice a4 n4 c4,.slice a5 n5 c5],.agg #[.int .i64 p0,.int .i64 p1,.slice b2 n2 d2,.slice b3 n3 d3,.slice b4 n4 d4,.slice b5 n5 d5]] w fun e w'=>e=.returned (.bool true)/\Below w.heap.size w w':=by
 obtain⟨x,y,hb⟩:=gZ w 131 [.int .i64 p0,.int .i64 p1,.slice a2 n2 c2,.slice a3 n3 c3,.slice a4 n4 c4,.slice a5 n5 c5] [.int .i64 p0,.int .i64 p1,.slice b2 n2 d2,.slice b3 n3 d3,.slice b4 n4 d4,.slice b5 n5 d5]
 have hp0:(p0 != p0)=false:=by simp
 have hp1:(p1 != p1)=false:=by simp
 go_enter Tryz.func200,Tryz.ntmps200;go_upto_region 1 with fail;simp only[List.toArray]at x y hb;generalize (w.alloc (.cells #[.int .i64 p0,.int .i64 p1,.slice a2 n2 c2,.slice a3 n3 c3,.slice a4 n4 c4,.slice a5 n5 c5] 131 (0,0))).alloc (.cells #[.int .i64 p0,.int .i64 p1,.slice b2 n2 d2,.slice b3 n3 d3,.slice b4 n4 d4,.slice b5 n5 d5] 131 (0,0))=w0 at *;obtain⟨q0,q1,q2,q3,q4,q5⟩:=x.c6;obtain⟨r0,r1,r2,r3,r4,r5⟩:=y.c6;go_wp2_with fail;refine(H2 w0 hb).mono ?_;rintro e w1 ⟨rfl,Aj⟩;clear q0 r0 q1 r1 q2 r2 q3 r3 q4 r4 q5 r5;replace x:=x.below Aj x.lt;replace y:=y.below Aj y.lt
 replace hb:Below w.heap.size w w1:=hb.trans (Aj.mono hb.size)
 clear Aj H2;obtain⟨q0,q1,q2,q3,q4,q5⟩:=x.c6;obtain⟨r0,r1,r2,r3,r4,r5⟩:=y.c6;go_wp2_with fail;refine(H3 w1 hb).mono ?_;rintro e w2 ⟨rfl,Ae⟩;clear q0 r0 q1 r1 q2 r2 q3 r3 q4 r4 q5 r5;replace x:=x.below Ae x.lt;replace y:=y.below Ae y.lt
 replace hb:Below w.heap.size w w2:=hb.trans (Ae.mono hb.size)
 clear Ae H3;obtain⟨q0,q1,q2,q3,q4,q5⟩:=x.c6;obtain⟨r0,r1,r2,r3,r4,r5⟩:=y.c6;go_wp2_with fail;refine(H4 w2 hb).mono ?_;rintro e w3 ⟨rfl,Bj⟩;clear q0 r0 q1 r1 q2 r2 q3 r3 q4 r4 q5 r5;replace x:=x.below Bj x.lt;replace y:=y.below Bj y.lt
 replace hb:Below w.heap.size w w3:=hb.trans (Bj.mono hb.size)
 clear Bj H4;obtain⟨q0,q1,q2,q3,q4,q5⟩:=x.c6;obtain⟨r0,r1,r2,r3,r4,r5⟩:=y.c6;go_wp2_with fail;refine(H5 w3 hb).mono ?_;rintro e w4 ⟨rfl,hb4⟩;clear q0 r0 q1 r1 q2 r2 q3 r3 q4 r4 q5 r5;replace x:=x.below hb4 x.lt;replace y:=y.below hb4 y.lt
 replace hb:Below w.heap.size w w4:=hb.trans (hb4.mono hb.size)
 clear hb4 H5;obtain⟨q0,q1,q2,q3,q4,q5⟩:=x.c6;obtain⟨r0,r1,r2,r3,r4,r5⟩:=y.c6;exact U71
theorem aIy (a0 b0:Option Addr)(n0 c0 d0:Nat)(t1:Bool)(a2 b2:Option Addr)(n2 c2 d2:Nat)(a3 b3:Option Addr)(n3 c3 d3:Nat)(a4 b4:Option Addr)(n4 c4 d4:Nat)(w:World)
  (H0:EqV w 42 (.slice a0 n0 c0) (.slice b0 n0 d0)) (H2:EqV w 151 (.slice a2 n2 c2) (.slice b2 n2 d2)) (H3:EqV w 43 (.slice a3 n3 c3) (.slice b3 n3 d3)) (H4:EqV w 152 (.slice a4 n4 c4) (.slice b4 n4 d4)):
  Calls Tryz.prog 101 #[.agg #[.slice a0 n0 c0,.bool t1,.slice a2 n2 c2,.slice a3 n3 c3,.slice a4 n4 c4],.agg #[.slice b0 n0 d0,.bool t1,.slice b2 n2 d2,.slice b3 n3 d3,.slice b4 n4 d4]] w fun e w'=>e=.returned (.bool true)/\Below w.heap.size w w':=by
 obtain⟨x,y,hb⟩:=gZ w 72 [.slice a0 n0 c0,.bool t1,.slice a2 n2 c2,.slice a3 n3 c3,.slice a4 n4 c4] [.slice b0 n0 d0,.bool t1,.slice b2 n2 d2,.slice b3 n3 d3,.slice b4 n4 d4]
 have ht1:(t1 != t1)=false:=by simp
 go_enter Tryz.func101,Tryz.ntmps101;go_upto_region 1 with fail;simp only[List.toArray]at x y hb;generalize (w.alloc (.cells #[.slice a0 n0 c0,.bool t1,.slice a2 n2 c2,.slice a3 n3 c3,.slice a4 n4 c4] 72 (0,0))).alloc (.cells #[.slice b0 n0 d0,.bool t1,.slice b2 n2 d2,.slice b3 n3 d3,.slice b4 n4 d4] 72 (0,0))=w0 at *;obtain⟨q0,q1,q2,q3,q4⟩:=x.c5;obtain⟨r0,r1,r2,r3,r4⟩:=y.c5;go_wp2_with fail;refine(H0 w0 hb).mono ?_;rintro e w1 ⟨rfl,Aj⟩;clear q0 r0 q1 r1 q2 r2 q3 r3 q4 r4;replace x:=x.below Aj x.lt;replace y:=y.below Aj y.lt
 replace hb:Below w.heap.size w w1:=hb.trans (Aj.mono hb.size)
 clear Aj H0;obtain⟨q0,q1,q2,q3,q4⟩:=x.c5;obtain⟨r0,r1,r2,r3,r4⟩:=y.c5;go_wp2_with fail;refine(H2 w1 hb).mono ?_;rintro e w2 ⟨rfl,Ae⟩;clear q0 r0 q1 r1 q2 r2 q3 r3 q4 r4;replace x:=x.below Ae x.lt;replace y:=y.below Ae y.lt
 replace hb:Below w.heap.size w w2:=hb.trans (Ae.mono hb.size)
 clear Ae H2;obtain⟨q0,q1,q2,q3,q4⟩:=x.c5;obtain⟨r0,r1,r2,r3,r4⟩:=y.c5;go_wp2_with fail;refine(H3 w2 hb).mono ?_;rintro e w3 ⟨rfl,Bj⟩;clear q0 r0 q1 r1 q2 r2 q3 r3 q4 r4;replace x:=x.below Bj x.lt;replace y:=y.below Bj y.lt
 replace hb:Below w.heap.size w w3:=hb.trans (Bj.mono hb.size)
 clear Bj H3;obtain⟨q0,q1,q2,q3,q4⟩:=x.c5;obtain⟨r0,r1,r2,r3,r4⟩:=y.c5;go_wp2_with fail;refine(H4 w3 hb).mono ?_;rintro e w4 ⟨rfl,hb4⟩;clear q0 r0 q1 r1 q2 r2 q3 r3 q4 r4;replace x:=x.below hb4 x.lt;replace y:=y.below hb4 y.lt
 replace hb:Below w.heap.size w w4:=hb.trans (hb4.mono hb.size)
 clear hb4 H4;obtain⟨q0,q1,q2,q3,q4⟩:=x.c5;obtain⟨r0,r1,r2,r3,r4⟩:=y.c5;exact U71
theorem vB (a0 b0:Option Addr)(n0 c0 d0:Nat)(a1 b1:Option Addr)(n1 c1 d1:Nat)(w:World)
  (H0:EqV w 42 (.slice a0 n0 c0) (.slice b0 n0 d0)) (H1:EqV w 201 (.slice a1 n1 c1) (.slice b1 n1 d1)):
  Calls Tryz.prog 153 #[.agg #[.slice a0 n0 c0,.slice a1 n1 c1],.agg #[.slice b0 n0 d0,.slice b1 n1 d1]] w fun e w'=>e=.returned (.bool true)/\Below w.heap.size w w':=by
 obtain⟨x,y,hb⟩:=gZ w 104 [.slice a0 n0 c0,.slice a1 n1 c1] [.slice b0 n0 d0,.slice b1 n1 d1];go_enter Tryz.func153,Tryz.ntmps153;go_upto_region 1 with fail;simp only[List.toArray]at x y hb;generalize (w.alloc (.cells #[.slice a0 n0 c0,.slice a1 n1 c1] 104 (0,0))).alloc (.cells #[.slice b0 n0 d0,.slice b1 n1 d1] 104 (0,0))=w0 at *;exact U32
theorem aI0 (a0 b0:Option Addr)(n0 c0 d0:Nat)(a1 b1:Option Addr)(n1 c1 d1:Nat)(w:World)
  (H0:EqV w 42 (.slice a0 n0 c0) (.slice b0 n0 d0)) (H1:EqV w 102 (.slice a1 n1 c1) (.slice b1 n1 d1)):
  Calls Tryz.prog 46 #[.agg #[.slice a0 n0 c0,.slice a1 n1 c1],.agg #[.slice b0 n0 d0,.slice b1 n1 d1]] w fun e w'=>e=.returned (.bool true)/\Below w.heap.size w w':=by
 obtain⟨x,y,hb⟩:=gZ w 79 [.slice a0 n0 c0,.slice a1 n1 c1] [.slice b0 n0 d0,.slice b1 n1 d1];go_enter Tryz.func46,Tryz.ntmps46;go_upto_region 1 with fail;simp only[List.toArray]at x y hb;generalize (w.alloc (.cells #[.slice a0 n0 c0,.slice a1 n1 c1] 79 (0,0))).alloc (.cells #[.slice b0 n0 d0,.slice b1 n1 d1] 79 (0,0))=w0 at *;exact U32
theorem aC6 (a0 b0:Option Addr)(n0 c0 d0:Nat)(a1 b1:Option Addr)(n1 c1 d1:Nat)(a2 b2:Option Addr)(n2 c2 d2:Nat)(a3 b3:Option Addr)(n3 c3 d3:Nat)(w:World)
  (H0:EqV w 42 (.slice a0 n0 c0) (.slice b0 n0 d0)) (H1:EqV w 43 (.slice a1 n1 c1) (.slice b1 n1 d1)) (H2:EqV w 44 (.slice a2 n2 c2) (.slice b2 n2 d2)) (H3:EqV w 45 (.slice a3 n3 c3) (.slice b3 n3 d3)):
  Calls Tryz.prog 11 #[.agg #[.slice a0 n0 c0,.slice a1 n1 c1,.slice a2 n2 c2,.slice a3 n3 c3],.agg #[.slice b0 n0 d0,.slice b1 n1 d1,.slice b2 n2 d2,.slice b3 n3 d3]] w fun e w'=>e=.returned (.bool true)/\Below w.heap.size w w':=by
 obtain⟨x,y,hb⟩:=gZ w 35 [.slice a0 n0 c0,.slice a1 n1 c1,.slice a2 n2 c2,.slice a3 n3 c3] [.slice b0 n0 d0,.slice b1 n1 d1,.slice b2 n2 d2,.slice b3 n3 d3];go_enter Tryz.func11,Tryz.ntmps11;go_upto_region 1 with fail;simp only[List.toArray]at x y hb;generalize (w.alloc (.cells #[.slice a0 n0 c0,.slice a1 n1 c1,.slice a2 n2 c2,.slice a3 n3 c3] 35 (0,0))).alloc (.cells #[.slice b0 n0 d0,.slice b1 n1 d1,.slice b2 n2 d2,.slice b3 n3 d3] 35 (0,0))=w0 at *;obtain⟨q0,q1,q2,q3⟩:=x.c4;obtain⟨r0,r1,r2,r3⟩:=y.c4;go_wp2_with fail;refine(H0 w0 hb).mono ?_;rintro e w1 ⟨rfl,Aj⟩;clear q0 r0 q1 r1 q2 r2 q3 r3;replace x:=x.below Aj x.lt;replace y:=y.below Aj y.lt
 replace hb:Below w.heap.size w w1:=hb.trans (Aj.mono hb.size)
 clear Aj H0;obtain⟨q0,q1,q2,q3⟩:=x.c4;obtain⟨r0,r1,r2,r3⟩:=y.c4;go_wp2_with fail;refine(H1 w1 hb).mono ?_;rintro e w2 ⟨rfl,Ae⟩;clear q0 r0 q1 r1 q2 r2 q3 r3;replace x:=x.below Ae x.lt;replace y:=y.below Ae y.lt
 replace hb:Below w.heap.size w w2:=hb.trans (Ae.mono hb.size)
 clear Ae H1;obtain⟨q0,q1,q2,q3⟩:=x.c4;obtain⟨r0,r1,r2,r3⟩:=y.c4;go_wp2_with fail;refine(H2 w2 hb).mono ?_;rintro e w3 ⟨rfl,Bj⟩;clear q0 r0 q1 r1 q2 r2 q3 r3;replace x:=x.below Bj x.lt;replace y:=y.below Bj y.lt
 replace hb:Below w.heap.size w w3:=hb.trans (Bj.mono hb.size)
 clear Bj H2;obtain⟨q0,q1,q2,q3⟩:=x.c4;obtain⟨r0,r1,r2,r3⟩:=y.c4;go_wp2_with fail;refine(H3 w3 hb).mono ?_;rintro e w4 ⟨rfl,hb4⟩;clear q0 r0 q1 r1 q2 r2 q3 r3;replace x:=x.below hb4 x.lt;replace y:=y.below hb4 y.lt
 replace hb:Below w.heap.size w w4:=hb.trans (hb4.mono hb.size)
 clear hb4 H3;obtain⟨q0,q1,q2,q3⟩:=x.c4;obtain⟨r0,r1,r2,r3⟩:=y.c4;exact U71
theorem aIu (l:List Va)(H:∀x ∈ l,EqR 100 (Va.fl x)):EqF 44 (.l 2 (l.map Va.fl)):=by
 intro w0 v u hv hu w Ar;obtain⟨a,c,rfl,hl1⟩:=(hv.below Ar).list;obtain⟨a2,c2,rfl,hl2⟩:=(hu.below Ar).list;clear hv hu Ar
 have hm:(l.map Va.fl).length=l.length:=by simp[aJ,aM,bH]
 have Ap:∀j,j<l.length->∃x ∈ l,(l.map Va.fl)[j]?=some (Va.fl x):=by
  exact U9
 generalize hrs:l.map Va.fl=rs at hl1 hl2 hm Ap ⊢;clear hrs;rw[<-hm]at Ap;generalize hn:rs.length=n at hl1 hl2 Ap ⊢;clear hm
 have hcn:n<=9223372036854775807:=by have h1:=hl1.cap;have h2:=hl1.most;unfold maxLen at h2;omega
 rcases Nat.eq_zero_or_pos n with h0|Am
 .
  subst h0;clear hl1 hl2 Ap H hn;go_enter Tryz.func44,Tryz.ntmps44;exact U23
 .
  obtain⟨k1,o1,rfl⟩:=hl1.addr V19;obtain⟨k2,o2,rfl⟩:=hl2.addr V19
  have HL1:Hid (aS w (some ⟨k1,o1,none⟩) c 2 rs):=hl1
  have HL2:Hid (aS w (some ⟨k2,o2,none⟩) c2 2 rs):=hl2
  have HA:Hid (∀j,j<n->∃x ∈ l,rs[j]?=some (Va.fl x)):=Ap
  have HH:Hid (∀x ∈ l,EqR 100 (Va.fl x)):=H
  clear hl1 hl2 Ap H hn;go_enter Tryz.func44,Tryz.ntmps44;go_wp2_with fail
  go_loopw [5] (fun i wr=>∃j:Nat,j<=n/\i=.int .i64 j/\Below w.heap.size w wr) (fun i _=>n-(intOf i).toNat)
  case atStart=>exact⟨0,Nat.zero_le _,rfl,Below.refl _ _⟩
  case round=>
   obtain⟨j,hj,rfl,Au⟩:=hrel
   by_cases Ai:j<n
   .
    obtain⟨x,hx,Ak⟩:=HA.out j Ai
    obtain⟨vs,Ad,Ab⟩:=((show aS w (some ⟨k1,o1,none⟩) c 2 rs from HL1.out).below Au |>.el Ak).vals
    obtain⟨us,hus,Bm⟩:=((show aS w (some ⟨k2,o2,none⟩) c2 2 rs from HL2.out).below Au |>.el Ak).vals
    skip
    skip
    have HC:=HH.out x hx wr vs us Ad hus wr.drew ((Below.refl _ wr).drew);clear Ak;obtain⟨x0,x1⟩:=x;obtain⟨ya0,_,rfl,⟨a0,c0,rfl,da0⟩,ya1,_,rfl,rfl,rfl⟩:=Ad;obtain⟨yb0,_,rfl,⟨b0,d0,rfl,db0⟩,yb1,_,rfl,rfl,rfl⟩:=hus
    skip
    have p0:wr.cell? ⟨k1,o1+j*2,none⟩=some (.slice a0 x0.length c0):=by exact Ab 0 _ rfl
    have q0:wr.cell? ⟨k2,o2+j*2,none⟩=some (.slice b0 x0.length d0):=by exact Bm 0 _ rfl
    have p1:wr.cell? ⟨k1,o1+j*2+1,none⟩=some (.int .i64 x1):=by exact Ab 1 _ rfl
    have q1:wr.cell? ⟨k2,o2+j*2+1,none⟩=some (.int .i64 x1):=by exact Bm 1 _ rfl
    clear Ab Bm hx da0 db0
    have Al:(wr.drew.cell? ⟨k1,o1+j*2,none⟩=some (.slice a0 x0.length c0)/\wr.drew.cell? ⟨k1,o1+j*2+1,none⟩=some (.int .i64 x1)/\wr.drew.cell? ⟨k2,o2+j*2,none⟩=some (.slice b0 x0.length d0)/\wr.drew.cell? ⟨k2,o2+j*2+1,none⟩=some (.int .i64 x1)):=⟨p0,p1,q0,q1⟩
    have hbs:∀{wl:World},Below wr.drew.heap.size wr.drew wl->(wl.cell? ⟨k1,o1+j*2,none⟩=some (.slice a0 x0.length c0)/\wl.cell? ⟨k1,o1+j*2+1,none⟩=some (.int .i64 x1)/\wl.cell? ⟨k2,o2+j*2,none⟩=some (.slice b0 x0.length d0)/\wl.cell? ⟨k2,o2+j*2+1,none⟩=some (.int .i64 x1)):=by
     intro wl hb;exact U6
    go_wp2_with fail
    go_region_held3 (fun wx=>(wx.cell? ⟨k1,o1+j*2,none⟩=some (.slice a0 x0.length c0)/\wx.cell? ⟨k1,o1+j*2+1,none⟩=some (.int .i64 x1)/\wx.cell? ⟨k2,o2+j*2,none⟩=some (.slice b0 x0.length d0)/\wx.cell? ⟨k2,o2+j*2+1,none⟩=some (.int .i64 x1))) (first|exact Al|exact HSl) (first
     | (go_at_call 100;(with_reducible refine HC.mono ?_);rintro e wl ⟨rfl,hbl⟩;have HSl:=hbs hbl))
    have hbw:Below w.heap.size w wl:=Au.drew.trans (hbl.mono Au.size)
    clear Al hbs HC p0 q0 p1 q1;exact U24
   .
    exact U72
theorem aC4 (l:List Pa)(H:∀x ∈ l,EqR 199 (Pa.fl x)):EqF 151 (.l 2 (l.map Pa.fl)):=by
 intro w0 v u hv hu w Ar;obtain⟨a,c,rfl,hl1⟩:=(hv.below Ar).list;obtain⟨a2,c2,rfl,hl2⟩:=(hu.below Ar).list;clear hv hu Ar
 have hm:(l.map Pa.fl).length=l.length:=by simp[aJ,aM,bH]
 have Ap:∀j,j<l.length->∃x ∈ l,(l.map Pa.fl)[j]?=some (Pa.fl x):=by
  exact U9
 generalize hrs:l.map Pa.fl=rs at hl1 hl2 hm Ap ⊢;clear hrs;rw[<-hm]at Ap;generalize hn:rs.length=n at hl1 hl2 Ap ⊢;clear hm
 have hcn:n<=9223372036854775807:=by have h1:=hl1.cap;have h2:=hl1.most;unfold maxLen at h2;omega
 rcases Nat.eq_zero_or_pos n with h0|Am
 .
  subst h0;clear hl1 hl2 Ap H hn;go_enter Tryz.func151,Tryz.ntmps151;exact U23
 .
  obtain⟨k1,o1,rfl⟩:=hl1.addr V19;obtain⟨k2,o2,rfl⟩:=hl2.addr V19
  have HL1:Hid (aS w (some ⟨k1,o1,none⟩) c 2 rs):=hl1
  have HL2:Hid (aS w (some ⟨k2,o2,none⟩) c2 2 rs):=hl2
  have HA:Hid (∀j,j<n->∃x ∈ l,rs[j]?=some (Pa.fl x)):=Ap
  have HH:Hid (∀x ∈ l,EqR 199 (Pa.fl x)):=H
  clear hl1 hl2 Ap H hn;go_enter Tryz.func151,Tryz.ntmps151;go_wp2_with fail
  go_loopw [5] (fun i wr=>∃j:Nat,j<=n/\i=.int .i64 j/\Below w.heap.size w wr) (fun i _=>n-(intOf i).toNat)
  case atStart=>exact⟨0,Nat.zero_le _,rfl,Below.refl _ _⟩
  case round=>
   obtain⟨j,hj,rfl,Au⟩:=hrel
   by_cases Ai:j<n
   .
    obtain⟨x,hx,Ak⟩:=HA.out j Ai
    obtain⟨vs,Ad,Ab⟩:=((show aS w (some ⟨k1,o1,none⟩) c 2 rs from HL1.out).below Au |>.el Ak).vals
    obtain⟨us,hus,Bm⟩:=((show aS w (some ⟨k2,o2,none⟩) c2 2 rs from HL2.out).below Au |>.el Ak).vals
    skip
    skip
    have HC:=HH.out x hx wr vs us Ad hus wr.drew ((Below.refl _ wr).drew);clear Ak;obtain⟨x0,x1⟩:=x;obtain⟨ya0,_,rfl,⟨a0,c0,rfl,da0⟩,ya1,_,rfl,rfl,rfl⟩:=Ad;obtain⟨yb0,_,rfl,⟨b0,d0,rfl,db0⟩,yb1,_,rfl,rfl,rfl⟩:=hus
    skip
    have p0:wr.cell? ⟨k1,o1+j*2,none⟩=some (.slice a0 x0.length c0):=by exact Ab 0 _ rfl
    have q0:wr.cell? ⟨k2,o2+j*2,none⟩=some (.slice b0 x0.length d0):=by exact Bm 0 _ rfl
    have p1:wr.cell? ⟨k1,o1+j*2+1,none⟩=some (.bool x1):=by exact Ab 1 _ rfl
    have q1:wr.cell? ⟨k2,o2+j*2+1,none⟩=some (.bool x1):=by exact Bm 1 _ rfl
    clear Ab Bm hx da0 db0
    have Al:(wr.drew.cell? ⟨k1,o1+j*2,none⟩=some (.slice a0 x0.length c0)/\wr.drew.cell? ⟨k1,o1+j*2+1,none⟩=some (.bool x1)/\wr.drew.cell? ⟨k2,o2+j*2,none⟩=some (.slice b0 x0.length d0)/\wr.drew.cell? ⟨k2,o2+j*2+1,none⟩=some (.bool x1)):=⟨p0,p1,q0,q1⟩
    have hbs:∀{wl:World},Below wr.drew.heap.size wr.drew wl->(wl.cell? ⟨k1,o1+j*2,none⟩=some (.slice a0 x0.length c0)/\wl.cell? ⟨k1,o1+j*2+1,none⟩=some (.bool x1)/\wl.cell? ⟨k2,o2+j*2,none⟩=some (.slice b0 x0.length d0)/\wl.cell? ⟨k2,o2+j*2+1,none⟩=some (.bool x1)):=by
     intro wl hb;exact U6
    go_wp2_with fail
    go_region_held3 (fun wx=>(wx.cell? ⟨k1,o1+j*2,none⟩=some (.slice a0 x0.length c0)/\wx.cell? ⟨k1,o1+j*2+1,none⟩=some (.bool x1)/\wx.cell? ⟨k2,o2+j*2,none⟩=some (.slice b0 x0.length d0)/\wx.cell? ⟨k2,o2+j*2+1,none⟩=some (.bool x1))) (first|exact Al|exact HSl) (first
     | (go_at_call 199;(with_reducible refine HC.mono ?_);rintro e wl ⟨rfl,hbl⟩;have HSl:=hbs hbl))
    have hbw:Below w.heap.size w wl:=Au.drew.trans (hbl.mono Au.size)
    clear Al hbs HC p0 q0 p1 q1;exact U24
   .
    exact U72
theorem wU (l:List Ex)(H:∀x ∈ l,EqR 243 (Ex.fl x)):EqF 227 (.l 5 (exs l)):=by
 intro w0 v u hv hu w Ar;obtain⟨a,c,rfl,hl1⟩:=(hv.below Ar).list;obtain⟨a2,c2,rfl,hl2⟩:=(hu.below Ar).list;clear hv hu Ar
 have hm:(exs l).length=l.length:=by simp[aJ,aM,bH]
 have Ap:∀j,j<l.length->∃x ∈ l,(exs l)[j]?=some (Ex.fl x):=by
  exact U9
 generalize hrs:exs l=rs at hl1 hl2 hm Ap ⊢;clear hrs;rw[<-hm]at Ap;generalize hn:rs.length=n at hl1 hl2 Ap ⊢;clear hm
 have hcn:n<=9223372036854775807:=by have h1:=hl1.cap;have h2:=hl1.most;unfold maxLen at h2;omega
 rcases Nat.eq_zero_or_pos n with h0|Am
 .
  subst h0;clear hl1 hl2 Ap H hn;go_enter Tryz.func227,Tryz.ntmps227;exact U23
 .
  obtain⟨k1,o1,rfl⟩:=hl1.addr V19;obtain⟨k2,o2,rfl⟩:=hl2.addr V19
  have HL1:Hid (aS w (some ⟨k1,o1,none⟩) c 5 rs):=hl1
  have HL2:Hid (aS w (some ⟨k2,o2,none⟩) c2 5 rs):=hl2
  have HA:Hid (∀j,j<n->∃x ∈ l,rs[j]?=some (Ex.fl x)):=Ap
  have HH:Hid (∀x ∈ l,EqR 243 (Ex.fl x)):=H
  clear hl1 hl2 Ap H hn;go_enter Tryz.func227,Tryz.ntmps227;go_wp2_with fail
  go_loopw [5] (fun i wr=>∃j:Nat,j<=n/\i=.int .i64 j/\Below w.heap.size w wr) (fun i _=>n-(intOf i).toNat)
  case atStart=>exact⟨0,Nat.zero_le _,rfl,Below.refl _ _⟩
  case round=>
   obtain⟨j,hj,rfl,Au⟩:=hrel
   by_cases Ai:j<n
   .
    obtain⟨x,hx,Ak⟩:=HA.out j Ai
    obtain⟨vs,Ad,Ab⟩:=((show aS w (some ⟨k1,o1,none⟩) c 5 rs from HL1.out).below Au |>.el Ak).vals
    obtain⟨us,hus,Bm⟩:=((show aS w (some ⟨k2,o2,none⟩) c2 5 rs from HL2.out).below Au |>.el Ak).vals
    skip
    skip
    have HC:=HH.out x hx wr vs us Ad hus wr.drew ((Below.refl _ wr).drew);clear Ak;obtain⟨x0,x1,x2,x3,x4⟩:=x;obtain⟨ya0,_,rfl,rfl,ya1,_,rfl,rfl,ya2,_,rfl,⟨a2,c2,rfl,da2⟩,ya3,_,rfl,⟨a3,c3,rfl,da3⟩,ya4,_,rfl,⟨a4,c4,rfl,da4⟩,rfl⟩:=Ad;obtain⟨yb0,_,rfl,rfl,yb1,_,rfl,rfl,yb2,_,rfl,⟨b2,d2,rfl,db2⟩,yb3,_,rfl,⟨b3,d3,rfl,db3⟩,yb4,_,rfl,⟨b4,d4,rfl,db4⟩,rfl⟩:=hus;generalize (exs x4).length=m4 at HC Ab Bm
    have p0:wr.cell? ⟨k1,o1+j*5,none⟩=some (.int .i64 x0):=by exact Ab 0 _ rfl
    have q0:wr.cell? ⟨k2,o2+j*5,none⟩=some (.int .i64 x0):=by exact Bm 0 _ rfl
    have p1:wr.cell? ⟨k1,o1+j*5+1,none⟩=some (.int .i64 x1):=by exact Ab 1 _ rfl
    have q1:wr.cell? ⟨k2,o2+j*5+1,none⟩=some (.int .i64 x1):=by exact Bm 1 _ rfl
    have p2:wr.cell? ⟨k1,o1+j*5+2,none⟩=some (.slice a2 x2.length c2):=by exact Ab 2 _ rfl
    have q2:wr.cell? ⟨k2,o2+j*5+2,none⟩=some (.slice b2 x2.length d2):=by exact Bm 2 _ rfl
    have p3:wr.cell? ⟨k1,o1+j*5+3,none⟩=some (.slice a3 x3.length c3):=by exact Ab 3 _ rfl
    have q3:wr.cell? ⟨k2,o2+j*5+3,none⟩=some (.slice b3 x3.length d3):=by exact Bm 3 _ rfl
    have p4:wr.cell? ⟨k1,o1+j*5+4,none⟩=some (.slice a4 m4 c4):=by exact Ab 4 _ rfl
    have q4:wr.cell? ⟨k2,o2+j*5+4,none⟩=some (.slice b4 m4 d4):=by exact Bm 4 _ rfl
    clear Ab Bm hx da2 db2 da3 db3 da4 db4
    have Al:(wr.drew.cell? ⟨k1,o1+j*5,none⟩=some (.int .i64 x0)/\wr.drew.cell? ⟨k1,o1+j*5+1,none⟩=some (.int .i64 x1)/\wr.drew.cell? ⟨k1,o1+j*5+2,none⟩=some (.slice a2 x2.length c2)/\wr.drew.cell? ⟨k1,o1+j*5+3,none⟩=some (.slice a3 x3.length c3)/\wr.drew.cell? ⟨k1,o1+j*5+4,none⟩=some (.slice a4 m4 c4)/\wr.drew.cell? ⟨k2,o2+j*5,none⟩=some (.int .i64 x0)/\wr.drew.cell? ⟨k2,o2+j*5+1,none⟩=some (.int .i64 x1)/\wr.drew.cell? ⟨k2,o2+j*5+2,none⟩=some (.slice b2 x2.length d2)/\wr.drew.cell? ⟨k2,o2+j*5+3,none⟩=some (.slice b3 x3.length d3)/\wr.drew.cell? ⟨k2,o2+j*5+4,none⟩=some (.slice b4 m4 d4)):=⟨p0,p1,p2,p3,p4,q0,q1,q2,q3,q4⟩
    have hbs:∀{wl:World},Below wr.drew.heap.size wr.drew wl->(wl.cell? ⟨k1,o1+j*5,none⟩=some (.int .i64 x0)/\wl.cell? ⟨k1,o1+j*5+1,none⟩=some (.int .i64 x1)/\wl.cell? ⟨k1,o1+j*5+2,none⟩=some (.slice a2 x2.length c2)/\wl.cell? ⟨k1,o1+j*5+3,none⟩=some (.slice a3 x3.length c3)/\wl.cell? ⟨k1,o1+j*5+4,none⟩=some (.slice a4 m4 c4)/\wl.cell? ⟨k2,o2+j*5,none⟩=some (.int .i64 x0)/\wl.cell? ⟨k2,o2+j*5+1,none⟩=some (.int .i64 x1)/\wl.cell? ⟨k2,o2+j*5+2,none⟩=some (.slice b2 x2.length d2)/\wl.cell? ⟨k2,o2+j*5+3,none⟩=some (.slice b3 x3.length d3)/\wl.cell? ⟨k2,o2+j*5+4,none⟩=some (.slice b4 m4 d4)):=by
     intro wl hb;exact U6
    go_wp2_with fail
    go_region_held3 (fun wx=>(wx.cell? ⟨k1,o1+j*5,none⟩=some (.int .i64 x0)/\wx.cell? ⟨k1,o1+j*5+1,none⟩=some (.int .i64 x1)/\wx.cell? ⟨k1,o1+j*5+2,none⟩=some (.slice a2 x2.length c2)/\wx.cell? ⟨k1,o1+j*5+3,none⟩=some (.slice a3 x3.length c3)/\wx.cell? ⟨k1,o1+j*5+4,none⟩=some (.slice a4 m4 c4)/\wx.cell? ⟨k2,o2+j*5,none⟩=some (.int .i64 x0)/\wx.cell? ⟨k2,o2+j*5+1,none⟩=some (.int .i64 x1)/\wx.cell? ⟨k2,o2+j*5+2,none⟩=some (.slice b2 x2.length d2)/\wx.cell? ⟨k2,o2+j*5+3,none⟩=some (.slice b3 x3.length d3)/\wx.cell? ⟨k2,o2+j*5+4,none⟩=some (.slice b4 m4 d4))) (first|exact Al|exact HSl) (first
     | (go_at_call 243;(with_reducible refine HC.mono ?_);rintro e wl ⟨rfl,hbl⟩;have HSl:=hbs hbl))
    have hbw:Below w.heap.size w wl:=Au.drew.trans (hbl.mono Au.size)
    clear Al hbs HC p0 q0 p1 q1 p2 q2 p3 q3 p4 q4;exact U24
   .
    exact U72
theorem rD (l:List St)(H:∀x ∈ l,EqR 200 (St.fl x)):EqF 152 (.l 6 (sts l)):=by
 intro w0 v u hv hu w Ar;obtain⟨a,c,rfl,hl1⟩:=(hv.below Ar).list;obtain⟨a2,c2,rfl,hl2⟩:=(hu.below Ar).list;clear hv hu Ar
 have hm:(sts l).length=l.length:=by simp[aJ,aM,bH]
 have Ap:∀j,j<l.length->∃x ∈ l,(sts l)[j]?=some (St.fl x):=by
  exact U9
 generalize hrs:sts l=rs at hl1 hl2 hm Ap ⊢;clear hrs;rw[<-hm]at Ap;generalize hn:rs.length=n at hl1 hl2 Ap ⊢;clear hm
 have hcn:n<=9223372036854775807:=by have h1:=hl1.cap;have h2:=hl1.most;unfold maxLen at h2;omega
 rcases Nat.eq_zero_or_pos n with h0|Am
 .
  subst h0;clear hl1 hl2 Ap H hn;go_enter Tryz.func152,Tryz.ntmps152;exact U23
 .
  obtain⟨k1,o1,rfl⟩:=hl1.addr V19;obtain⟨k2,o2,rfl⟩:=hl2.addr V19
  have HL1:Hid (aS w (some ⟨k1,o1,none⟩) c 6 rs):=hl1
  have HL2:Hid (aS w (some ⟨k2,o2,none⟩) c2 6 rs):=hl2
  have HA:Hid (∀j,j<n->∃x ∈ l,rs[j]?=some (St.fl x)):=Ap
  have HH:Hid (∀x ∈ l,EqR 200 (St.fl x)):=H
  clear hl1 hl2 Ap H hn;go_enter Tryz.func152,Tryz.ntmps152;go_wp2_with fail
  go_loopw [5] (fun i wr=>∃j:Nat,j<=n/\i=.int .i64 j/\Below w.heap.size w wr) (fun i _=>n-(intOf i).toNat)
  case atStart=>exact⟨0,Nat.zero_le _,rfl,Below.refl _ _⟩
  case round=>
   obtain⟨j,hj,rfl,Au⟩:=hrel
   by_cases Ai:j<n
   .
    obtain⟨x,hx,Ak⟩:=HA.out j Ai
    obtain⟨vs,Ad,Ab⟩:=((show aS w (some ⟨k1,o1,none⟩) c 6 rs from HL1.out).below Au |>.el Ak).vals
    obtain⟨us,hus,Bm⟩:=((show aS w (some ⟨k2,o2,none⟩) c2 6 rs from HL2.out).below Au |>.el Ak).vals
    skip
    skip
    have HC:=HH.out x hx wr vs us Ad hus wr.drew ((Below.refl _ wr).drew);clear Ak;obtain⟨x0,x1,x2,x3,x4,x5⟩:=x;obtain⟨ya0,_,rfl,rfl,ya1,_,rfl,rfl,ya2,_,rfl,⟨a2,c2,rfl,da2⟩,ya3,_,rfl,⟨a3,c3,rfl,da3⟩,ya4,_,rfl,⟨a4,c4,rfl,da4⟩,ya5,_,rfl,⟨a5,c5,rfl,da5⟩,rfl⟩:=Ad;obtain⟨yb0,_,rfl,rfl,yb1,_,rfl,rfl,yb2,_,rfl,⟨b2,d2,rfl,db2⟩,yb3,_,rfl,⟨b3,d3,rfl,db3⟩,yb4,_,rfl,⟨b4,d4,rfl,db4⟩,yb5,_,rfl,⟨b5,d5,rfl,db5⟩,rfl⟩:=hus;generalize (exs x3).length=m3 at HC Ab Bm;generalize (sts x4).length=m4 at HC Ab Bm;generalize (sts x5).length=m5 at HC Ab Bm
    have p0:wr.cell? ⟨k1,o1+j*6,none⟩=some (.int .i64 x0):=by exact Ab 0 _ rfl
    have q0:wr.cell? ⟨k2,o2+j*6,none⟩=some (.int .i64 x0):=by exact Bm 0 _ rfl
    have p1:wr.cell? ⟨k1,o1+j*6+1,none⟩=some (.int .i64 x1):=by exact Ab 1 _ rfl
    have q1:wr.cell? ⟨k2,o2+j*6+1,none⟩=some (.int .i64 x1):=by exact Bm 1 _ rfl
    have p2:wr.cell? ⟨k1,o1+j*6+2,none⟩=some (.slice a2 x2.length c2):=by exact Ab 2 _ rfl
    have q2:wr.cell? ⟨k2,o2+j*6+2,none⟩=some (.slice b2 x2.length d2):=by exact Bm 2 _ rfl
    have p3:wr.cell? ⟨k1,o1+j*6+3,none⟩=some (.slice a3 m3 c3):=by exact Ab 3 _ rfl
    have q3:wr.cell? ⟨k2,o2+j*6+3,none⟩=some (.slice b3 m3 d3):=by exact Bm 3 _ rfl
    have p4:wr.cell? ⟨k1,o1+j*6+4,none⟩=some (.slice a4 m4 c4):=by exact Ab 4 _ rfl
    have q4:wr.cell? ⟨k2,o2+j*6+4,none⟩=some (.slice b4 m4 d4):=by exact Bm 4 _ rfl
    have p5:wr.cell? ⟨k1,o1+j*6+5,none⟩=some (.slice a5 m5 c5):=by exact Ab 5 _ rfl
    have q5:wr.cell? ⟨k2,o2+j*6+5,none⟩=some (.slice b5 m5 d5):=by exact Bm 5 _ rfl
    clear Ab Bm hx da2 db2 da3 db3 da4 db4 da5 db5
    have Al:(wr.drew.cell? ⟨k1,o1+j*6,none⟩=some (.int .i64 x0)/\wr.drew.cell? ⟨k1,o1+j*6+1,none⟩=some (.int .i64 x1)/\wr.drew.cell? ⟨k1,o1+j*6+2,none⟩=some (.slice a2 x2.length c2)/\wr.drew.cell? ⟨k1,o1+j*6+3,none⟩=some (.slice a3 m3 c3)/\wr.drew.cell? ⟨k1,o1+j*6+4,none⟩=some (.slice a4 m4 c4)/\wr.drew.cell? ⟨k1,o1+j*6+5,none⟩=some (.slice a5 m5 c5)/\wr.drew.cell? ⟨k2,o2+j*6,none⟩=some (.int .i64 x0)/\wr.drew.cell? ⟨k2,o2+j*6+1,none⟩=some (.int .i64 x1)/\wr.drew.cell? ⟨k2,o2+j*6+2,none⟩=some (.slice b2 x2.length d2)/\wr.drew.cell? ⟨k2,o2+j*6+3,none⟩=some (.slice b3 m3 d3)/\wr.drew.cell? ⟨k2,o2+j*6+4,none⟩=some (.slice b4 m4 d4)/\wr.drew.cell? ⟨k2,o2+j*6+5,none⟩=some (.slice b5 m5 d5)):=⟨p0,p1,p2,p3,p4,p5,q0,q1,q2,q3,q4,q5⟩
    have hbs:∀{wl:World},Below wr.drew.heap.size wr.drew wl->(wl.cell? ⟨k1,o1+j*6,none⟩=some (.int .i64 x0)/\wl.cell? ⟨k1,o1+j*6+1,none⟩=some (.int .i64 x1)/\wl.cell? ⟨k1,o1+j*6+2,none⟩=some (.slice a2 x2.length c2)/\wl.cell? ⟨k1,o1+j*6+3,none⟩=some (.slice a3 m3 c3)/\wl.cell? ⟨k1,o1+j*6+4,none⟩=some (.slice a4 m4 c4)/\wl.cell? ⟨k1,o1+j*6+5,none⟩=some (.slice a5 m5 c5)/\wl.cell? ⟨k2,o2+j*6,none⟩=some (.int .i64 x0)/\wl.cell? ⟨k2,o2+j*6+1,none⟩=some (.int .i64 x1)/\wl.cell? ⟨k2,o2+j*6+2,none⟩=some (.slice b2 x2.length d2)/\wl.cell? ⟨k2,o2+j*6+3,none⟩=some (.slice b3 m3 d3)/\wl.cell? ⟨k2,o2+j*6+4,none⟩=some (.slice b4 m4 d4)/\wl.cell? ⟨k2,o2+j*6+5,none⟩=some (.slice b5 m5 d5)):=by
     intro wl hb;exact U6
    go_wp2_with fail
    go_region_held3 (fun wx=>(wx.cell? ⟨k1,o1+j*6,none⟩=some (.int .i64 x0)/\wx.cell? ⟨k1,o1+j*6+1,none⟩=some (.int .i64 x1)/\wx.cell? ⟨k1,o1+j*6+2,none⟩=some (.slice a2 x2.length c2)/\wx.cell? ⟨k1,o1+j*6+3,none⟩=some (.slice a3 m3 c3)/\wx.cell? ⟨k1,o1+j*6+4,none⟩=some (.slice a4 m4 c4)/\wx.cell? ⟨k1,o1+j*6+5,none⟩=some (.slice a5 m5 c5)/\wx.cell? ⟨k2,o2+j*6,none⟩=some (.int .i64 x0)/\wx.cell? ⟨k2,o2+j*6+1,none⟩=some (.int .i64 x1)/\wx.cell? ⟨k2,o2+j*6+2,none⟩=some (.slice b2 x2.length d2)/\wx.cell? ⟨k2,o2+j*6+3,none⟩=some (.slice b3 m3 d3)/\wx.cell? ⟨k2,o2+j*6+4,none⟩=some (.slice b4 m4 d4)/\wx.cell? ⟨k2,o2+j*6+5,none⟩=some (.slice b5 m5 d5))) (first|exact Al|exact HSl) (first
     | (go_at_call 200;(with_reducible refine HC.mono ?_);rintro e wl ⟨rfl,hbl⟩;have HSl:=hbs hbl))
    have hbw:Below w.heap.size w wl:=Au.drew.trans (hbl.mono Au.size)
    clear Al hbs HC p0 q0 p1 q1 p2 q2 p3 q3 p4 q4 p5 q5;exact U24
   .
    exact U72
theorem aFc (l:List Pr)(H:∀x ∈ l,EqR 101 (Pr.fl x)):EqF 45 (.l 5 (l.map Pr.fl)):=by
 intro w0 v u hv hu w Ar;obtain⟨a,c,rfl,hl1⟩:=(hv.below Ar).list;obtain⟨a2,c2,rfl,hl2⟩:=(hu.below Ar).list;clear hv hu Ar
 have hm:(l.map Pr.fl).length=l.length:=by simp[aJ,aM,bH]
 have Ap:∀j,j<l.length->∃x ∈ l,(l.map Pr.fl)[j]?=some (Pr.fl x):=by
  exact U9
 generalize hrs:l.map Pr.fl=rs at hl1 hl2 hm Ap ⊢;clear hrs;rw[<-hm]at Ap;generalize hn:rs.length=n at hl1 hl2 Ap ⊢;clear hm
 have hcn:n<=9223372036854775807:=by have h1:=hl1.cap;have h2:=hl1.most;unfold maxLen at h2;omega
 rcases Nat.eq_zero_or_pos n with h0|Am
 .
  subst h0;clear hl1 hl2 Ap H hn;go_enter Tryz.func45,Tryz.ntmps45;exact U23
 .
  obtain⟨k1,o1,rfl⟩:=hl1.addr V19;obtain⟨k2,o2,rfl⟩:=hl2.addr V19
  have HL1:Hid (aS w (some ⟨k1,o1,none⟩) c 5 rs):=hl1
  have HL2:Hid (aS w (some ⟨k2,o2,none⟩) c2 5 rs):=hl2
  have HA:Hid (∀j,j<n->∃x ∈ l,rs[j]?=some (Pr.fl x)):=Ap
  have HH:Hid (∀x ∈ l,EqR 101 (Pr.fl x)):=H
  clear hl1 hl2 Ap H hn;go_enter Tryz.func45,Tryz.ntmps45;go_wp2_with fail
  go_loopw [5] (fun i wr=>∃j:Nat,j<=n/\i=.int .i64 j/\Below w.heap.size w wr) (fun i _=>n-(intOf i).toNat)
  case atStart=>exact⟨0,Nat.zero_le _,rfl,Below.refl _ _⟩
  case round=>
   obtain⟨j,hj,rfl,Au⟩:=hrel
   by_cases Ai:j<n
   .
    obtain⟨x,hx,Ak⟩:=HA.out j Ai
    obtain⟨vs,Ad,Ab⟩:=((show aS w (some ⟨k1,o1,none⟩) c 5 rs from HL1.out).below Au |>.el Ak).vals
    obtain⟨us,hus,Bm⟩:=((show aS w (some ⟨k2,o2,none⟩) c2 5 rs from HL2.out).below Au |>.el Ak).vals
    skip
    skip
    have HC:=HH.out x hx wr vs us Ad hus wr.drew ((Below.refl _ wr).drew);clear Ak;obtain⟨x0,x1,x2,x3,x4⟩:=x;obtain⟨ya0,_,rfl,⟨a0,c0,rfl,da0⟩,ya1,_,rfl,rfl,ya2,_,rfl,⟨a2,c2,rfl,da2⟩,ya3,_,rfl,⟨a3,c3,rfl,da3⟩,ya4,_,rfl,⟨a4,c4,rfl,da4⟩,rfl⟩:=Ad;obtain⟨yb0,_,rfl,⟨b0,d0,rfl,db0⟩,yb1,_,rfl,rfl,yb2,_,rfl,⟨b2,d2,rfl,db2⟩,yb3,_,rfl,⟨b3,d3,rfl,db3⟩,yb4,_,rfl,⟨b4,d4,rfl,db4⟩,rfl⟩:=hus;generalize (List.map Pa.fl x2).length=m2 at HC Ab Bm;generalize (bH x3).length=m3 at HC Ab Bm;generalize (sts x4).length=m4 at HC Ab Bm
    have p0:wr.cell? ⟨k1,o1+j*5,none⟩=some (.slice a0 x0.length c0):=by exact Ab 0 _ rfl
    have q0:wr.cell? ⟨k2,o2+j*5,none⟩=some (.slice b0 x0.length d0):=by exact Bm 0 _ rfl
    have p1:wr.cell? ⟨k1,o1+j*5+1,none⟩=some (.bool x1):=by exact Ab 1 _ rfl
    have q1:wr.cell? ⟨k2,o2+j*5+1,none⟩=some (.bool x1):=by exact Bm 1 _ rfl
    have p2:wr.cell? ⟨k1,o1+j*5+2,none⟩=some (.slice a2 m2 c2):=by exact Ab 2 _ rfl
    have q2:wr.cell? ⟨k2,o2+j*5+2,none⟩=some (.slice b2 m2 d2):=by exact Bm 2 _ rfl
    have p3:wr.cell? ⟨k1,o1+j*5+3,none⟩=some (.slice a3 m3 c3):=by exact Ab 3 _ rfl
    have q3:wr.cell? ⟨k2,o2+j*5+3,none⟩=some (.slice b3 m3 d3):=by exact Bm 3 _ rfl
    have p4:wr.cell? ⟨k1,o1+j*5+4,none⟩=some (.slice a4 m4 c4):=by exact Ab 4 _ rfl
    have q4:wr.cell? ⟨k2,o2+j*5+4,none⟩=some (.slice b4 m4 d4):=by exact Bm 4 _ rfl
    clear Ab Bm hx da0 db0 da2 db2 da3 db3 da4 db4
    have Al:(wr.drew.cell? ⟨k1,o1+j*5,none⟩=some (.slice a0 x0.length c0)/\wr.drew.cell? ⟨k1,o1+j*5+1,none⟩=some (.bool x1)/\wr.drew.cell? ⟨k1,o1+j*5+2,none⟩=some (.slice a2 m2 c2)/\wr.drew.cell? ⟨k1,o1+j*5+3,none⟩=some (.slice a3 m3 c3)/\wr.drew.cell? ⟨k1,o1+j*5+4,none⟩=some (.slice a4 m4 c4)/\wr.drew.cell? ⟨k2,o2+j*5,none⟩=some (.slice b0 x0.length d0)/\wr.drew.cell? ⟨k2,o2+j*5+1,none⟩=some (.bool x1)/\wr.drew.cell? ⟨k2,o2+j*5+2,none⟩=some (.slice b2 m2 d2)/\wr.drew.cell? ⟨k2,o2+j*5+3,none⟩=some (.slice b3 m3 d3)/\wr.drew.cell? ⟨k2,o2+j*5+4,none⟩=some (.slice b4 m4 d4)):=⟨p0,p1,p2,p3,p4,q0,q1,q2,q3,q4⟩
    have hbs:∀{wl:World},Below wr.drew.heap.size wr.drew wl->(wl.cell? ⟨k1,o1+j*5,none⟩=some (.slice a0 x0.length c0)/\wl.cell? ⟨k1,o1+j*5+1,none⟩=some (.bool x1)/\wl.cell? ⟨k1,o1+j*5+2,none⟩=some (.slice a2 m2 c2)/\wl.cell? ⟨k1,o1+j*5+3,none⟩=some (.slice a3 m3 c3)/\wl.cell? ⟨k1,o1+j*5+4,none⟩=some (.slice a4 m4 c4)/\wl.cell? ⟨k2,o2+j*5,none⟩=some (.slice b0 x0.length d0)/\wl.cell? ⟨k2,o2+j*5+1,none⟩=some (.bool x1)/\wl.cell? ⟨k2,o2+j*5+2,none⟩=some (.slice b2 m2 d2)/\wl.cell? ⟨k2,o2+j*5+3,none⟩=some (.slice b3 m3 d3)/\wl.cell? ⟨k2,o2+j*5+4,none⟩=some (.slice b4 m4 d4)):=by
     intro wl hb;exact U6
    go_wp2_with fail
    go_region_held3 (fun wx=>(wx.cell? ⟨k1,o1+j*5,none⟩=some (.slice a0 x0.length c0)/\wx.cell? ⟨k1,o1+j*5+1,none⟩=some (.bool x1)/\wx.cell? ⟨k1,o1+j*5+2,none⟩=some (.slice a2 m2 c2)/\wx.cell? ⟨k1,o1+j*5+3,none⟩=some (.slice a3 m3 c3)/\wx.cell? ⟨k1,o1+j*5+4,none⟩=some (.slice a4 m4 c4)/\wx.cell? ⟨k2,o2+j*5,none⟩=some (.slice b0 x0.length d0)/\wx.cell? ⟨k2,o2+j*5+1,none⟩=some (.bool x1)/\wx.cell? ⟨k2,o2+j*5+2,none⟩=some (.slice b2 m2 d2)/\wx.cell? ⟨k2,o2+j*5+3,none⟩=some (.slice b3 m3 d3)/\wx.cell? ⟨k2,o2+j*5+4,none⟩=some (.slice b4 m4 d4))) (first|exact Al|exact HSl) (first
     | (go_at_call 101;(with_reducible refine HC.mono ?_);rintro e wl ⟨rfl,hbl⟩;have HSl:=hbs hbl))
    have hbw:Below w.heap.size w wl:=Au.drew.trans (hbl.mono Au.size)
    clear Al hbs HC p0 q0 p1 q1 p2 q2 p3 q3 p4 q4;exact U24
   .
    exact U72
theorem tB (l:List Fp)(H:∀x ∈ l,EqR 153 (Fp.fl x)):EqF 102 (.l 2 (l.map Fp.fl)):=by
 intro w0 v u hv hu w Ar;obtain⟨a,c,rfl,hl1⟩:=(hv.below Ar).list;obtain⟨a2,c2,rfl,hl2⟩:=(hu.below Ar).list;clear hv hu Ar
 have hm:(l.map Fp.fl).length=l.length:=by simp[aJ,aM,bH]
 have Ap:∀j,j<l.length->∃x ∈ l,(l.map Fp.fl)[j]?=some (Fp.fl x):=by
  exact U9
 generalize hrs:l.map Fp.fl=rs at hl1 hl2 hm Ap ⊢;clear hrs;rw[<-hm]at Ap;generalize hn:rs.length=n at hl1 hl2 Ap ⊢;clear hm
 have hcn:n<=9223372036854775807:=by have h1:=hl1.cap;have h2:=hl1.most;unfold maxLen at h2;omega
 rcases Nat.eq_zero_or_pos n with h0|Am
 .
  subst h0;clear hl1 hl2 Ap H hn;go_enter Tryz.func102,Tryz.ntmps102;exact U23
 .
  obtain⟨k1,o1,rfl⟩:=hl1.addr V19;obtain⟨k2,o2,rfl⟩:=hl2.addr V19
  have HL1:Hid (aS w (some ⟨k1,o1,none⟩) c 2 rs):=hl1
  have HL2:Hid (aS w (some ⟨k2,o2,none⟩) c2 2 rs):=hl2
  have HA:Hid (∀j,j<n->∃x ∈ l,rs[j]?=some (Fp.fl x)):=Ap
  have HH:Hid (∀x ∈ l,EqR 153 (Fp.fl x)):=H
  clear hl1 hl2 Ap H hn;go_enter Tryz.func102,Tryz.ntmps102;go_wp2_with fail
  go_loopw [5] (fun i wr=>∃j:Nat,j<=n/\i=.int .i64 j/\Below w.heap.size w wr) (fun i _=>n-(intOf i).toNat)
  case atStart=>exact⟨0,Nat.zero_le _,rfl,Below.refl _ _⟩
  case round=>
   obtain⟨j,hj,rfl,Au⟩:=hrel
   by_cases Ai:j<n
   .
    obtain⟨x,hx,Ak⟩:=HA.out j Ai
    obtain⟨vs,Ad,Ab⟩:=((show aS w (some ⟨k1,o1,none⟩) c 2 rs from HL1.out).below Au |>.el Ak).vals
    obtain⟨us,hus,Bm⟩:=((show aS w (some ⟨k2,o2,none⟩) c2 2 rs from HL2.out).below Au |>.el Ak).vals
    skip
    skip
    have HC:=HH.out x hx wr vs us Ad hus wr.drew ((Below.refl _ wr).drew);clear Ak;obtain⟨x0,x1⟩:=x;obtain⟨ya0,_,rfl,⟨a0,c0,rfl,da0⟩,ya1,_,rfl,⟨a1,c1,rfl,da1⟩,rfl⟩:=Ad;obtain⟨yb0,_,rfl,⟨b0,d0,rfl,db0⟩,yb1,_,rfl,⟨b1,d1,rfl,db1⟩,rfl⟩:=hus
    skip
    have p0:wr.cell? ⟨k1,o1+j*2,none⟩=some (.slice a0 x0.length c0):=by exact Ab 0 _ rfl
    have q0:wr.cell? ⟨k2,o2+j*2,none⟩=some (.slice b0 x0.length d0):=by exact Bm 0 _ rfl
    have p1:wr.cell? ⟨k1,o1+j*2+1,none⟩=some (.slice a1 x1.length c1):=by exact Ab 1 _ rfl
    have q1:wr.cell? ⟨k2,o2+j*2+1,none⟩=some (.slice b1 x1.length d1):=by exact Bm 1 _ rfl
    clear Ab Bm hx da0 db0 da1 db1
    have Al:(wr.drew.cell? ⟨k1,o1+j*2,none⟩=some (.slice a0 x0.length c0)/\wr.drew.cell? ⟨k1,o1+j*2+1,none⟩=some (.slice a1 x1.length c1)/\wr.drew.cell? ⟨k2,o2+j*2,none⟩=some (.slice b0 x0.length d0)/\wr.drew.cell? ⟨k2,o2+j*2+1,none⟩=some (.slice b1 x1.length d1)):=⟨p0,p1,q0,q1⟩
    have hbs:∀{wl:World},Below wr.drew.heap.size wr.drew wl->(wl.cell? ⟨k1,o1+j*2,none⟩=some (.slice a0 x0.length c0)/\wl.cell? ⟨k1,o1+j*2+1,none⟩=some (.slice a1 x1.length c1)/\wl.cell? ⟨k2,o2+j*2,none⟩=some (.slice b0 x0.length d0)/\wl.cell? ⟨k2,o2+j*2+1,none⟩=some (.slice b1 x1.length d1)):=by
     intro wl hb;exact U6
    go_wp2_with fail
    go_region_held3 (fun wx=>(wx.cell? ⟨k1,o1+j*2,none⟩=some (.slice a0 x0.length c0)/\wx.cell? ⟨k1,o1+j*2+1,none⟩=some (.slice a1 x1.length c1)/\wx.cell? ⟨k2,o2+j*2,none⟩=some (.slice b0 x0.length d0)/\wx.cell? ⟨k2,o2+j*2+1,none⟩=some (.slice b1 x1.length d1))) (first|exact Al|exact HSl) (first
     | (go_at_call 153;(with_reducible refine HC.mono ?_);rintro e wl ⟨rfl,hbl⟩;have HSl:=hbs hbl))
    have hbw:Below w.heap.size w wl:=Au.drew.trans (hbl.mono Au.size)
    clear Al hbs HC p0 q0 p1 q1;exact U24
   .
    exact U72
theorem aFf (l:List Fa)(H:∀x ∈ l,EqR 46 (Fa.fl x)):EqF 12 (.l 2 (l.map Fa.fl)):=by
 intro w0 v u hv hu w Ar;obtain⟨a,c,rfl,hl1⟩:=(hv.below Ar).list;obtain⟨a2,c2,rfl,hl2⟩:=(hu.below Ar).list;clear hv hu Ar
 have hm:(l.map Fa.fl).length=l.length:=by simp[aJ,aM,bH]
 have Ap:∀j,j<l.length->∃x ∈ l,(l.map Fa.fl)[j]?=some (Fa.fl x):=by
  exact U9
 generalize hrs:l.map Fa.fl=rs at hl1 hl2 hm Ap ⊢;clear hrs;rw[<-hm]at Ap;generalize hn:rs.length=n at hl1 hl2 Ap ⊢;clear hm
 have hcn:n<=9223372036854775807:=by have h1:=hl1.cap;have h2:=hl1.most;unfold maxLen at h2;omega
 rcases Nat.eq_zero_or_pos n with h0|Am
 .
  subst h0;clear hl1 hl2 Ap H hn;go_enter Tryz.func12,Tryz.ntmps12;exact U23
 .
  obtain⟨k1,o1,rfl⟩:=hl1.addr V19;obtain⟨k2,o2,rfl⟩:=hl2.addr V19
  have HL1:Hid (aS w (some ⟨k1,o1,none⟩) c 2 rs):=hl1
  have HL2:Hid (aS w (some ⟨k2,o2,none⟩) c2 2 rs):=hl2
  have HA:Hid (∀j,j<n->∃x ∈ l,rs[j]?=some (Fa.fl x)):=Ap
  have HH:Hid (∀x ∈ l,EqR 46 (Fa.fl x)):=H
  clear hl1 hl2 Ap H hn;go_enter Tryz.func12,Tryz.ntmps12;go_wp2_with fail
  go_loopw [5] (fun i wr=>∃j:Nat,j<=n/\i=.int .i64 j/\Below w.heap.size w wr) (fun i _=>n-(intOf i).toNat)
  case atStart=>exact⟨0,Nat.zero_le _,rfl,Below.refl _ _⟩
  case round=>
   obtain⟨j,hj,rfl,Au⟩:=hrel
   by_cases Ai:j<n
   .
    obtain⟨x,hx,Ak⟩:=HA.out j Ai
    obtain⟨vs,Ad,Ab⟩:=((show aS w (some ⟨k1,o1,none⟩) c 2 rs from HL1.out).below Au |>.el Ak).vals
    obtain⟨us,hus,Bm⟩:=((show aS w (some ⟨k2,o2,none⟩) c2 2 rs from HL2.out).below Au |>.el Ak).vals
    skip
    skip
    have HC:=HH.out x hx wr vs us Ad hus wr.drew ((Below.refl _ wr).drew);clear Ak;obtain⟨x0,x1⟩:=x;obtain⟨ya0,_,rfl,⟨a0,c0,rfl,da0⟩,ya1,_,rfl,⟨a1,c1,rfl,da1⟩,rfl⟩:=Ad;obtain⟨yb0,_,rfl,⟨b0,d0,rfl,db0⟩,yb1,_,rfl,⟨b1,d1,rfl,db1⟩,rfl⟩:=hus;generalize (List.map Fp.fl x1).length=m1 at HC Ab Bm
    have p0:wr.cell? ⟨k1,o1+j*2,none⟩=some (.slice a0 x0.length c0):=by exact Ab 0 _ rfl
    have q0:wr.cell? ⟨k2,o2+j*2,none⟩=some (.slice b0 x0.length d0):=by exact Bm 0 _ rfl
    have p1:wr.cell? ⟨k1,o1+j*2+1,none⟩=some (.slice a1 m1 c1):=by exact Ab 1 _ rfl
    have q1:wr.cell? ⟨k2,o2+j*2+1,none⟩=some (.slice b1 m1 d1):=by exact Bm 1 _ rfl
    clear Ab Bm hx da0 db0 da1 db1
    have Al:(wr.drew.cell? ⟨k1,o1+j*2,none⟩=some (.slice a0 x0.length c0)/\wr.drew.cell? ⟨k1,o1+j*2+1,none⟩=some (.slice a1 m1 c1)/\wr.drew.cell? ⟨k2,o2+j*2,none⟩=some (.slice b0 x0.length d0)/\wr.drew.cell? ⟨k2,o2+j*2+1,none⟩=some (.slice b1 m1 d1)):=⟨p0,p1,q0,q1⟩
    have hbs:∀{wl:World},Below wr.drew.heap.size wr.drew wl->(wl.cell? ⟨k1,o1+j*2,none⟩=some (.slice a0 x0.length c0)/\wl.cell? ⟨k1,o1+j*2+1,none⟩=some (.slice a1 m1 c1)/\wl.cell? ⟨k2,o2+j*2,none⟩=some (.slice b0 x0.length d0)/\wl.cell? ⟨k2,o2+j*2+1,none⟩=some (.slice b1 m1 d1)):=by
     intro wl hb;exact U6
    go_wp2_with fail
    go_region_held3 (fun wx=>(wx.cell? ⟨k1,o1+j*2,none⟩=some (.slice a0 x0.length c0)/\wx.cell? ⟨k1,o1+j*2+1,none⟩=some (.slice a1 m1 c1)/\wx.cell? ⟨k2,o2+j*2,none⟩=some (.slice b0 x0.length d0)/\wx.cell? ⟨k2,o2+j*2+1,none⟩=some (.slice b1 m1 d1))) (first|exact Al|exact HSl) (first
     | (go_at_call 46;(with_reducible refine HC.mono ?_);rintro e wl ⟨rfl,hbl⟩;have HSl:=hbs hbl))
    have hbw:Below w.heap.size w wl:=Au.drew.trans (hbl.mono Au.size)
    clear Al hbs HC p0 q0 p1 q1;exact U24
   .
    exact U72
theorem aC7 (l:List (List Int))(H:∀x ∈ l,EqF 42 (.b x)):EqF 43 (.l 1 (bH l)):=by
 intro w0 v u hv hu w Ar;obtain⟨a,c,rfl,hl1⟩:=(hv.below Ar).list;obtain⟨a2,c2,rfl,hl2⟩:=(hu.below Ar).list;clear hv hu Ar
 have hm:(bH l).length=l.length:=by simp[aJ,aM,bH]
 have Ap:∀j,j<l.length->∃x ∈ l,(bH l)[j]?=some [.b x]:=by
  exact U9
 generalize hrs:bH l=rs at hl1 hl2 hm Ap ⊢;clear hrs;rw[<-hm]at Ap;generalize hn:rs.length=n at hl1 hl2 Ap ⊢;clear hm
 have hcn:n<=9223372036854775807:=by have h1:=hl1.cap;have h2:=hl1.most;unfold maxLen at h2;omega
 rcases Nat.eq_zero_or_pos n with h0|Am
 .
  subst h0;clear hl1 hl2 Ap H hn;go_enter Tryz.func43,Tryz.ntmps43;exact U23
 .
  obtain⟨k1,o1,rfl⟩:=hl1.addr V19;obtain⟨k2,o2,rfl⟩:=hl2.addr V19
  have HL1:Hid (aS w (some ⟨k1,o1,none⟩) c 1 rs):=hl1
  have HL2:Hid (aS w (some ⟨k2,o2,none⟩) c2 1 rs):=hl2
  have HA:Hid (∀j,j<n->∃x ∈ l,rs[j]?=some [.b x]):=Ap
  have HH:Hid (∀x ∈ l,EqF 42 (.b x)):=H
  clear hl1 hl2 Ap H hn;go_enter Tryz.func43,Tryz.ntmps43;go_wp2_with fail
  go_loopw [5] (fun i wr=>∃j:Nat,j<=n/\i=.int .i64 j/\Below w.heap.size w wr) (fun i _=>n-(intOf i).toNat)
  case atStart=>exact⟨0,Nat.zero_le _,rfl,Below.refl _ _⟩
  case round=>
   obtain⟨j,hj,rfl,Au⟩:=hrel
   by_cases Ai:j<n
   .
    obtain⟨x,hx,Ak⟩:=HA.out j Ai
    obtain⟨vs,Ad,Ab⟩:=((show aS w (some ⟨k1,o1,none⟩) c 1 rs from HL1.out).below Au |>.el Ak).vals
    obtain⟨us,hus,Bm⟩:=((show aS w (some ⟨k2,o2,none⟩) c2 1 rs from HL2.out).below Au |>.el Ak).vals
    obtain⟨y0,_,rfl,hy0,rfl⟩:=Ad;obtain⟨z0,_,rfl,hz0,rfl⟩:=hus;have HC:=HH.out x hx wr y0 z0 hy0 hz0 wr.drew ((Below.refl _ wr).drew);clear Ak
    skip
    obtain⟨a0,c0,rfl,da0⟩:=hy0;obtain⟨b0,d0,rfl,db0⟩:=hz0
    skip
    have p0:wr.cell? ⟨k1,o1+j,none⟩=some (.slice a0 x.length c0):=by have:=Ab 0 _ rfl;simpa using this
    have q0:wr.cell? ⟨k2,o2+j,none⟩=some (.slice b0 x.length d0):=by have:=Bm 0 _ rfl;simpa using this
    clear Ab Bm hx da0 db0
    have Al:(wr.drew.cell? ⟨k1,o1+j,none⟩=some (.slice a0 x.length c0)/\wr.drew.cell? ⟨k2,o2+j,none⟩=some (.slice b0 x.length d0)):=⟨p0,q0⟩
    have hbs:∀{wl:World},Below wr.drew.heap.size wr.drew wl->(wl.cell? ⟨k1,o1+j,none⟩=some (.slice a0 x.length c0)/\wl.cell? ⟨k2,o2+j,none⟩=some (.slice b0 x.length d0)):=by
     intro wl hb;exact U6
    go_wp2_with fail
    go_region_held3 (fun wx=>(wx.cell? ⟨k1,o1+j,none⟩=some (.slice a0 x.length c0)/\wx.cell? ⟨k2,o2+j,none⟩=some (.slice b0 x.length d0))) (first|exact Al|exact HSl) (first
     | (go_at_call 42;(with_reducible refine HC.mono ?_);rintro e wl ⟨rfl,hbl⟩;have HSl:=hbs hbl))
    have hbw:Below w.heap.size w wl:=Au.drew.trans (hbl.mono Au.size)
    clear Al hbs HC p0 q0;exact U24
   .
    exact U72
theorem iL (l:List Int)(hl:l.length<=1048576):EqF 42 (.b l):=by
 rintro w v u hv hu w1 hb;obtain⟨a,c,rfl,hr,_⟩:=hv.below hb;obtain⟨a2,c2,rfl,hr2,_⟩:=hu.below hb;exact eqT _ _ _ l _ _ _ _ hr hr2 V6
theorem aK8 (l:List Int)(hl:l.length<=1048576):EqF 201 (.i l):=by
 rintro w v u hv hu w1 hb;obtain⟨a,c,rfl,hr,_⟩:=hv.below hb;obtain⟨a2,c2,rfl,hr2,_⟩:=hu.below hb;refine(eqI _ _ _ l _ _ _ l _ hr hr2 V6).mono ?_;exact U147
theorem EqV.on {w w1:World}{F:Nat}{v u:Value}(h:EqV w F v u)(hb:Below w.heap.size w w1):EqV w1 F v u:=
 fun w2 Ae=>h w2 (hb.trans (Ae.mono hb.size))
theorem aK6 (x0:List Int)(x1:Int)(S0:EqF 42 (.b x0)):EqR 100 (Va.mk x0 x1).fl:=by
 intro w vs us hv hu w1 hb;unfold Va.fl at hv hu;obtain⟨yh0,_,rfl,h0,yh1,_,rfl,rfl,rfl⟩:=hv;obtain⟨yk0,_,rfl,k0,yk1,_,rfl,rfl,rfl⟩:=hu;have g0:=(S0 w _ _ h0 k0).on hb;obtain⟨a0,c0,rfl,_⟩:=h0;obtain⟨b0,d0,rfl,_⟩:=k0;exact aK7 a0 b0 _ c0 d0 x1 w1 g0
theorem aFd (x0:List Int)(x1:Bool)(S0:EqF 42 (.b x0)):EqR 199 (Pa.mk x0 x1).fl:=by
 intro w vs us hv hu w1 hb;unfold Pa.fl at hv hu;obtain⟨yh0,_,rfl,h0,yh1,_,rfl,rfl,rfl⟩:=hv;obtain⟨yk0,_,rfl,k0,yk1,_,rfl,rfl,rfl⟩:=hu;have g0:=(S0 w _ _ h0 k0).on hb;obtain⟨a0,c0,rfl,_⟩:=h0;obtain⟨b0,d0,rfl,_⟩:=k0;exact aFe a0 b0 _ c0 d0 x1 w1 g0
theorem aI2 (x0:Int)(x1:Int)(x2:List Int)(x3:List Int)(x4:List Ex)(S2:EqF 42 (.b x2))(S3:EqF 42 (.b x3))(S4:EqF 227 (.l 5 (exs x4))):EqR 243 (Ex.mk x0 x1 x2 x3 x4).fl:=by
 intro w vs us hv hu w1 hb;unfold Ex.fl at hv hu;obtain⟨yh0,_,rfl,rfl,yh1,_,rfl,rfl,yh2,_,rfl,h2,yh3,_,rfl,h3,yh4,_,rfl,h4,rfl⟩:=hv;obtain⟨yk0,_,rfl,rfl,yk1,_,rfl,rfl,yk2,_,rfl,k2,yk3,_,rfl,k3,yk4,_,rfl,k4,rfl⟩:=hu;have g2:=(S2 w _ _ h2 k2).on hb;have g3:=(S3 w _ _ h3 k3).on hb;have g4:=(S4 w _ _ h4 k4).on hb;obtain⟨a2,c2,rfl,_⟩:=h2;obtain⟨b2,d2,rfl,_⟩:=k2;obtain⟨a3,c3,rfl,_⟩:=h3;obtain⟨b3,d3,rfl,_⟩:=k3;obtain⟨a4,c4,rfl,_⟩:=h4;obtain⟨b4,d4,rfl,_⟩:=k4;exact aI3 x0 x1 a2 b2 _ c2 d2 a3 b3 _ c3 d3 a4 b4 _ c4 d4 w1 g2 g3 g4
theorem aIv (x0:Int)(x1:Int)(x2:List Int)(x3:List Ex)(x4:List St)(x5:List St)(S2:EqF 42 (.b x2))(S3:EqF 227 (.l 5 (exs x3)))(S4:EqF 152 (.l 6 (sts x4)))(S5:EqF 152 (.l 6 (sts x5))):EqR 200 (St.mk x0 x1 x2 x3 x4 x5).fl:=by
 intro w vs us hv hu w1 hb;unfold St.fl at hv hu;obtain⟨yh0,_,rfl,rfl,yh1,_,rfl,rfl,yh2,_,rfl,h2,yh3,_,rfl,h3,yh4,_,rfl,h4,yh5,_,rfl,h5,rfl⟩:=hv;obtain⟨yk0,_,rfl,rfl,yk1,_,rfl,rfl,yk2,_,rfl,k2,yk3,_,rfl,k3,yk4,_,rfl,k4,yk5,_,rfl,k5,rfl⟩:=hu;have g2:=(S2 w _ _ h2 k2).on hb;have g3:=(S3 w _ _ h3 k3).on hb;have g4:=(S4 w _ _ h4 k4).on hb;have g5:=(S5 w _ _ h5 k5).on hb;obtain⟨a2,c2,rfl,_⟩:=h2;obtain⟨b2,d2,rfl,_⟩:=k2;obtain⟨a3,c3,rfl,_⟩:=h3;obtain⟨b3,d3,rfl,_⟩:=k3;obtain⟨a4,c4,rfl,_⟩:=h4;obtain⟨b4,d4,rfl,_⟩:=k4;obtain⟨a5,c5,rfl,_⟩:=h5;obtain⟨b5,d5,rfl,_⟩:=k5;exact aIw x0 x1 a2 b2 _ c2 d2 a3 b3 _ c3 d3 a4 b4 _ c4 d4 a5 b5 _ c5 d5 w1 g2 g3 g4 g5
theorem aIx (x0:List Int)(x1:Bool)(x2:List Pa)(x3:List (List Int))(x4:List St)(S0:EqF 42 (.b x0))(S2:EqF 151 (.l 2 (x2.map Pa.fl)))(S3:EqF 43 (.l 1 (bH x3)))(S4:EqF 152 (.l 6 (sts x4))):EqR 101 (Pr.mk x0 x1 x2 x3 x4).fl:=by
 intro w vs us hv hu w1 hb;unfold Pr.fl at hv hu;obtain⟨yh0,_,rfl,h0,yh1,_,rfl,rfl,yh2,_,rfl,h2,yh3,_,rfl,h3,yh4,_,rfl,h4,rfl⟩:=hv;obtain⟨yk0,_,rfl,k0,yk1,_,rfl,rfl,yk2,_,rfl,k2,yk3,_,rfl,k3,yk4,_,rfl,k4,rfl⟩:=hu;have g0:=(S0 w _ _ h0 k0).on hb;have g2:=(S2 w _ _ h2 k2).on hb;have g3:=(S3 w _ _ h3 k3).on hb;have g4:=(S4 w _ _ h4 k4).on hb;obtain⟨a0,c0,rfl,_⟩:=h0;obtain⟨b0,d0,rfl,_⟩:=k0;obtain⟨a2,c2,rfl,_⟩:=h2;obtain⟨b2,d2,rfl,_⟩:=k2;obtain⟨a3,c3,rfl,_⟩:=h3;obtain⟨b3,d3,rfl,_⟩:=k3;obtain⟨a4,c4,rfl,_⟩:=h4;obtain⟨b4,d4,rfl,_⟩:=k4;exact aIy a0 b0 _ c0 d0 x1 a2 b2 _ c2 d2 a3 b3 _ c3 d3 a4 b4 _ c4 d4 w1 g0 g2 g3 g4
theorem vA (x0:List Int)(x1:List Int)(S0:EqF 42 (.b x0))(S1:EqF 201 (.i x1)):EqR 153 (Fp.mk x0 x1).fl:=by
 intro w vs us hv hu w1 hb;unfold Fp.fl at hv hu;obtain⟨yh0,_,rfl,h0,yh1,_,rfl,h1,rfl⟩:=hv;obtain⟨yk0,_,rfl,k0,yk1,_,rfl,k1,rfl⟩:=hu;have g0:=(S0 w _ _ h0 k0).on hb;have g1:=(S1 w _ _ h1 k1).on hb;obtain⟨a0,c0,rfl,_⟩:=h0;obtain⟨b0,d0,rfl,_⟩:=k0;obtain⟨a1,c1,rfl,_⟩:=h1;obtain⟨b1,d1,rfl,_⟩:=k1;exact vB a0 b0 _ c0 d0 a1 b1 _ c1 d1 w1 g0 g1
theorem aIz (x0:List Int)(x1:List Fp)(S0:EqF 42 (.b x0))(S1:EqF 102 (.l 2 (x1.map Fp.fl))):EqR 46 (Fa.mk x0 x1).fl:=by
 intro w vs us hv hu w1 hb;unfold Fa.fl at hv hu;obtain⟨yh0,_,rfl,h0,yh1,_,rfl,h1,rfl⟩:=hv;obtain⟨yk0,_,rfl,k0,yk1,_,rfl,k1,rfl⟩:=hu;have g0:=(S0 w _ _ h0 k0).on hb;have g1:=(S1 w _ _ h1 k1).on hb;obtain⟨a0,c0,rfl,_⟩:=h0;obtain⟨b0,d0,rfl,_⟩:=k0;obtain⟨a1,c1,rfl,_⟩:=h1;obtain⟨b1,d1,rfl,_⟩:=k1;exact aI0 a0 b0 _ c0 d0 a1 b1 _ c1 d1 w1 g0 g1
theorem aC5 (x0:List Int)(x1:List (List Int))(x2:List Va)(x3:List Pr)(S0:EqF 42 (.b x0))(S1:EqF 43 (.l 1 (bH x1)))(S2:EqF 44 (.l 2 (x2.map Va.fl)))(S3:EqF 45 (.l 5 (x3.map Pr.fl))):EqR 11 (Mo.mk x0 x1 x2 x3).fl:=by
 intro w vs us hv hu w1 hb;unfold Mo.fl at hv hu;obtain⟨yh0,_,rfl,h0,yh1,_,rfl,h1,yh2,_,rfl,h2,yh3,_,rfl,h3,rfl⟩:=hv;obtain⟨yk0,_,rfl,k0,yk1,_,rfl,k1,yk2,_,rfl,k2,yk3,_,rfl,k3,rfl⟩:=hu;have g0:=(S0 w _ _ h0 k0).on hb;have g1:=(S1 w _ _ h1 k1).on hb;have g2:=(S2 w _ _ h2 k2).on hb;have g3:=(S3 w _ _ h3 k3).on hb;obtain⟨a0,c0,rfl,_⟩:=h0;obtain⟨b0,d0,rfl,_⟩:=k0;obtain⟨a1,c1,rfl,_⟩:=h1;obtain⟨b1,d1,rfl,_⟩:=k1;obtain⟨a2,c2,rfl,_⟩:=h2;obtain⟨b2,d2,rfl,_⟩:=k2;obtain⟨a3,c3,rfl,_⟩:=h3;obtain⟨b3,d3,rfl,_⟩:=k3;exact aC6 a0 b0 _ c0 d0 a1 b1 _ c1 d1 a2 b2 _ c2 d2 a3 b3 _ c3 d3 w1 g0 g1 g2 g3
mutual
theorem aNx:∀e:Ex,aH e.fl<=1048576->EqR 243 e.fl
 | .mk k n m a ks,h=>by
  have e:aH (Ex.mk k n m a ks).fl=m.length+a.length+((exs ks).length+aF (exs ks)):=by simp[Ex.fl,aH,Fl.len] <;> omega
  rw[e]at h;exact aI2 k n m a ks (iL m V6) (iL a V6) (wU ks (aI1 ks V6))
theorem aI1:∀(l:List Ex),aF (exs l)<=1048576->∀e ∈ l,EqR 243 e.fl
 | [],_,e,h=>by simp at h
 | x :: l,hl,e,h=>by
  simp only[exs,aF]at hl
  rcases List.mem_cons.1 h with h|h
  .
   rw[h];exact aNx x V6
  .
   exact aI1 l V6 e h
end
mutual
theorem aNu:∀e:St,aH e.fl<=1048576->EqR 200 e.fl
 | .mk k n a ks bs es,h=>by
  have e:aH (St.mk k n a ks bs es).fl=a.length+((exs ks).length+aF (exs ks))+((sts bs).length+aF (sts bs))+((sts es).length+aF (sts es)):=by simp[St.fl,aH,Fl.len] <;> omega
  rw[e]at h;exact aIv k n a ks bs es (iL a V6) (wU ks (aI1 ks V6)) (rD bs (aFb bs V6)) (rD es (aFb es V6))
theorem aFb:∀(l:List St),aF (sts l)<=1048576->∀e ∈ l,EqR 200 e.fl
 | [],_,e,h=>by simp at h
 | x :: l,hl,e,h=>by
  simp only[sts,aF]at hl
  rcases List.mem_cons.1 h with h|h
  .
   rw[h];exact aNu x V6
  .
   exact aFb l V6 e h
end
theorem aNw (f:Fa)(h:aH f.fl<=1048576):EqR 46 f.fl:=by
 have e:aH f.fl=f.name.length+((f.procs.map Fp.fl).length+aF (f.procs.map Fp.fl)):=by simp[Fa.fl,aH,Fl.len]
 rw[e]at h
 refine aIz f.name f.procs (iL _ V6) (tB _ fun q hq=>?_)
 have:=hZ (f:=Fp.fl) hq
 simp only[Fp.fl,aH,Fl.len]at this;exact vA q.name q.kinds (iL _ V6) (aK8 _ V6)
theorem aMd (l:List Fa)(h:(l.map Fa.fl).length+aF (l.map Fa.fl)<=1048576):EqF 12 (.l 2 (l.map Fa.fl)):=
 aFf l fun x hx=>aNw x (by have:=hZ (f:=Fa.fl) hx;omega)
theorem aGk (l:List (List Int))(h:(bH l).length+aF (bH l)<=1048576):EqF 43 (.l 1 (bH l)):=
 aC7 l fun x hx=>iL x V55
theorem aNv (m:Mo)(h:aH m.fl<=1048576):EqR 11 m.fl:=by
 have e:aH m.fl=m.name.length+((bH m.uses).length+aF (bH m.uses))+((m.vars.map Va.fl).length+aF (m.vars.map Va.fl))+((m.procs.map Pr.fl).length+aF (m.procs.map Pr.fl)):=by simp[Mo.fl,aH,Fl.len] <;> omega
 rw[e]at h
 refine aC5 m.name m.uses m.vars m.procs (iL _ V6) (aGk _ V6) (aIu _ fun v hv=>?_) (aFc _ fun q hq=>?_)
 .
  have:=hZ (f:=Va.fl) hv
  simp only[Va.fl,aH,Fl.len]at this;exact aK6 v.name v.size (iL _ V6)
 .
  have:=hZ (f:=Pr.fl) hq
  have e2:aH q.fl=q.name.length+((q.params.map Pa.fl).length+aF (q.params.map Pa.fl))+((bH q.locals).length+aF (bH q.locals))+((sts q.body).length+aF (sts q.body)):=by simp[Pr.fl,aH,Fl.len] <;> omega
  rw[e2]at this
  refine aIx q.name q.opn q.params q.locals q.body (iL _ V6) (aC4 _ fun p hp=>?_) (aGk _ V6) (rD _ (aFb _ V6))
  have h3:=hZ (f:=Pa.fl) hp;simp only[Pa.fl,aH,Fl.len]at h3;exact aFd p.name p.arr (iL _ V6)
end Go.Proofs.YtnelibmaancmkaaGreatDoor

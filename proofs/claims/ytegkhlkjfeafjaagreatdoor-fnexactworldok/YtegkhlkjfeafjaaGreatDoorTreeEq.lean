import Derived.Test.YtegkhlkjfeafjaaGreatDoorPackC
namespace Go.Proofs.YtegkhlkjfeafjaaGreatDoor
set_option maxHeartbeats 40000000
open Go.RowKit
set_option linter.unusedVariables false
set_option linter.unusedSimpArgs false
set_option maxRecDepth 100000
theorem U275{p:Prop}(h:p:=by
 have e1:∀j,wl.cell? ⟨k1,j,none⟩=wr.drew.cell? ⟨k1,j,none⟩:=fun j=>hb.cell (show k1<wr.heap.size from zJ1 wr _ p0)
 have e2:∀j,wl.cell? ⟨k2,j,none⟩=wr.drew.cell? ⟨k2,j,none⟩:=fun j=>hb.cell (show k2<wr.heap.size from zJ1 wr _ q0)
 simp only[e1,e2]
 exact Al):p:=h
theorem U283{p:Prop}(h:p:=by
 obtain⟨q0,q1⟩:=x.c2
 obtain⟨r0,r1⟩:=y.c2
 go_wp2_with fail
 refine(H0 w0 hb).mono ?_
 rintro e w1 ⟨rfl,hb1⟩
 clear q0 r0 q1 r1
 replace x:=x.below hb1 x.lt
 replace y:=y.below hb1 y.lt
 replace hb:Below w.heap.size w w1:=hb.trans (hb1.mono hb.size)
 clear hb1 H0
 obtain⟨q0,q1⟩:=x.c2
 obtain⟨r0,r1⟩:=y.c2
 go_wp2_with fail
 refine(H1 w1 hb).mono ?_
 rintro e w2 ⟨rfl,Ae⟩
 clear q0 r0 q1 r1
 replace x:=x.below Ae x.lt
 replace y:=y.below Ae y.lt
 replace hb:Below w.heap.size w w2:=hb.trans (Ae.mono hb.size)
 clear Ae H1
 obtain⟨q0,q1⟩:=x.c2
 obtain⟨r0,r1⟩:=y.c2
 go_wp2
 go_ret
 exact⟨rfl,hb⟩):p:=h
theorem U302{p:Prop}(h:p:=by
 go_wp2
 go_roundw
 case rel=>exact⟨j+1,by omega,by go_num,hbw⟩
 case measure=>simp[intOf];omega):p:=h
theorem U303{p:Prop}(h:p:=by
 go_wp2
 go_ret
 exact⟨rfl,hb⟩):p:=h
theorem U320{p:Prop}(h:p:=by
 refine zH2 1 ?_
 rw[zE2]
 go_wp2
 go_ret
 exact⟨rfl,zD2 _ _⟩):p:=h
theorem M9194{p q:Prop}(k:q)(h:Kx q->p:=by
 intro kQ
 replace x:=x.below hb1 x.lt
 replace y:=y.below hb1 y.lt
 replace hb:Below w.heap.size w w1:=hb.trans (hb1.mono hb.size)
 revert hb;revert y;revert x
 exact kQ.o):p:=h ⟨k⟩
theorem M9211{p q:Prop}(k:q)(h:Kx q->p:=by
 intro kQ
 replace x:=x.below hb3 x.lt
 replace y:=y.below hb3 y.lt
 replace hb:Below w.heap.size w w3:=hb.trans (hb3.mono hb.size)
 revert hb;revert y;revert x
 exact kQ.o):p:=h ⟨k⟩
theorem M9213{p q:Prop}(k:q)(h:Kx q->p:=by
 intro kQ
 replace x:=x.below Ae x.lt
 replace y:=y.below Ae y.lt
 replace hb:Below w.heap.size w w2:=hb.trans (Ae.mono hb.size)
 revert hb;revert y;revert x
 exact kQ.o):p:=h ⟨k⟩
theorem M9239{p q:Prop}(k:q)(h:Kx q->p:=by
 intro kQ
 have HX:=HH.out x (zA3 Ak)
 have HC:=HX.2 wr vs us Ad hus wr.drew ((zD2 _ wr).drew)
 revert HC;revert HX
 exact kQ.o):p:=h ⟨k⟩
theorem M9243{p q:Prop}(k:q)(h:Kx q->p:=by
 intro kQ
 replace x:=x.below hb4 x.lt
 replace y:=y.below hb4 y.lt
 replace hb:Below w.heap.size w w4:=hb.trans (hb4.mono hb.size)
 revert hb;revert y;revert x
 exact kQ.o):p:=h ⟨k⟩
def EqV (w:World)(F:Nat)(v u:Value):Prop:=
  ∀w1:World,Below w.heap.size w w1->Calls Tryz.prog F #[v,u] w1 fun e w'=>e=.returned (.bool true)/\Below w1.heap.size w1 w'
def EqF (F:Nat)(f:Fl):Prop:=∀(w:World) (v u:Value),f.Rd w v->f.Rd w u->EqV w F v u
def EqR (F:Nat)(r:List Fl):Prop:=∀(w:World) (vs us:List Value),aO w r vs->aO w r us->EqV w F (.agg vs.toArray) (.agg us.toArray)
theorem gZ (w:World)(t:TypeId)(A B:List Value):
    Blk ((w.alloc (.cells A.toArray t (0,0))).alloc (.cells B.toArray t (0,0))) w.heap.size t A/\Blk ((w.alloc (.cells A.toArray t (0,0))).alloc (.cells B.toArray t (0,0))) (w.heap.size+1) t B/\Below w.heap.size w ((w.alloc (.cells A.toArray t (0,0))).alloc (.cells B.toArray t (0,0))):=by
  have h:=Blk.new (w.alloc (.cells A.toArray t (0,0))) t B
  rw[show(w.alloc (.cells A.toArray t (0,0))).heap.size=w.heap.size+1 by simp]at h
  exact⟨(Blk.new w t A).old,h,((zD2 _ _).alloc (zB0 _) _).alloc V15 _⟩
theorem aK7 (a0 b0:Option Addr)(n0 c0 d0:Nat)(p1:Int)(w:World)
    (H0:EqV w 110 (.slice a0 n0 c0) (.slice b0 n0 d0)):
    Calls Tryz.prog 156 #[.agg #[.slice a0 n0 c0,.int .i64 p1],.agg #[.slice b0 n0 d0,.int .i64 p1]] w fun e w'=>e=.returned (.bool true)/\Below w.heap.size w w':=by
  obtain⟨x,y,hb⟩:=gZ w 123 [.slice a0 n0 c0,.int .i64 p1] [.slice b0 n0 d0,.int .i64 p1]
  have hp1:(p1 != p1)=false:=by simp
  go_enter Tryz.func156,Tryz.ntmps156;go_upto_region 1 with fail;simp only[List.toArray]at x y hb;generalize (w.alloc (.cells #[.slice a0 n0 c0,.int .i64 p1] 123 (0,0))).alloc (.cells #[.slice b0 n0 d0,.int .i64 p1] 123 (0,0))=w0 at *;obtain⟨q0,q1⟩:=x.c2;obtain⟨r0,r1⟩:=y.c2;go_wp2_with fail;refine(H0 w0 hb).mono ?_;rintro e w1 ⟨rfl,hb1⟩;clear q0 r0 q1 r1;refine M9194 ?_;clear x y hb;intro x y hb;clear hb1 H0;obtain⟨q0,q1⟩:=x.c2;obtain⟨r0,r1⟩:=y.c2;exact U303
theorem aFe (a0 b0:Option Addr)(n0 c0 d0:Nat)(t1:Bool)(w:World)
    (H0:EqV w 110 (.slice a0 n0 c0) (.slice b0 n0 d0)):
    Calls Tryz.prog 210 #[.agg #[.slice a0 n0 c0,.bool t1],.agg #[.slice b0 n0 d0,.bool t1]] w fun e w'=>e=.returned (.bool true)/\Below w.heap.size w w':=by
  obtain⟨x,y,hb⟩:=gZ w 126 [.slice a0 n0 c0,.bool t1] [.slice b0 n0 d0,.bool t1]
  have ht1:(t1 != t1)=false:=by simp
  go_enter Tryz.func210,Tryz.ntmps210;go_upto_region 1 with fail;simp only[List.toArray]at x y hb;generalize (w.alloc (.cells #[.slice a0 n0 c0,.bool t1] 126 (0,0))).alloc (.cells #[.slice b0 n0 d0,.bool t1] 126 (0,0))=w0 at *;obtain⟨q0,q1⟩:=x.c2;obtain⟨r0,r1⟩:=y.c2;go_wp2_with fail;refine(H0 w0 hb).mono ?_;rintro e w1 ⟨rfl,hb1⟩;clear q0 r0 q1 r1;refine M9194 ?_;clear x y hb;intro x y hb;clear hb1 H0;obtain⟨q0,q1⟩:=x.c2;obtain⟨r0,r1⟩:=y.c2;exact U303
theorem aI3 (p0:Int)(p1:Int)(a2 b2:Option Addr)(n2 c2 d2:Nat)(a3 b3:Option Addr)(n3 c3 d3:Nat)(a4 b4:Option Addr)(n4 c4 d4:Nat)(w:World)
    (H2:EqV w 110 (.slice a2 n2 c2) (.slice b2 n2 d2)) (H3:EqV w 110 (.slice a3 n3 c3) (.slice b3 n3 d3)) (H4:EqV w 228 (.slice a4 n4 c4) (.slice b4 n4 d4)):
    Calls Tryz.prog 242 #[.agg #[.int .i64 p0,.int .i64 p1,.slice a2 n2 c2,.slice a3 n3 c3,.slice a4 n4 c4],.agg #[.int .i64 p0,.int .i64 p1,.slice b2 n2 d2,.slice b3 n3 d3,.slice b4 n4 d4]] w fun e w'=>e=.returned (.bool true)/\Below w.heap.size w w':=by
  obtain⟨x,y,hb⟩:=gZ w 133 [.int .i64 p0,.int .i64 p1,.slice a2 n2 c2,.slice a3 n3 c3,.slice a4 n4 c4] [.int .i64 p0,.int .i64 p1,.slice b2 n2 d2,.slice b3 n3 d3,.slice b4 n4 d4]
  have hp0:(p0 != p0)=false:=by simp
  have hp1:(p1 != p1)=false:=by simp
  go_enter Tryz.func242,Tryz.ntmps242;go_upto_region 1 with fail;simp only[List.toArray]at x y hb;generalize (w.alloc (.cells #[.int .i64 p0,.int .i64 p1,.slice a2 n2 c2,.slice a3 n3 c3,.slice a4 n4 c4] 133 (0,0))).alloc (.cells #[.int .i64 p0,.int .i64 p1,.slice b2 n2 d2,.slice b3 n3 d3,.slice b4 n4 d4] 133 (0,0))=w0 at *;obtain⟨q0,q1,q2,q3,q4⟩:=x.c5;obtain⟨r0,r1,r2,r3,r4⟩:=y.c5;go_wp2_with fail;refine(H2 w0 hb).mono ?_;rintro e w1 ⟨rfl,hb1⟩;clear q0 r0 q1 r1 q2 r2 q3 r3 q4 r4;refine M9194 ?_;clear x y hb;intro x y hb;clear hb1 H2;obtain⟨q0,q1,q2,q3,q4⟩:=x.c5;obtain⟨r0,r1,r2,r3,r4⟩:=y.c5;go_wp2_with fail;refine(H3 w1 hb).mono ?_;rintro e w2 ⟨rfl,Ae⟩;clear q0 r0 q1 r1 q2 r2 q3 r3 q4 r4;refine M9213 ?_;clear x y hb;intro x y hb;clear Ae H3;obtain⟨q0,q1,q2,q3,q4⟩:=x.c5;obtain⟨r0,r1,r2,r3,r4⟩:=y.c5;go_wp2_with fail;refine(H4 w2 hb).mono ?_;rintro e w3 ⟨rfl,hb3⟩;clear q0 r0 q1 r1 q2 r2 q3 r3 q4 r4;refine M9211 ?_;clear x y hb;intro x y hb;clear hb3 H4;obtain⟨q0,q1,q2,q3,q4⟩:=x.c5;obtain⟨r0,r1,r2,r3,r4⟩:=y.c5;exact U303
theorem aIw (p0:Int)(p1:Int)(a2 b2:Option Addr)(n2 c2 d2:Nat)(a3 b3:Option Addr)(n3 c3 d3:Nat)(a4 b4:Option Addr)(n4 c4 d4:Nat)(a5 b5:Option Addr)(n5 c5 d5:Nat)(w:World)
    (H2:EqV w 110 (.slice a2 n2 c2) (.slice b2 n2 d2)) (H3:EqV w 228 (.slice a3 n3 c3) (.slice b3 n3 d3)) (H4:EqV w 186 (.slice a4 n4 c4) (.slice b4 n4 d4)) (H5:EqV w 186 (.slice a5 n5 c5) (.slice b5 n5 d5)):
    Calls Tryz.prog 211 #[.agg #[.int .i64 p0,.int .i64 p1,.slice a2 n2 c2,.slice a3 n3 c3,.slice a4 n4 c4,.slice a5 n5 c5],.agg #[.int .i64 p0,.int .i64 p1,.slice b2 n2 d2,.slice b3 n3 d3,.slice b4 n4 d4,.slice b5 n5 d5]] w fun e w'=>e=.returned (.bool true)/\Below w.heap.size w w':=by
  obtain⟨x,y,hb⟩:=gZ w 129 [.int .i64 p0,.int .i64 p1,.slice a2 n2 c2,.slice a3 n3 c3,.slice a4 n4 c4,.slice a5 n5 c5] [.int .i64 p0,.int .i64 p1,.slice b2 n2 d2,.slice b3 n3 d3,.slice b4 n4 d4,.slice b5 n5 d5]
  have hp0:(p0 != p0)=false:=by simp
  have hp1:(p1 != p1)=false:=by simp
  go_enter Tryz.func211,Tryz.ntmps211;go_upto_region 1 with fail;simp only[List.toArray]at x y hb;generalize (w.alloc (.cells #[.int .i64 p0,.int .i64 p1,.slice a2 n2 c2,.slice a3 n3 c3,.slice a4 n4 c4,.slice a5 n5 c5] 129 (0,0))).alloc (.cells #[.int .i64 p0,.int .i64 p1,.slice b2 n2 d2,.slice b3 n3 d3,.slice b4 n4 d4,.slice b5 n5 d5] 129 (0,0))=w0 at *;obtain⟨q0,q1,q2,q3,q4,q5⟩:=x.c6;obtain⟨r0,r1,r2,r3,r4,r5⟩:=y.c6;go_wp2_with fail;refine(H2 w0 hb).mono ?_;rintro e w1 ⟨rfl,hb1⟩;clear q0 r0 q1 r1 q2 r2 q3 r3 q4 r4 q5 r5;refine M9194 ?_;clear x y hb;intro x y hb;clear hb1 H2;obtain⟨q0,q1,q2,q3,q4,q5⟩:=x.c6;obtain⟨r0,r1,r2,r3,r4,r5⟩:=y.c6;go_wp2_with fail;refine(H3 w1 hb).mono ?_;rintro e w2 ⟨rfl,Ae⟩;clear q0 r0 q1 r1 q2 r2 q3 r3 q4 r4 q5 r5;refine M9213 ?_;clear x y hb;intro x y hb;clear Ae H3;obtain⟨q0,q1,q2,q3,q4,q5⟩:=x.c6;obtain⟨r0,r1,r2,r3,r4,r5⟩:=y.c6;go_wp2_with fail;refine(H4 w2 hb).mono ?_;rintro e w3 ⟨rfl,hb3⟩;clear q0 r0 q1 r1 q2 r2 q3 r3 q4 r4 q5 r5;refine M9211 ?_;clear x y hb;intro x y hb;clear hb3 H4;obtain⟨q0,q1,q2,q3,q4,q5⟩:=x.c6;obtain⟨r0,r1,r2,r3,r4,r5⟩:=y.c6;go_wp2_with fail;refine(H5 w3 hb).mono ?_;rintro e w4 ⟨rfl,hb4⟩;clear q0 r0 q1 r1 q2 r2 q3 r3 q4 r4 q5 r5;refine M9243 ?_;clear x y hb;intro x y hb;clear hb4 H5;obtain⟨q0,q1,q2,q3,q4,q5⟩:=x.c6;obtain⟨r0,r1,r2,r3,r4,r5⟩:=y.c6;exact U303
theorem aIy (a0 b0:Option Addr)(n0 c0 d0:Nat)(t1:Bool)(a2 b2:Option Addr)(n2 c2 d2:Nat)(a3 b3:Option Addr)(n3 c3 d3:Nat)(a4 b4:Option Addr)(n4 c4 d4:Nat)(w:World)
    (H0:EqV w 110 (.slice a0 n0 c0) (.slice b0 n0 d0)) (H2:EqV w 185 (.slice a2 n2 c2) (.slice b2 n2 d2)) (H3:EqV w 111 (.slice a3 n3 c3) (.slice b3 n3 d3)) (H4:EqV w 186 (.slice a4 n4 c4) (.slice b4 n4 d4)):
    Calls Tryz.prog 157 #[.agg #[.slice a0 n0 c0,.bool t1,.slice a2 n2 c2,.slice a3 n3 c3,.slice a4 n4 c4],.agg #[.slice b0 n0 d0,.bool t1,.slice b2 n2 d2,.slice b3 n3 d3,.slice b4 n4 d4]] w fun e w'=>e=.returned (.bool true)/\Below w.heap.size w w':=by
  obtain⟨x,y,hb⟩:=gZ w 95 [.slice a0 n0 c0,.bool t1,.slice a2 n2 c2,.slice a3 n3 c3,.slice a4 n4 c4] [.slice b0 n0 d0,.bool t1,.slice b2 n2 d2,.slice b3 n3 d3,.slice b4 n4 d4]
  have ht1:(t1 != t1)=false:=by simp
  go_enter Tryz.func157,Tryz.ntmps157;go_upto_region 1 with fail;simp only[List.toArray]at x y hb;generalize (w.alloc (.cells #[.slice a0 n0 c0,.bool t1,.slice a2 n2 c2,.slice a3 n3 c3,.slice a4 n4 c4] 95 (0,0))).alloc (.cells #[.slice b0 n0 d0,.bool t1,.slice b2 n2 d2,.slice b3 n3 d3,.slice b4 n4 d4] 95 (0,0))=w0 at *;obtain⟨q0,q1,q2,q3,q4⟩:=x.c5;obtain⟨r0,r1,r2,r3,r4⟩:=y.c5;go_wp2_with fail;refine(H0 w0 hb).mono ?_;rintro e w1 ⟨rfl,hb1⟩;clear q0 r0 q1 r1 q2 r2 q3 r3 q4 r4;refine M9194 ?_;clear x y hb;intro x y hb;clear hb1 H0;obtain⟨q0,q1,q2,q3,q4⟩:=x.c5;obtain⟨r0,r1,r2,r3,r4⟩:=y.c5;go_wp2_with fail;refine(H2 w1 hb).mono ?_;rintro e w2 ⟨rfl,Ae⟩;clear q0 r0 q1 r1 q2 r2 q3 r3 q4 r4;refine M9213 ?_;clear x y hb;intro x y hb;clear Ae H2;obtain⟨q0,q1,q2,q3,q4⟩:=x.c5;obtain⟨r0,r1,r2,r3,r4⟩:=y.c5;go_wp2_with fail;refine(H3 w2 hb).mono ?_;rintro e w3 ⟨rfl,hb3⟩;clear q0 r0 q1 r1 q2 r2 q3 r3 q4 r4;refine M9211 ?_;clear x y hb;intro x y hb;clear hb3 H3;obtain⟨q0,q1,q2,q3,q4⟩:=x.c5;obtain⟨r0,r1,r2,r3,r4⟩:=y.c5;go_wp2_with fail;refine(H4 w3 hb).mono ?_;rintro e w4 ⟨rfl,hb4⟩;clear q0 r0 q1 r1 q2 r2 q3 r3 q4 r4;refine M9243 ?_;clear x y hb;intro x y hb;clear hb4 H4;obtain⟨q0,q1,q2,q3,q4⟩:=x.c5;obtain⟨r0,r1,r2,r3,r4⟩:=y.c5;exact U303
theorem vB (a0 b0:Option Addr)(n0 c0 d0:Nat)(a1 b1:Option Addr)(n1 c1 d1:Nat)(w:World)
    (H0:EqV w 110 (.slice a0 n0 c0) (.slice b0 n0 d0)) (H1:EqV w 187 (.slice a1 n1 c1) (.slice b1 n1 d1)):
    Calls Tryz.prog 158 #[.agg #[.slice a0 n0 c0,.slice a1 n1 c1],.agg #[.slice b0 n0 d0,.slice b1 n1 d1]] w fun e w'=>e=.returned (.bool true)/\Below w.heap.size w w':=by
  obtain⟨x,y,hb⟩:=gZ w 62 [.slice a0 n0 c0,.slice a1 n1 c1] [.slice b0 n0 d0,.slice b1 n1 d1];go_enter Tryz.func158,Tryz.ntmps158;go_upto_region 1 with fail;simp only[List.toArray]at x y hb;generalize (w.alloc (.cells #[.slice a0 n0 c0,.slice a1 n1 c1] 62 (0,0))).alloc (.cells #[.slice b0 n0 d0,.slice b1 n1 d1] 62 (0,0))=w0 at *;exact U283
theorem aI0 (a0 b0:Option Addr)(n0 c0 d0:Nat)(a1 b1:Option Addr)(n1 c1 d1:Nat)(w:World)
    (H0:EqV w 110 (.slice a0 n0 c0) (.slice b0 n0 d0)) (H1:EqV w 114 (.slice a1 n1 c1) (.slice b1 n1 d1)):
    Calls Tryz.prog 61 #[.agg #[.slice a0 n0 c0,.slice a1 n1 c1],.agg #[.slice b0 n0 d0,.slice b1 n1 d1]] w fun e w'=>e=.returned (.bool true)/\Below w.heap.size w w':=by
  obtain⟨x,y,hb⟩:=gZ w 52 [.slice a0 n0 c0,.slice a1 n1 c1] [.slice b0 n0 d0,.slice b1 n1 d1];go_enter Tryz.func61,Tryz.ntmps61;go_upto_region 1 with fail;simp only[List.toArray]at x y hb;generalize (w.alloc (.cells #[.slice a0 n0 c0,.slice a1 n1 c1] 52 (0,0))).alloc (.cells #[.slice b0 n0 d0,.slice b1 n1 d1] 52 (0,0))=w0 at *;exact U283
theorem aC6 (a0 b0:Option Addr)(n0 c0 d0:Nat)(a1 b1:Option Addr)(n1 c1 d1:Nat)(a2 b2:Option Addr)(n2 c2 d2:Nat)(a3 b3:Option Addr)(n3 c3 d3:Nat)(w:World)
    (H0:EqV w 110 (.slice a0 n0 c0) (.slice b0 n0 d0)) (H1:EqV w 111 (.slice a1 n1 c1) (.slice b1 n1 d1)) (H2:EqV w 112 (.slice a2 n2 c2) (.slice b2 n2 d2)) (H3:EqV w 113 (.slice a3 n3 c3) (.slice b3 n3 d3)):
    Calls Tryz.prog 60 #[.agg #[.slice a0 n0 c0,.slice a1 n1 c1,.slice a2 n2 c2,.slice a3 n3 c3],.agg #[.slice b0 n0 d0,.slice b1 n1 d1,.slice b2 n2 d2,.slice b3 n3 d3]] w fun e w'=>e=.returned (.bool true)/\Below w.heap.size w w':=by
  obtain⟨x,y,hb⟩:=gZ w 48 [.slice a0 n0 c0,.slice a1 n1 c1,.slice a2 n2 c2,.slice a3 n3 c3] [.slice b0 n0 d0,.slice b1 n1 d1,.slice b2 n2 d2,.slice b3 n3 d3];go_enter Tryz.func60,Tryz.ntmps60;go_upto_region 1 with fail;simp only[List.toArray]at x y hb;generalize (w.alloc (.cells #[.slice a0 n0 c0,.slice a1 n1 c1,.slice a2 n2 c2,.slice a3 n3 c3] 48 (0,0))).alloc (.cells #[.slice b0 n0 d0,.slice b1 n1 d1,.slice b2 n2 d2,.slice b3 n3 d3] 48 (0,0))=w0 at *;obtain⟨q0,q1,q2,q3⟩:=x.c4;obtain⟨r0,r1,r2,r3⟩:=y.c4;go_wp2_with fail;refine(H0 w0 hb).mono ?_;rintro e w1 ⟨rfl,hb1⟩;clear q0 r0 q1 r1 q2 r2 q3 r3;refine M9194 ?_;clear x y hb;intro x y hb;clear hb1 H0;obtain⟨q0,q1,q2,q3⟩:=x.c4;obtain⟨r0,r1,r2,r3⟩:=y.c4;go_wp2_with fail;refine(H1 w1 hb).mono ?_;rintro e w2 ⟨rfl,Ae⟩;clear q0 r0 q1 r1 q2 r2 q3 r3;refine M9213 ?_;clear x y hb;intro x y hb;clear Ae H1;obtain⟨q0,q1,q2,q3⟩:=x.c4;obtain⟨r0,r1,r2,r3⟩:=y.c4;go_wp2_with fail;refine(H2 w2 hb).mono ?_;rintro e w3 ⟨rfl,hb3⟩;clear q0 r0 q1 r1 q2 r2 q3 r3;refine M9211 ?_;clear x y hb;intro x y hb;clear hb3 H2;obtain⟨q0,q1,q2,q3⟩:=x.c4;obtain⟨r0,r1,r2,r3⟩:=y.c4;go_wp2_with fail;refine(H3 w3 hb).mono ?_;rintro e w4 ⟨rfl,hb4⟩;clear q0 r0 q1 r1 q2 r2 q3 r3;refine M9243 ?_;clear x y hb;intro x y hb;clear hb4 H3;obtain⟨q0,q1,q2,q3⟩:=x.c4;obtain⟨r0,r1,r2,r3⟩:=y.c4;exact U303
theorem aRh (t0:Bool)(p1:Int)(w:World)
     :
    Calls Tryz.prog 159 #[.agg #[.bool t0,.int .i64 p1],.agg #[.bool t0,.int .i64 p1]] w fun e w'=>e=.returned (.bool true)/\Below w.heap.size w w':=by
  obtain⟨x,y,hb⟩:=gZ w 98 [.bool t0,.int .i64 p1] [.bool t0,.int .i64 p1]
  have hp1:(p1 != p1)=false:=by simp
  have ht0:(t0 != t0)=false:=by simp
  go_enter Tryz.func159,Tryz.ntmps159;go_upto_region 1 with fail;simp only[List.toArray]at x y hb;generalize (w.alloc (.cells #[.bool t0,.int .i64 p1] 98 (0,0))).alloc (.cells #[.bool t0,.int .i64 p1] 98 (0,0))=w0 at *;obtain⟨q0,q1⟩:=x.c2;obtain⟨r0,r1⟩:=y.c2;exact U303
theorem aP4 (p0:Int)(p1:Int)(p2:Int)(a3 b3:Option Addr)(n3 c3 d3:Nat)(p4:Int)(w:World)
    (H3:EqV w 115 (.slice a3 n3 c3) (.slice b3 n3 d3)):
    Calls Tryz.prog 62 #[.agg #[.int .i64 p0,.int .i64 p1,.int .i64 p2,.slice a3 n3 c3,.int .i64 p4],.agg #[.int .i64 p0,.int .i64 p1,.int .i64 p2,.slice b3 n3 d3,.int .i64 p4]] w fun e w'=>e=.returned (.bool true)/\Below w.heap.size w w':=by
  obtain⟨x,y,hb⟩:=gZ w 56 [.int .i64 p0,.int .i64 p1,.int .i64 p2,.slice a3 n3 c3,.int .i64 p4] [.int .i64 p0,.int .i64 p1,.int .i64 p2,.slice b3 n3 d3,.int .i64 p4]
  have hp0:(p0 != p0)=false:=by simp
  have hp1:(p1 != p1)=false:=by simp
  have hp2:(p2 != p2)=false:=by simp
  have hp4:(p4 != p4)=false:=by simp
  go_enter Tryz.func62,Tryz.ntmps62;go_upto_region 1 with fail;simp only[List.toArray]at x y hb;generalize (w.alloc (.cells #[.int .i64 p0,.int .i64 p1,.int .i64 p2,.slice a3 n3 c3,.int .i64 p4] 56 (0,0))).alloc (.cells #[.int .i64 p0,.int .i64 p1,.int .i64 p2,.slice b3 n3 d3,.int .i64 p4] 56 (0,0))=w0 at *;obtain⟨q0,q1,q2,q3,q4⟩:=x.c5;obtain⟨r0,r1,r2,r3,r4⟩:=y.c5;go_wp2_with fail;refine(H3 w0 hb).mono ?_;rintro e w1 ⟨rfl,hb1⟩;clear q0 r0 q1 r1 q2 r2 q3 r3 q4 r4;refine M9194 ?_;clear x y hb;intro x y hb;clear hb1 H3;obtain⟨q0,q1,q2,q3,q4⟩:=x.c5;obtain⟨r0,r1,r2,r3,r4⟩:=y.c5;exact U303
theorem aQi (a0 b0:Option Addr)(n0 c0 d0:Nat)(a1 b1:Option Addr)(n1 c1 d1:Nat)(a2 b2:Option Addr)(n2 c2 d2:Nat)(w:World)
    (H0:EqV w 29 (.slice a0 n0 c0) (.slice b0 n0 d0)) (H1:EqV w 30 (.slice a1 n1 c1) (.slice b1 n1 d1)) (H2:EqV w 31 (.slice a2 n2 c2) (.slice b2 n2 d2)):
    Calls Tryz.prog 8 #[.agg #[.slice a0 n0 c0,.slice a1 n1 c1,.slice a2 n2 c2],.agg #[.slice b0 n0 d0,.slice b1 n1 d1,.slice b2 n2 d2]] w fun e w'=>e=.returned (.bool true)/\Below w.heap.size w w':=by
  obtain⟨x,y,hb⟩:=gZ w 33 [.slice a0 n0 c0,.slice a1 n1 c1,.slice a2 n2 c2] [.slice b0 n0 d0,.slice b1 n1 d1,.slice b2 n2 d2];go_enter Tryz.func8,Tryz.ntmps8;go_upto_region 1 with fail;simp only[List.toArray]at x y hb;generalize (w.alloc (.cells #[.slice a0 n0 c0,.slice a1 n1 c1,.slice a2 n2 c2] 33 (0,0))).alloc (.cells #[.slice b0 n0 d0,.slice b1 n1 d1,.slice b2 n2 d2] 33 (0,0))=w0 at *;obtain⟨q0,q1,q2⟩:=x.c3;obtain⟨r0,r1,r2⟩:=y.c3;go_wp2_with fail;refine(H0 w0 hb).mono ?_;rintro e w1 ⟨rfl,hb1⟩;clear q0 r0 q1 r1 q2 r2;refine M9194 ?_;clear x y hb;intro x y hb;clear hb1 H0;obtain⟨q0,q1,q2⟩:=x.c3;obtain⟨r0,r1,r2⟩:=y.c3;go_wp2_with fail;refine(H1 w1 hb).mono ?_;rintro e w2 ⟨rfl,Ae⟩;clear q0 r0 q1 r1 q2 r2;refine M9213 ?_;clear x y hb;intro x y hb;clear Ae H1;obtain⟨q0,q1,q2⟩:=x.c3;obtain⟨r0,r1,r2⟩:=y.c3;go_wp2_with fail;refine(H2 w2 hb).mono ?_;rintro e w3 ⟨rfl,hb3⟩;clear q0 r0 q1 r1 q2 r2;refine M9211 ?_;clear x y hb;intro x y hb;clear hb3 H2;obtain⟨q0,q1,q2⟩:=x.c3;obtain⟨r0,r1,r2⟩:=y.c3;exact U303
theorem aO.lenE {w:World}:∀{r:List Fl} {vs:List Value},aO w r vs->vs.length=r.length:=by
  intro r
  induction r with
  | nil=>intro vs h;rw[show vs=[] from h];rfl
  | cons f r ih=>intro vs h;obtain⟨v,us,rfl,_,h2⟩:=h;simp[ih h2]
def aRl (F G K:Nat):Prop:=∀rs:List (List Fl),(∀r ∈ rs,r.length=K/\EqR G r)->EqF F (.l K rs)
theorem aR0 {l:List Value}(h:l.length=2):∃y0 y1,l=[y0,y1]:=by match l,h with|[y0,y1],_=>exact⟨_,_,rfl⟩
theorem aOi:∀p ∈ ([
    (112,156),
    (185,210),
    (114,158),
    (30,61),
    (115,159),
    ]:List (Nat × Nat)),aRl p.1 p.2 2:=by
  simp only[List.forall_mem_cons]
  repeat' apply And.intro
  all_goals first|(intro _ h;cases h;done)|skip
  all_goals
    intro rs H w0 v u hv hu w Ar;obtain⟨a,c,rfl,hl1⟩:=(hv.below Ar).list;obtain⟨a2,c2,rfl,hl2⟩:=(hu.below Ar).list;clear hv hu Ar;generalize hn:rs.length=n at hl1 hl2 ⊢
    have hcn:n<=9223372036854775807:=by have h1:=hl1.cap;have h2:=hl1.most;unfold maxLen at h2;omega
    rcases zG0 n with h0|Am
    . subst h0
      clear hl1 hl2 H hn
      first
      | go_enter Tryz.func112,Tryz.ntmps112
      | go_enter Tryz.func185,Tryz.ntmps185
      | go_enter Tryz.func114,Tryz.ntmps114
      | go_enter Tryz.func30,Tryz.ntmps30
      | go_enter Tryz.func115,Tryz.ntmps115
      go_wp2_with fail;exact U320
    . obtain⟨k1,o1,rfl⟩:=hl1.addr V19
      obtain⟨k2,o2,rfl⟩:=hl2.addr V19;have HL1:=hid hl1;have HL2:=hid hl2;have HH:=hid H;have Hd:=hid hn;clear hl1 hl2 H hn
      first
      | go_enter Tryz.func112,Tryz.ntmps112
      | go_enter Tryz.func185,Tryz.ntmps185
      | go_enter Tryz.func114,Tryz.ntmps114
      | go_enter Tryz.func30,Tryz.ntmps30
      | go_enter Tryz.func115,Tryz.ntmps115
      go_wp2_with fail
      go_loopw [5] (fun i wr=>∃j:Nat,j<=n/\i=.int .i64 j/\Below w.heap.size w wr) (fun i _=>n-(intOf i).toNat)
      case atStart=>exact⟨0,zD1 _,rfl,zD2 _ _⟩
      case round=>
        obtain⟨j,hj,rfl,hbr⟩:=hrel
        by_cases Ai:j<n
        . obtain⟨x,Ak⟩:∃x,rs[j]?=some x:=⟨_,zA0 V92⟩
          obtain⟨vs,Ad,Ab⟩:=((show aS w (some ⟨k1,o1,none⟩) c 2 rs from HL1.out).below hbr |>.el Ak).vals
          obtain⟨us,hus,hcl2⟩:=((show aS w (some ⟨k2,o2,none⟩) c2 2 rs from HL2.out).below hbr |>.el Ak).vals
          refine M9239 ?_;intro HX HC;obtain⟨y0,y1,rfl⟩:=aR0 (Ad.lenE.trans HX.1);obtain⟨z0,z1,rfl⟩:=aR0 (hus.lenE.trans HX.1);simp only[List.toArray]at HC
          have p0:wr.cell? ⟨k1,o1+j*2,none⟩=some y0:=Ab 0 _ rfl
          have q0:wr.cell? ⟨k2,o2+j*2,none⟩=some z0:=hcl2 0 _ rfl
          have p1:wr.cell? ⟨k1,o1+j*2+1,none⟩=some y1:=Ab 1 _ rfl
          have q1:wr.cell? ⟨k2,o2+j*2+1,none⟩=some z1:=hcl2 1 _ rfl
          clear Ab hcl2 Ad hus HX Ak
          have Al:(wr.drew.cell? ⟨k1,o1+j*2,none⟩=some y0/\wr.drew.cell? ⟨k1,o1+j*2+1,none⟩=some y1/\wr.drew.cell? ⟨k2,o2+j*2,none⟩=some z0/\wr.drew.cell? ⟨k2,o2+j*2+1,none⟩=some z1):=⟨p0,p1,q0,q1⟩
          have hbs:∀{wl:World},Below wr.drew.heap.size wr.drew wl->(wl.cell? ⟨k1,o1+j*2,none⟩=some y0/\wl.cell? ⟨k1,o1+j*2+1,none⟩=some y1/\wl.cell? ⟨k2,o2+j*2,none⟩=some z0/\wl.cell? ⟨k2,o2+j*2+1,none⟩=some z1):=by
            intro wl hb;exact U275
          go_wp2_with fail
          go_region_held3 (fun wx=>(wx.cell? ⟨k1,o1+j*2,none⟩=some y0/\wx.cell? ⟨k1,o1+j*2+1,none⟩=some y1/\wx.cell? ⟨k2,o2+j*2,none⟩=some z0/\wx.cell? ⟨k2,o2+j*2+1,none⟩=some z1)) (first|exact Al|exact HSl) (first
            | (go_at_call 156;(with_reducible refine HC.mono ?_);rintro e wl ⟨rfl,hbl⟩;have HSl:=hbs hbl)
            | (go_at_call 210;(with_reducible refine HC.mono ?_);rintro e wl ⟨rfl,hbl⟩;have HSl:=hbs hbl)
            | (go_at_call 158;(with_reducible refine HC.mono ?_);rintro e wl ⟨rfl,hbl⟩;have HSl:=hbs hbl)
            | (go_at_call 61;(with_reducible refine HC.mono ?_);rintro e wl ⟨rfl,hbl⟩;have HSl:=hbs hbl)
            | (go_at_call 159;(with_reducible refine HC.mono ?_);rintro e wl ⟨rfl,hbl⟩;have HSl:=hbs hbl)
            )
          have hbw:=hbr.drew.trans (hbl.mono hbr.size);clear Al hbs HC p0 q0 p1 q1;exact U302
        . go_wp2
          go_ret;exact⟨rfl,hbr⟩
theorem aIu (l:List Va)(H:∀x ∈ l,EqR 156 (Va.fl x)):EqF 112 (.l 2 (l.map Va.fl)):=aOi (112,156) V15 _ (zG1.2 fun x hx=>⟨by first|rfl|(cases x;rfl),H x hx⟩)
theorem aC4 (l:List Pa)(H:∀x ∈ l,EqR 210 (Pa.fl x)):EqF 185 (.l 2 (l.map Pa.fl)):=aOi (185,210) V15 _ (zG1.2 fun x hx=>⟨by first|rfl|(cases x;rfl),H x hx⟩)
theorem tB (l:List Fp)(H:∀x ∈ l,EqR 158 (Fp.fl x)):EqF 114 (.l 2 (l.map Fp.fl)):=aOi (114,158) V15 _ (zG1.2 fun x hx=>⟨by first|rfl|(cases x;rfl),H x hx⟩)
theorem aFf (l:List Fa)(H:∀x ∈ l,EqR 61 (Fa.fl x)):EqF 30 (.l 2 (l.map Fa.fl)):=aOi (30,61) V15 _ (zG1.2 fun x hx=>⟨by first|rfl|(cases x;rfl),H x hx⟩)
theorem aQv (l:List Ag)(H:∀x ∈ l,EqR 159 (Ag.fl x)):EqF 115 (.l 2 (l.map Ag.fl)):=aOi (115,159) V15 _ (zG1.2 fun x hx=>⟨by first|rfl|(cases x;rfl),H x hx⟩)
theorem aRz {l:List Value}(h:l.length=4):∃y0 y1 y2 y3,l=[y0,y1,y2,y3]:=by match l,h with|[y0,y1,y2,y3],_=>exact⟨_,_,_,_,rfl⟩
theorem aQu:∀p ∈ ([
    (29,60),
    ]:List (Nat × Nat)),aRl p.1 p.2 4:=by
  simp only[List.forall_mem_cons]
  repeat' apply And.intro
  all_goals first|(intro _ h;cases h;done)|skip
  all_goals
    intro rs H w0 v u hv hu w Ar;obtain⟨a,c,rfl,hl1⟩:=(hv.below Ar).list;obtain⟨a2,c2,rfl,hl2⟩:=(hu.below Ar).list;clear hv hu Ar;generalize hn:rs.length=n at hl1 hl2 ⊢
    have hcn:n<=9223372036854775807:=by have h1:=hl1.cap;have h2:=hl1.most;unfold maxLen at h2;omega
    rcases zG0 n with h0|Am
    . subst h0
      clear hl1 hl2 H hn
      first
      | go_enter Tryz.func29,Tryz.ntmps29
      go_wp2_with fail;exact U320
    . obtain⟨k1,o1,rfl⟩:=hl1.addr V19
      obtain⟨k2,o2,rfl⟩:=hl2.addr V19;have HL1:=hid hl1;have HL2:=hid hl2;have HH:=hid H;have Hd:=hid hn;clear hl1 hl2 H hn
      first
      | go_enter Tryz.func29,Tryz.ntmps29
      go_wp2_with fail
      go_loopw [5] (fun i wr=>∃j:Nat,j<=n/\i=.int .i64 j/\Below w.heap.size w wr) (fun i _=>n-(intOf i).toNat)
      case atStart=>exact⟨0,zD1 _,rfl,zD2 _ _⟩
      case round=>
        obtain⟨j,hj,rfl,hbr⟩:=hrel
        by_cases Ai:j<n
        . obtain⟨x,Ak⟩:∃x,rs[j]?=some x:=⟨_,zA0 V92⟩
          obtain⟨vs,Ad,Ab⟩:=((show aS w (some ⟨k1,o1,none⟩) c 4 rs from HL1.out).below hbr |>.el Ak).vals
          obtain⟨us,hus,hcl2⟩:=((show aS w (some ⟨k2,o2,none⟩) c2 4 rs from HL2.out).below hbr |>.el Ak).vals
          refine M9239 ?_;intro HX HC;obtain⟨y0,y1,y2,y3,rfl⟩:=aRz (Ad.lenE.trans HX.1);obtain⟨z0,z1,z2,z3,rfl⟩:=aRz (hus.lenE.trans HX.1);simp only[List.toArray]at HC
          have p0:wr.cell? ⟨k1,o1+j*4,none⟩=some y0:=Ab 0 _ rfl
          have q0:wr.cell? ⟨k2,o2+j*4,none⟩=some z0:=hcl2 0 _ rfl
          have p1:wr.cell? ⟨k1,o1+j*4+1,none⟩=some y1:=Ab 1 _ rfl
          have q1:wr.cell? ⟨k2,o2+j*4+1,none⟩=some z1:=hcl2 1 _ rfl
          have p2:wr.cell? ⟨k1,o1+j*4+2,none⟩=some y2:=Ab 2 _ rfl
          have q2:wr.cell? ⟨k2,o2+j*4+2,none⟩=some z2:=hcl2 2 _ rfl
          have p3:wr.cell? ⟨k1,o1+j*4+3,none⟩=some y3:=Ab 3 _ rfl
          have q3:wr.cell? ⟨k2,o2+j*4+3,none⟩=some z3:=hcl2 3 _ rfl
          clear Ab hcl2 Ad hus HX Ak
          have Al:(wr.drew.cell? ⟨k1,o1+j*4,none⟩=some y0/\wr.drew.cell? ⟨k1,o1+j*4+1,none⟩=some y1/\wr.drew.cell? ⟨k1,o1+j*4+2,none⟩=some y2/\wr.drew.cell? ⟨k1,o1+j*4+3,none⟩=some y3/\wr.drew.cell? ⟨k2,o2+j*4,none⟩=some z0/\wr.drew.cell? ⟨k2,o2+j*4+1,none⟩=some z1/\wr.drew.cell? ⟨k2,o2+j*4+2,none⟩=some z2/\wr.drew.cell? ⟨k2,o2+j*4+3,none⟩=some z3):=⟨p0,p1,p2,p3,q0,q1,q2,q3⟩
          have hbs:∀{wl:World},Below wr.drew.heap.size wr.drew wl->(wl.cell? ⟨k1,o1+j*4,none⟩=some y0/\wl.cell? ⟨k1,o1+j*4+1,none⟩=some y1/\wl.cell? ⟨k1,o1+j*4+2,none⟩=some y2/\wl.cell? ⟨k1,o1+j*4+3,none⟩=some y3/\wl.cell? ⟨k2,o2+j*4,none⟩=some z0/\wl.cell? ⟨k2,o2+j*4+1,none⟩=some z1/\wl.cell? ⟨k2,o2+j*4+2,none⟩=some z2/\wl.cell? ⟨k2,o2+j*4+3,none⟩=some z3):=by
            intro wl hb;exact U275
          go_wp2_with fail
          go_region_held3 (fun wx=>(wx.cell? ⟨k1,o1+j*4,none⟩=some y0/\wx.cell? ⟨k1,o1+j*4+1,none⟩=some y1/\wx.cell? ⟨k1,o1+j*4+2,none⟩=some y2/\wx.cell? ⟨k1,o1+j*4+3,none⟩=some y3/\wx.cell? ⟨k2,o2+j*4,none⟩=some z0/\wx.cell? ⟨k2,o2+j*4+1,none⟩=some z1/\wx.cell? ⟨k2,o2+j*4+2,none⟩=some z2/\wx.cell? ⟨k2,o2+j*4+3,none⟩=some z3)) (first|exact Al|exact HSl) (first
            | (go_at_call 60;(with_reducible refine HC.mono ?_);rintro e wl ⟨rfl,hbl⟩;have HSl:=hbs hbl)
            )
          have hbw:=hbr.drew.trans (hbl.mono hbr.size);clear Al hbs HC p0 q0 p1 q1 p2 q2 p3 q3;exact U302
        . go_wp2
          go_ret;exact⟨rfl,hbr⟩
theorem aPs (l:List Mo)(H:∀x ∈ l,EqR 60 (Mo.fl x)):EqF 29 (.l 4 (l.map Mo.fl)):=aQu (29,60) V15 _ (zG1.2 fun x hx=>⟨by first|rfl|(cases x;rfl),H x hx⟩)
theorem aRy {l:List Value}(h:l.length=5):∃y0 y1 y2 y3 y4,l=[y0,y1,y2,y3,y4]:=by match l,h with|[y0,y1,y2,y3,y4],_=>exact⟨_,_,_,_,_,rfl⟩
theorem aO5:∀p ∈ ([
    (228,242),
    (113,157),
    (31,62),
    ]:List (Nat × Nat)),aRl p.1 p.2 5:=by
  simp only[List.forall_mem_cons]
  repeat' apply And.intro
  all_goals first|(intro _ h;cases h;done)|skip
  all_goals
    intro rs H w0 v u hv hu w Ar;obtain⟨a,c,rfl,hl1⟩:=(hv.below Ar).list;obtain⟨a2,c2,rfl,hl2⟩:=(hu.below Ar).list;clear hv hu Ar;generalize hn:rs.length=n at hl1 hl2 ⊢
    have hcn:n<=9223372036854775807:=by have h1:=hl1.cap;have h2:=hl1.most;unfold maxLen at h2;omega
    rcases zG0 n with h0|Am
    . subst h0
      clear hl1 hl2 H hn
      first
      | go_enter Tryz.func228,Tryz.ntmps228
      | go_enter Tryz.func113,Tryz.ntmps113
      | go_enter Tryz.func31,Tryz.ntmps31
      go_wp2_with fail;exact U320
    . obtain⟨k1,o1,rfl⟩:=hl1.addr V19
      obtain⟨k2,o2,rfl⟩:=hl2.addr V19;have HL1:=hid hl1;have HL2:=hid hl2;have HH:=hid H;have Hd:=hid hn;clear hl1 hl2 H hn
      first
      | go_enter Tryz.func228,Tryz.ntmps228
      | go_enter Tryz.func113,Tryz.ntmps113
      | go_enter Tryz.func31,Tryz.ntmps31
      go_wp2_with fail
      go_loopw [5] (fun i wr=>∃j:Nat,j<=n/\i=.int .i64 j/\Below w.heap.size w wr) (fun i _=>n-(intOf i).toNat)
      case atStart=>exact⟨0,zD1 _,rfl,zD2 _ _⟩
      case round=>
        obtain⟨j,hj,rfl,hbr⟩:=hrel
        by_cases Ai:j<n
        . obtain⟨x,Ak⟩:∃x,rs[j]?=some x:=⟨_,zA0 V92⟩
          obtain⟨vs,Ad,Ab⟩:=((show aS w (some ⟨k1,o1,none⟩) c 5 rs from HL1.out).below hbr |>.el Ak).vals
          obtain⟨us,hus,hcl2⟩:=((show aS w (some ⟨k2,o2,none⟩) c2 5 rs from HL2.out).below hbr |>.el Ak).vals
          refine M9239 ?_;intro HX HC;obtain⟨y0,y1,y2,y3,y4,rfl⟩:=aRy (Ad.lenE.trans HX.1);obtain⟨z0,z1,z2,z3,z4,rfl⟩:=aRy (hus.lenE.trans HX.1);simp only[List.toArray]at HC
          have p0:wr.cell? ⟨k1,o1+j*5,none⟩=some y0:=Ab 0 _ rfl
          have q0:wr.cell? ⟨k2,o2+j*5,none⟩=some z0:=hcl2 0 _ rfl
          have p1:wr.cell? ⟨k1,o1+j*5+1,none⟩=some y1:=Ab 1 _ rfl
          have q1:wr.cell? ⟨k2,o2+j*5+1,none⟩=some z1:=hcl2 1 _ rfl
          have p2:wr.cell? ⟨k1,o1+j*5+2,none⟩=some y2:=Ab 2 _ rfl
          have q2:wr.cell? ⟨k2,o2+j*5+2,none⟩=some z2:=hcl2 2 _ rfl
          have p3:wr.cell? ⟨k1,o1+j*5+3,none⟩=some y3:=Ab 3 _ rfl
          have q3:wr.cell? ⟨k2,o2+j*5+3,none⟩=some z3:=hcl2 3 _ rfl
          have p4:wr.cell? ⟨k1,o1+j*5+4,none⟩=some y4:=Ab 4 _ rfl
          have q4:wr.cell? ⟨k2,o2+j*5+4,none⟩=some z4:=hcl2 4 _ rfl
          clear Ab hcl2 Ad hus HX Ak
          have Al:(wr.drew.cell? ⟨k1,o1+j*5,none⟩=some y0/\wr.drew.cell? ⟨k1,o1+j*5+1,none⟩=some y1/\wr.drew.cell? ⟨k1,o1+j*5+2,none⟩=some y2/\wr.drew.cell? ⟨k1,o1+j*5+3,none⟩=some y3/\wr.drew.cell? ⟨k1,o1+j*5+4,none⟩=some y4/\wr.drew.cell? ⟨k2,o2+j*5,none⟩=some z0/\wr.drew.cell? ⟨k2,o2+j*5+1,none⟩=some z1/\wr.drew.cell? ⟨k2,o2+j*5+2,none⟩=some z2/\wr.drew.cell? ⟨k2,o2+j*5+3,none⟩=some z3/\wr.drew.cell? ⟨k2,o2+j*5+4,none⟩=some z4):=⟨p0,p1,p2,p3,p4,q0,q1,q2,q3,q4⟩
          have hbs:∀{wl:World},Below wr.drew.heap.size wr.drew wl->(wl.cell? ⟨k1,o1+j*5,none⟩=some y0/\wl.cell? ⟨k1,o1+j*5+1,none⟩=some y1/\wl.cell? ⟨k1,o1+j*5+2,none⟩=some y2/\wl.cell? ⟨k1,o1+j*5+3,none⟩=some y3/\wl.cell? ⟨k1,o1+j*5+4,none⟩=some y4/\wl.cell? ⟨k2,o2+j*5,none⟩=some z0/\wl.cell? ⟨k2,o2+j*5+1,none⟩=some z1/\wl.cell? ⟨k2,o2+j*5+2,none⟩=some z2/\wl.cell? ⟨k2,o2+j*5+3,none⟩=some z3/\wl.cell? ⟨k2,o2+j*5+4,none⟩=some z4):=by
            intro wl hb;exact U275
          go_wp2_with fail
          go_region_held3 (fun wx=>(wx.cell? ⟨k1,o1+j*5,none⟩=some y0/\wx.cell? ⟨k1,o1+j*5+1,none⟩=some y1/\wx.cell? ⟨k1,o1+j*5+2,none⟩=some y2/\wx.cell? ⟨k1,o1+j*5+3,none⟩=some y3/\wx.cell? ⟨k1,o1+j*5+4,none⟩=some y4/\wx.cell? ⟨k2,o2+j*5,none⟩=some z0/\wx.cell? ⟨k2,o2+j*5+1,none⟩=some z1/\wx.cell? ⟨k2,o2+j*5+2,none⟩=some z2/\wx.cell? ⟨k2,o2+j*5+3,none⟩=some z3/\wx.cell? ⟨k2,o2+j*5+4,none⟩=some z4)) (first|exact Al|exact HSl) (first
            | (go_at_call 242;(with_reducible refine HC.mono ?_);rintro e wl ⟨rfl,hbl⟩;have HSl:=hbs hbl)
            | (go_at_call 157;(with_reducible refine HC.mono ?_);rintro e wl ⟨rfl,hbl⟩;have HSl:=hbs hbl)
            | (go_at_call 62;(with_reducible refine HC.mono ?_);rintro e wl ⟨rfl,hbl⟩;have HSl:=hbs hbl)
            )
          have hbw:=hbr.drew.trans (hbl.mono hbr.size);clear Al hbs HC p0 q0 p1 q1 p2 q2 p3 q3 p4 q4;exact U302
        . go_wp2
          go_ret;exact⟨rfl,hbr⟩
theorem wU (l:List Ex)(H:∀x ∈ l,EqR 242 (Ex.fl x)):EqF 228 (.l 5 (exs l)):=by rw[aJ];exact aO5 (228,242) V15 _ (zG1.2 fun x hx=>⟨by first|rfl|(cases x;rfl),H x hx⟩)
theorem aFc (l:List Pr)(H:∀x ∈ l,EqR 157 (Pr.fl x)):EqF 113 (.l 5 (l.map Pr.fl)):=aO5 (113,157) V15 _ (zG1.2 fun x hx=>⟨by first|rfl|(cases x;rfl),H x hx⟩)
theorem aPt (l:List Ac)(H:∀x ∈ l,EqR 62 (Ac.fl x)):EqF 31 (.l 5 (l.map Ac.fl)):=aO5 (31,62) V15 _ (zG1.2 fun x hx=>⟨by first|rfl|(cases x;rfl),H x hx⟩)
theorem aRx {l:List Value}(h:l.length=6):∃y0 y1 y2 y3 y4 y5,l=[y0,y1,y2,y3,y4,y5]:=by match l,h with|[y0,y1,y2,y3,y4,y5],_=>exact⟨_,_,_,_,_,_,rfl⟩
theorem aQt:∀p ∈ ([
    (186,211),
    ]:List (Nat × Nat)),aRl p.1 p.2 6:=by
  simp only[List.forall_mem_cons]
  repeat' apply And.intro
  all_goals first|(intro _ h;cases h;done)|skip
  all_goals
    intro rs H w0 v u hv hu w Ar;obtain⟨a,c,rfl,hl1⟩:=(hv.below Ar).list;obtain⟨a2,c2,rfl,hl2⟩:=(hu.below Ar).list;clear hv hu Ar;generalize hn:rs.length=n at hl1 hl2 ⊢
    have hcn:n<=9223372036854775807:=by have h1:=hl1.cap;have h2:=hl1.most;unfold maxLen at h2;omega
    rcases zG0 n with h0|Am
    . subst h0
      clear hl1 hl2 H hn
      first
      | go_enter Tryz.func186,Tryz.ntmps186
      go_wp2_with fail;exact U320
    . obtain⟨k1,o1,rfl⟩:=hl1.addr V19
      obtain⟨k2,o2,rfl⟩:=hl2.addr V19;have HL1:=hid hl1;have HL2:=hid hl2;have HH:=hid H;have Hd:=hid hn;clear hl1 hl2 H hn
      first
      | go_enter Tryz.func186,Tryz.ntmps186
      go_wp2_with fail
      go_loopw [5] (fun i wr=>∃j:Nat,j<=n/\i=.int .i64 j/\Below w.heap.size w wr) (fun i _=>n-(intOf i).toNat)
      case atStart=>exact⟨0,zD1 _,rfl,zD2 _ _⟩
      case round=>
        obtain⟨j,hj,rfl,hbr⟩:=hrel
        by_cases Ai:j<n
        . obtain⟨x,Ak⟩:∃x,rs[j]?=some x:=⟨_,zA0 V92⟩
          obtain⟨vs,Ad,Ab⟩:=((show aS w (some ⟨k1,o1,none⟩) c 6 rs from HL1.out).below hbr |>.el Ak).vals
          obtain⟨us,hus,hcl2⟩:=((show aS w (some ⟨k2,o2,none⟩) c2 6 rs from HL2.out).below hbr |>.el Ak).vals
          refine M9239 ?_;intro HX HC;obtain⟨y0,y1,y2,y3,y4,y5,rfl⟩:=aRx (Ad.lenE.trans HX.1);obtain⟨z0,z1,z2,z3,z4,z5,rfl⟩:=aRx (hus.lenE.trans HX.1);simp only[List.toArray]at HC
          have p0:wr.cell? ⟨k1,o1+j*6,none⟩=some y0:=Ab 0 _ rfl
          have q0:wr.cell? ⟨k2,o2+j*6,none⟩=some z0:=hcl2 0 _ rfl
          have p1:wr.cell? ⟨k1,o1+j*6+1,none⟩=some y1:=Ab 1 _ rfl
          have q1:wr.cell? ⟨k2,o2+j*6+1,none⟩=some z1:=hcl2 1 _ rfl
          have p2:wr.cell? ⟨k1,o1+j*6+2,none⟩=some y2:=Ab 2 _ rfl
          have q2:wr.cell? ⟨k2,o2+j*6+2,none⟩=some z2:=hcl2 2 _ rfl
          have p3:wr.cell? ⟨k1,o1+j*6+3,none⟩=some y3:=Ab 3 _ rfl
          have q3:wr.cell? ⟨k2,o2+j*6+3,none⟩=some z3:=hcl2 3 _ rfl
          have p4:wr.cell? ⟨k1,o1+j*6+4,none⟩=some y4:=Ab 4 _ rfl
          have q4:wr.cell? ⟨k2,o2+j*6+4,none⟩=some z4:=hcl2 4 _ rfl
          have p5:wr.cell? ⟨k1,o1+j*6+5,none⟩=some y5:=Ab 5 _ rfl
          have q5:wr.cell? ⟨k2,o2+j*6+5,none⟩=some z5:=hcl2 5 _ rfl
          clear Ab hcl2 Ad hus HX Ak
          have Al:(wr.drew.cell? ⟨k1,o1+j*6,none⟩=some y0/\wr.drew.cell? ⟨k1,o1+j*6+1,none⟩=some y1/\wr.drew.cell? ⟨k1,o1+j*6+2,none⟩=some y2/\wr.drew.cell? ⟨k1,o1+j*6+3,none⟩=some y3/\wr.drew.cell? ⟨k1,o1+j*6+4,none⟩=some y4/\wr.drew.cell? ⟨k1,o1+j*6+5,none⟩=some y5/\wr.drew.cell? ⟨k2,o2+j*6,none⟩=some z0/\wr.drew.cell? ⟨k2,o2+j*6+1,none⟩=some z1/\wr.drew.cell? ⟨k2,o2+j*6+2,none⟩=some z2/\wr.drew.cell? ⟨k2,o2+j*6+3,none⟩=some z3/\wr.drew.cell? ⟨k2,o2+j*6+4,none⟩=some z4/\wr.drew.cell? ⟨k2,o2+j*6+5,none⟩=some z5):=⟨p0,p1,p2,p3,p4,p5,q0,q1,q2,q3,q4,q5⟩
          have hbs:∀{wl:World},Below wr.drew.heap.size wr.drew wl->(wl.cell? ⟨k1,o1+j*6,none⟩=some y0/\wl.cell? ⟨k1,o1+j*6+1,none⟩=some y1/\wl.cell? ⟨k1,o1+j*6+2,none⟩=some y2/\wl.cell? ⟨k1,o1+j*6+3,none⟩=some y3/\wl.cell? ⟨k1,o1+j*6+4,none⟩=some y4/\wl.cell? ⟨k1,o1+j*6+5,none⟩=some y5/\wl.cell? ⟨k2,o2+j*6,none⟩=some z0/\wl.cell? ⟨k2,o2+j*6+1,none⟩=some z1/\wl.cell? ⟨k2,o2+j*6+2,none⟩=some z2/\wl.cell? ⟨k2,o2+j*6+3,none⟩=some z3/\wl.cell? ⟨k2,o2+j*6+4,none⟩=some z4/\wl.cell? ⟨k2,o2+j*6+5,none⟩=some z5):=by
            intro wl hb;exact U275
          go_wp2_with fail
          go_region_held3 (fun wx=>(wx.cell? ⟨k1,o1+j*6,none⟩=some y0/\wx.cell? ⟨k1,o1+j*6+1,none⟩=some y1/\wx.cell? ⟨k1,o1+j*6+2,none⟩=some y2/\wx.cell? ⟨k1,o1+j*6+3,none⟩=some y3/\wx.cell? ⟨k1,o1+j*6+4,none⟩=some y4/\wx.cell? ⟨k1,o1+j*6+5,none⟩=some y5/\wx.cell? ⟨k2,o2+j*6,none⟩=some z0/\wx.cell? ⟨k2,o2+j*6+1,none⟩=some z1/\wx.cell? ⟨k2,o2+j*6+2,none⟩=some z2/\wx.cell? ⟨k2,o2+j*6+3,none⟩=some z3/\wx.cell? ⟨k2,o2+j*6+4,none⟩=some z4/\wx.cell? ⟨k2,o2+j*6+5,none⟩=some z5)) (first|exact Al|exact HSl) (first
            | (go_at_call 211;(with_reducible refine HC.mono ?_);rintro e wl ⟨rfl,hbl⟩;have HSl:=hbs hbl)
            )
          have hbw:=hbr.drew.trans (hbl.mono hbr.size);clear Al hbs HC p0 q0 p1 q1 p2 q2 p3 q3 p4 q4 p5 q5;exact U302
        . go_wp2
          go_ret;exact⟨rfl,hbr⟩
theorem rD (l:List St)(H:∀x ∈ l,EqR 211 (St.fl x)):EqF 186 (.l 6 (sts l)):=by rw[aM];exact aQt (186,211) V15 _ (zG1.2 fun x hx=>⟨by first|rfl|(cases x;rfl),H x hx⟩)
theorem aC7 (l:List (List Int))(H:∀x ∈ l,EqF 110 (.b x)):EqF 111 (.l 1 (bH l)):=by
  intro w0 v u hv hu w Ar;obtain⟨a,c,rfl,hl1⟩:=(hv.below Ar).list;obtain⟨a2,c2,rfl,hl2⟩:=(hu.below Ar).list;clear hv hu Ar
  have hm:(bH l).length=l.length:=by simp[aJ,aM,bH]
  have hat:∀j,j<l.length->∃x ∈ l,(bH l)[j]?=some [.b x]:=by
    exact U9
  generalize hrs:bH l=rs at hl1 hl2 hm hat ⊢;clear hrs;rw[<-hm]at hat;generalize hn:rs.length=n at hl1 hl2 hat ⊢;clear hm
  have hcn:n<=9223372036854775807:=by have h1:=hl1.cap;have h2:=hl1.most;unfold maxLen at h2;omega
  rcases zG0 n with h0|Am
  . subst h0
    clear hl1 hl2 hat H hn;go_enter Tryz.func111,Tryz.ntmps111;go_wp2_with fail;exact U320
  . obtain⟨k1,o1,rfl⟩:=hl1.addr V19
    obtain⟨k2,o2,rfl⟩:=hl2.addr V19;have HL1:=hid hl1;have HL2:=hid hl2;have HA:=hid hat;have HH:=hid H;clear hl1 hl2 hat H hn;go_enter Tryz.func111,Tryz.ntmps111;go_wp2_with fail
    go_loopw [5] (fun i wr=>∃j:Nat,j<=n/\i=.int .i64 j/\Below w.heap.size w wr) (fun i _=>n-(intOf i).toNat)
    case atStart=>exact⟨0,zD1 _,rfl,zD2 _ _⟩
    case round=>
      obtain⟨j,hj,rfl,hbr⟩:=hrel
      by_cases Ai:j<n
      . obtain⟨x,hx,Ak⟩:=HA.out j Ai
        obtain⟨vs,Ad,Ab⟩:=((show aS w (some ⟨k1,o1,none⟩) c 1 rs from HL1.out).below hbr |>.el Ak).vals
        obtain⟨us,hus,hcl2⟩:=((show aS w (some ⟨k2,o2,none⟩) c2 1 rs from HL2.out).below hbr |>.el Ak).vals
        obtain⟨y0,_,rfl,hy0,rfl⟩:=Ad;obtain⟨z0,_,rfl,hz0,rfl⟩:=hus;have HC:=HH.out x hx wr y0 z0 hy0 hz0 wr.drew ((zD2 _ wr).drew);clear Ak;obtain⟨a0,c0,rfl,da0⟩:=hy0;obtain⟨b0,d0,rfl,db0⟩:=hz0
        have p0:wr.cell? ⟨k1,o1+j,none⟩=some (.slice a0 x.length c0):=by have:=Ab 0 _ rfl;simpa using this
        have q0:wr.cell? ⟨k2,o2+j,none⟩=some (.slice b0 x.length d0):=by have:=hcl2 0 _ rfl;simpa using this
        clear Ab hcl2 hx da0 db0
        have Al:(wr.drew.cell? ⟨k1,o1+j,none⟩=some (.slice a0 x.length c0)/\wr.drew.cell? ⟨k2,o2+j,none⟩=some (.slice b0 x.length d0)):=⟨p0,q0⟩
        have hbs:∀{wl:World},Below wr.drew.heap.size wr.drew wl->(wl.cell? ⟨k1,o1+j,none⟩=some (.slice a0 x.length c0)/\wl.cell? ⟨k2,o2+j,none⟩=some (.slice b0 x.length d0)):=by
          intro wl hb;exact U275
        go_wp2_with fail
        go_region_held3 (fun wx=>(wx.cell? ⟨k1,o1+j,none⟩=some (.slice a0 x.length c0)/\wx.cell? ⟨k2,o2+j,none⟩=some (.slice b0 x.length d0))) (first|exact Al|exact HSl) (first
          | (go_at_call 110;(with_reducible refine HC.mono ?_);rintro e wl ⟨rfl,hbl⟩;have HSl:=hbs hbl))
        have hbw:=hbr.drew.trans (hbl.mono hbr.size);clear Al hbs HC p0 q0;exact U302
      . go_wp2
        go_ret;exact⟨rfl,hbr⟩
theorem iL (l:List Int)(hl:l.length<=1048576):EqF 110 (.b l):=by
  rintro w v u hv hu w1 hb;obtain⟨a,c,rfl,hr,_⟩:=hv.below hb;obtain⟨a2,c2,rfl,hr2,_⟩:=hu.below hb;exact eqT _ _ _ l _ _ _ _ hr hr2 V6
theorem aK8 (l:List Int)(hl:l.length<=1048576):EqF 187 (.i l):=by
  rintro w v u hv hu w1 hb;obtain⟨a,c,rfl,hr,_⟩:=hv.below hb;obtain⟨a2,c2,rfl,hr2,_⟩:=hu.below hb;refine(eqI _ _ _ l _ _ _ l _ hr hr2 V6).mono ?_;exact U368
theorem EqV.on {w w1:World}{F:Nat}{v u:Value}(h:EqV w F v u)(hb:Below w.heap.size w w1):EqV w1 F v u:=
  fun w2 Ae=>h w2 (hb.trans (Ae.mono hb.size))
theorem aK6 (x0:List Int)(x1:Int)(S0:EqF 110 (.b x0)):EqR 156 (Va.mk x0 x1).fl:=by
  intro w vs us hv hu w1 hb;unfold Va.fl at hv hu;obtain⟨yh0,_,rfl,h0,yh1,_,rfl,rfl,rfl⟩:=hv;obtain⟨yk0,_,rfl,k0,yk1,_,rfl,rfl,rfl⟩:=hu;have g0:=(S0 w _ _ h0 k0).on hb;obtain⟨a0,c0,rfl,_⟩:=h0;obtain⟨b0,d0,rfl,_⟩:=k0;exact aK7 a0 b0 _ c0 d0 x1 w1 g0
theorem aFd (x0:List Int)(x1:Bool)(S0:EqF 110 (.b x0)):EqR 210 (Pa.mk x0 x1).fl:=by
  intro w vs us hv hu w1 hb;unfold Pa.fl at hv hu;obtain⟨yh0,_,rfl,h0,yh1,_,rfl,rfl,rfl⟩:=hv;obtain⟨yk0,_,rfl,k0,yk1,_,rfl,rfl,rfl⟩:=hu;have g0:=(S0 w _ _ h0 k0).on hb;obtain⟨a0,c0,rfl,_⟩:=h0;obtain⟨b0,d0,rfl,_⟩:=k0;exact aFe a0 b0 _ c0 d0 x1 w1 g0
theorem aI2 (x0:Int)(x1:Int)(x2:List Int)(x3:List Int)(x4:List Ex)(S2:EqF 110 (.b x2))(S3:EqF 110 (.b x3))(S4:EqF 228 (.l 5 (exs x4))):EqR 242 (Ex.mk x0 x1 x2 x3 x4).fl:=by
  intro w vs us hv hu w1 hb;unfold Ex.fl at hv hu;obtain⟨yh0,_,rfl,rfl,yh1,_,rfl,rfl,yh2,_,rfl,h2,yh3,_,rfl,h3,yh4,_,rfl,h4,rfl⟩:=hv;obtain⟨yk0,_,rfl,rfl,yk1,_,rfl,rfl,yk2,_,rfl,k2,yk3,_,rfl,k3,yk4,_,rfl,k4,rfl⟩:=hu;have g2:=(S2 w _ _ h2 k2).on hb;have g3:=(S3 w _ _ h3 k3).on hb;have g4:=(S4 w _ _ h4 k4).on hb;obtain⟨a2,c2,rfl,_⟩:=h2;obtain⟨b2,d2,rfl,_⟩:=k2;obtain⟨a3,c3,rfl,_⟩:=h3;obtain⟨b3,d3,rfl,_⟩:=k3;obtain⟨a4,c4,rfl,_⟩:=h4;obtain⟨b4,d4,rfl,_⟩:=k4;exact aI3 x0 x1 a2 b2 _ c2 d2 a3 b3 _ c3 d3 a4 b4 _ c4 d4 w1 g2 g3 g4
theorem aIv (x0:Int)(x1:Int)(x2:List Int)(x3:List Ex)(x4:List St)(x5:List St)(S2:EqF 110 (.b x2))(S3:EqF 228 (.l 5 (exs x3)))(S4:EqF 186 (.l 6 (sts x4)))(S5:EqF 186 (.l 6 (sts x5))):EqR 211 (St.mk x0 x1 x2 x3 x4 x5).fl:=by
  intro w vs us hv hu w1 hb;unfold St.fl at hv hu;obtain⟨yh0,_,rfl,rfl,yh1,_,rfl,rfl,yh2,_,rfl,h2,yh3,_,rfl,h3,yh4,_,rfl,h4,yh5,_,rfl,h5,rfl⟩:=hv;obtain⟨yk0,_,rfl,rfl,yk1,_,rfl,rfl,yk2,_,rfl,k2,yk3,_,rfl,k3,yk4,_,rfl,k4,yk5,_,rfl,k5,rfl⟩:=hu;have g2:=(S2 w _ _ h2 k2).on hb;have g3:=(S3 w _ _ h3 k3).on hb;have g4:=(S4 w _ _ h4 k4).on hb;have g5:=(S5 w _ _ h5 k5).on hb;obtain⟨a2,c2,rfl,_⟩:=h2;obtain⟨b2,d2,rfl,_⟩:=k2;obtain⟨a3,c3,rfl,_⟩:=h3;obtain⟨b3,d3,rfl,_⟩:=k3;obtain⟨a4,c4,rfl,_⟩:=h4;obtain⟨b4,d4,rfl,_⟩:=k4;obtain⟨a5,c5,rfl,_⟩:=h5;obtain⟨b5,d5,rfl,_⟩:=k5;exact aIw x0 x1 a2 b2 _ c2 d2 a3 b3 _ c3 d3 a4 b4 _ c4 d4 a5 b5 _ c5 d5 w1 g2 g3 g4 g5
theorem aIx (x0:List Int)(x1:Bool)(x2:List Pa)(x3:List (List Int))(x4:List St)(S0:EqF 110 (.b x0))(S2:EqF 185 (.l 2 (x2.map Pa.fl)))(S3:EqF 111 (.l 1 (bH x3)))(S4:EqF 186 (.l 6 (sts x4))):EqR 157 (Pr.mk x0 x1 x2 x3 x4).fl:=by
  intro w vs us hv hu w1 hb;unfold Pr.fl at hv hu;obtain⟨yh0,_,rfl,h0,yh1,_,rfl,rfl,yh2,_,rfl,h2,yh3,_,rfl,h3,yh4,_,rfl,h4,rfl⟩:=hv;obtain⟨yk0,_,rfl,k0,yk1,_,rfl,rfl,yk2,_,rfl,k2,yk3,_,rfl,k3,yk4,_,rfl,k4,rfl⟩:=hu;have g0:=(S0 w _ _ h0 k0).on hb;have g2:=(S2 w _ _ h2 k2).on hb;have g3:=(S3 w _ _ h3 k3).on hb;have g4:=(S4 w _ _ h4 k4).on hb;obtain⟨a0,c0,rfl,_⟩:=h0;obtain⟨b0,d0,rfl,_⟩:=k0;obtain⟨a2,c2,rfl,_⟩:=h2;obtain⟨b2,d2,rfl,_⟩:=k2;obtain⟨a3,c3,rfl,_⟩:=h3;obtain⟨b3,d3,rfl,_⟩:=k3;obtain⟨a4,c4,rfl,_⟩:=h4;obtain⟨b4,d4,rfl,_⟩:=k4;exact aIy a0 b0 _ c0 d0 x1 a2 b2 _ c2 d2 a3 b3 _ c3 d3 a4 b4 _ c4 d4 w1 g0 g2 g3 g4
theorem vA (x0:List Int)(x1:List Int)(S0:EqF 110 (.b x0))(S1:EqF 187 (.i x1)):EqR 158 (Fp.mk x0 x1).fl:=by
  intro w vs us hv hu w1 hb;unfold Fp.fl at hv hu;obtain⟨yh0,_,rfl,h0,yh1,_,rfl,h1,rfl⟩:=hv;obtain⟨yk0,_,rfl,k0,yk1,_,rfl,k1,rfl⟩:=hu;have g0:=(S0 w _ _ h0 k0).on hb;have g1:=(S1 w _ _ h1 k1).on hb;obtain⟨a0,c0,rfl,_⟩:=h0;obtain⟨b0,d0,rfl,_⟩:=k0;obtain⟨a1,c1,rfl,_⟩:=h1;obtain⟨b1,d1,rfl,_⟩:=k1;exact vB a0 b0 _ c0 d0 a1 b1 _ c1 d1 w1 g0 g1
theorem aIz (x0:List Int)(x1:List Fp)(S0:EqF 110 (.b x0))(S1:EqF 114 (.l 2 (x1.map Fp.fl))):EqR 61 (Fa.mk x0 x1).fl:=by
  intro w vs us hv hu w1 hb;unfold Fa.fl at hv hu;obtain⟨yh0,_,rfl,h0,yh1,_,rfl,h1,rfl⟩:=hv;obtain⟨yk0,_,rfl,k0,yk1,_,rfl,k1,rfl⟩:=hu;have g0:=(S0 w _ _ h0 k0).on hb;have g1:=(S1 w _ _ h1 k1).on hb;obtain⟨a0,c0,rfl,_⟩:=h0;obtain⟨b0,d0,rfl,_⟩:=k0;obtain⟨a1,c1,rfl,_⟩:=h1;obtain⟨b1,d1,rfl,_⟩:=k1;exact aI0 a0 b0 _ c0 d0 a1 b1 _ c1 d1 w1 g0 g1
theorem aC5 (x0:List Int)(x1:List (List Int))(x2:List Va)(x3:List Pr)(S0:EqF 110 (.b x0))(S1:EqF 111 (.l 1 (bH x1)))(S2:EqF 112 (.l 2 (x2.map Va.fl)))(S3:EqF 113 (.l 5 (x3.map Pr.fl))):EqR 60 (Mo.mk x0 x1 x2 x3).fl:=by
  intro w vs us hv hu w1 hb;unfold Mo.fl at hv hu;obtain⟨yh0,_,rfl,h0,yh1,_,rfl,h1,yh2,_,rfl,h2,yh3,_,rfl,h3,rfl⟩:=hv;obtain⟨yk0,_,rfl,k0,yk1,_,rfl,k1,yk2,_,rfl,k2,yk3,_,rfl,k3,rfl⟩:=hu;have g0:=(S0 w _ _ h0 k0).on hb;have g1:=(S1 w _ _ h1 k1).on hb;have g2:=(S2 w _ _ h2 k2).on hb;have g3:=(S3 w _ _ h3 k3).on hb;obtain⟨a0,c0,rfl,_⟩:=h0;obtain⟨b0,d0,rfl,_⟩:=k0;obtain⟨a1,c1,rfl,_⟩:=h1;obtain⟨b1,d1,rfl,_⟩:=k1;obtain⟨a2,c2,rfl,_⟩:=h2;obtain⟨b2,d2,rfl,_⟩:=k2;obtain⟨a3,c3,rfl,_⟩:=h3;obtain⟨b3,d3,rfl,_⟩:=k3;exact aC6 a0 b0 _ c0 d0 a1 b1 _ c1 d1 a2 b2 _ c2 d2 a3 b3 _ c3 d3 w1 g0 g1 g2 g3
theorem aRg (x0:Bool)(x1:Int) :EqR 159 (Ag.mk x0 x1).fl:=by
  intro w vs us hv hu w1 hb;unfold Ag.fl at hv hu;obtain⟨yh0,_,rfl,rfl,yh1,_,rfl,rfl,rfl⟩:=hv;obtain⟨yk0,_,rfl,rfl,yk1,_,rfl,rfl,rfl⟩:=hu;exact aRh x0 x1 w1
theorem aP3 (x0:Int)(x1:Int)(x2:Int)(x3:List Ag)(x4:Int)(S3:EqF 115 (.l 2 (x3.map Ag.fl))):EqR 62 (Ac.mk x0 x1 x2 x3 x4).fl:=by
  intro w vs us hv hu w1 hb;unfold Ac.fl at hv hu;obtain⟨yh0,_,rfl,rfl,yh1,_,rfl,rfl,yh2,_,rfl,rfl,yh3,_,rfl,h3,yh4,_,rfl,rfl,rfl⟩:=hv;obtain⟨yk0,_,rfl,rfl,yk1,_,rfl,rfl,yk2,_,rfl,rfl,yk3,_,rfl,k3,yk4,_,rfl,rfl,rfl⟩:=hu;have g3:=(S3 w _ _ h3 k3).on hb;obtain⟨a3,c3,rfl,_⟩:=h3;obtain⟨b3,d3,rfl,_⟩:=k3;exact aP4 x0 x1 x2 a3 b3 _ c3 d3 x4 w1 g3
theorem aQh (x0:List Mo)(x1:List Fa)(x2:List Ac)(S0:EqF 29 (.l 4 (x0.map Mo.fl)))(S1:EqF 30 (.l 2 (x1.map Fa.fl)))(S2:EqF 31 (.l 5 (x2.map Ac.fl))):EqR 8 (Wd.mk x0 x1 x2).fl:=by
  intro w vs us hv hu w1 hb;unfold Wd.fl at hv hu;obtain⟨yh0,_,rfl,h0,yh1,_,rfl,h1,yh2,_,rfl,h2,rfl⟩:=hv;obtain⟨yk0,_,rfl,k0,yk1,_,rfl,k1,yk2,_,rfl,k2,rfl⟩:=hu;have g0:=(S0 w _ _ h0 k0).on hb;have g1:=(S1 w _ _ h1 k1).on hb;have g2:=(S2 w _ _ h2 k2).on hb;obtain⟨a0,c0,rfl,_⟩:=h0;obtain⟨b0,d0,rfl,_⟩:=k0;obtain⟨a1,c1,rfl,_⟩:=h1;obtain⟨b1,d1,rfl,_⟩:=k1;obtain⟨a2,c2,rfl,_⟩:=h2;obtain⟨b2,d2,rfl,_⟩:=k2;exact aQi a0 b0 _ c0 d0 a1 b1 _ c1 d1 a2 b2 _ c2 d2 w1 g0 g1 g2
mutual
theorem aNx:∀e:Ex,aH e.fl<=1048576->EqR 242 e.fl
  | .mk k n m a ks,h=>by
    have e:aH (Ex.mk k n m a ks).fl=m.length+a.length+((exs ks).length+aF (exs ks)):=by simp[Ex.fl,aH,Fl.len] <;> omega
    rw[e]at h;exact aI2 k n m a ks (iL m V6) (iL a V6) (wU ks (aI1 ks V6))
theorem aI1:∀(l:List Ex),aF (exs l)<=1048576->∀e ∈ l,EqR 242 e.fl
  | [],_,e,h=>by simp at h
  | x :: l,hl,e,h=>by
    simp only[exs,aF]at hl
    rcases zH0.1 h with h|h
    . rw[h];exact aNx x V6
    . exact aI1 l V6 e h
end
mutual
theorem aNu:∀e:St,aH e.fl<=1048576->EqR 211 e.fl
  | .mk k n a ks bs es,h=>by
    refine M9173 ?_;clear h;intro e h;exact aIv k n a ks bs es (iL a V6) (wU ks (aI1 ks V6)) (rD bs (aFb bs V6)) (rD es (aFb es V6))
theorem aFb:∀(l:List St),aF (sts l)<=1048576->∀e ∈ l,EqR 211 e.fl
  | [],_,e,h=>by simp at h
  | x :: l,hl,e,h=>by
    simp only[sts,aF]at hl
    rcases zH0.1 h with h|h
    . rw[h];exact aNu x V6
    . exact aFb l V6 e h
end
theorem aNw (f:Fa)(h:aH f.fl<=1048576):EqR 61 f.fl:=by
  have e:aH f.fl=f.name.length+((f.procs.map Fp.fl).length+aF (f.procs.map Fp.fl)):=by simp[Fa.fl,aH,Fl.len]
  rw[e]at h
  refine aIz f.name f.procs (iL _ V6) (tB _ fun q hq=>?_)
  have:=hZ (f:=Fp.fl) hq
  simp only[Fp.fl,aH,Fl.len]at this;exact vA q.name q.kinds (iL _ V6) (aK8 _ V6)
theorem aMd (l:List Fa)(h:(l.map Fa.fl).length+aF (l.map Fa.fl)<=1048576):EqF 30 (.l 2 (l.map Fa.fl)):=
  aFf l fun x hx=>aNw x (by have:=hZ (f:=Fa.fl) hx;omega)
theorem aGk (l:List (List Int))(h:(bH l).length+aF (bH l)<=1048576):EqF 111 (.l 1 (bH l)):=
  aC7 l fun x hx=>iL x V55
theorem aNv (m:Mo)(h:aH m.fl<=1048576):EqR 60 m.fl:=by
  refine M9102 ?_;clear h;intro e h
  refine aC5 m.name m.uses m.vars m.procs (iL _ V6) (aGk _ V6) (aIu _ fun v hv=>?_) (aFc _ fun q hq=>?_)
  . have:=hZ (f:=Va.fl) hv
    simp only[Va.fl,aH,Fl.len]at this;exact aK6 v.name v.size (iL _ V6)
  . have:=hZ (f:=Pr.fl) hq
    refine M9166 ?_;clear this;intro e2 this
    refine aIx q.name q.opn q.params q.locals q.body (iL _ V6) (aC4 _ fun p hp=>?_) (aGk _ V6) (rD _ (aFb _ V6))
    have h3:=hZ (f:=Pa.fl) hp;simp only[Pa.fl,aH,Fl.len]at h3;exact aFd p.name p.arr (iL _ V6)
theorem aRu (l:List Ac)(h:(l.map Ac.fl).length+aF (l.map Ac.fl)<=1048576):EqF 31 (.l 5 (l.map Ac.fl)):=by
  refine aPt _ fun q hq=>?_
  have:=hZ (f:=Ac.fl) hq
  have e2:aH q.fl=(q.args.map Ag.fl).length+aF (q.args.map Ag.fl):=by simp[Ac.fl,aH,Fl.len]
  rw[e2]at this
  exact aP3 q.kind q.to q.proc q.args q.n (aQv _ fun z _=>aRg z.arr z.n)
theorem aR3 (x:Wd)(h:aH x.fl<=1048576):EqR 8 x.fl:=by
  refine M999 ?_;clear h;intro e h
  exact aQh x.mods x.faces x.script (aPs _ fun m hm=>aNv m (by have:=hZ (f:=Mo.fl) hm;omega)) (aMd _ V6) (aRu _ V6)
end Go.Proofs.YtegkhlkjfeafjaaGreatDoor

import Derived.Test.YtcbhdhmhidpdgaaGreatWords
import Derived.Deep.RegionWith
namespace Go.Proofs.YtcbhdhmhidpdgaaGreat
set_option maxHeartbeats 2000000
open Go.RowKit
set_option linter.unusedVariables false
set_option linter.unusedSimpArgs false
theorem A21{p:Prop}(h:p:=by simp[go_sem]):p:=h
theorem A29{p:Prop}(h:p:=by simpa using Ad):p:=h
theorem A47{p:Prop}(h:p:=by simp at Jw ⊢;omega):p:=h
theorem A64{p:Prop}(h:p:=by assumption):p:=h
theorem M914{p q:Prop}(k:q)(h:Kx q->p:=by
 intro kQ
 have Oc:w2.cell? ⟨w.heap.size,0,none⟩=some (.bool (xt)):=by rw[Cr,bI _ _ A29];exact(hb.cell A9).trans A21
 have Oa:w2.cell? ⟨w.heap.size,1,none⟩=some (.int .i64 (xn)):=by rw[Cr,bI _ _ A29];exact(hb.cell A9).trans A21
 have Nz:w2.cell? ⟨w.heap.size,2,none⟩=some (.int .i64 (xl)):=by rw[Cr,bI _ _ A29];exact(hb.cell A9).trans A21
 have Ny:w2.cell? ⟨w.heap.size,3,none⟩=some (.int .i64 (xh)):=by rw[Cr,bI _ _ A29];exact(hb.cell A9).trans A21
 have Nx:w2.cell? ⟨w.heap.size,4,none⟩=some (.int .i64 (xa)):=by rw[Cr,bI _ _ A29];exact(hb.cell A9).trans A21
 have Nw:w2.cell? ⟨w.heap.size,5,none⟩=some (.int .i64 (xp)):=by rw[Cr,bI _ _ A29];exact(hb.cell A9).trans A21
 have Nv:w2.cell? ⟨w.heap.size,6,none⟩=some (.int .i64 (xs)):=by rw[Cr,bI _ _ A29];exact(hb.cell A9).trans A21
 have Wp:w2.cell? ⟨w1.heap.size,0,none⟩=some (.bool (true)):=by rw[Cr];simp[go_sem]
 have Wn:w2.cell? ⟨w1.heap.size,1,none⟩=some (.int .i64 (0)):=by rw[Cr];simp[go_sem]
 have Wm:w2.cell? ⟨w1.heap.size,2,none⟩=some (.int .i64 (0)):=by rw[Cr];simp[go_sem]
 have Wl:w2.cell? ⟨w1.heap.size,3,none⟩=some (.int .i64 (0)):=by rw[Cr];simp[go_sem]
 have Wk:w2.cell? ⟨w1.heap.size,4,none⟩=some (.int .i64 (xa)):=by rw[Cr];simp[go_sem]
 have Wj:w2.cell? ⟨w1.heap.size,5,none⟩=some (.int .i64 (16)):=by rw[Cr];simp[go_sem]
 have Wi:w2.cell? ⟨w1.heap.size,6,none⟩=some (.int .i64 (xs)):=by rw[Cr];simp[go_sem]
 revert Wi;revert Wj;revert Wk;revert Wl;revert Wm;revert Wn;revert Wp;revert Nv;revert Nw;revert Nx;revert Ny;revert Nz;revert Oa;revert Oc
 exact kQ.o):p:=h ⟨k⟩
theorem M941{p q:Prop}(k:q)(h:Kx q->p:=by
 intro kQ
 obtain⟨w2,Cr⟩:=zx (w1.alloc (.cells #[.bool true,.int .i64 0,.int .i64 0,.int .i64 0,.int .i64 xa,.int .i64 16,.int .i64 xs] 39))
 rw[<-Cr]
 have Ad:w.heap.size<w1.heap.size:=by have:=hb.size;simp at this;omega
 have hb2:Below w.heap.size w w2:=by rw[Cr];exact((Below.alloc (zD2 _ _) (zB0 _) _).trans (hb.mono A9)).alloc A0 _
 have hgs:w.heap.size<w2.heap.size:=by rw[Cr];simp;omega
 have Bg:w1.heap.size<w2.heap.size:=by rw[Cr];simp
 revert Bg;revert hgs;revert hb2;revert Ad;revert Cr;revert w2
 exact kQ.o):p:=h ⟨k⟩
def aF7 (v:Int):Prop:=-9223372036854775808<=v/\v<=9223372036854775807
theorem aWq:bits .andNot .i64 16 16=0:=by decide
def lH (xt:Bool)(xn xl xh xa xp xs:Int):Bool:=(xt && ((xn == 0) && ((xl == 0) && (xh == 0)))) && (inR xs 1 8 && (inR xa 0 4000 && ((xp == 0) || (xp == 16))))
def okB (xt:Bool)(xn xl xh xa xp xs:Int):Bool:=qX xt xn xl xh xa xp xs || (lH xt xn xl xh xa xp xs || aGe xt xn xl xh xa xp xs)
theorem bI (w:World)(o:Obj){p:Addr}(h:p.block<w.heap.size):(w.alloc o).cell? p=w.cell? p:=by
 have hb:Below w.heap.size w (w.alloc o):=(zD2 _ _).alloc (zB0 _) o;exact hb.cell h
theorem tH {B g:Nat}{w wl:World}{xt xn xl xh xa xp xs:Value}(hb:Below B w wl)(hg:g<B)(c0:w.cell? ⟨g,0,none⟩=some xt)(c1:w.cell? ⟨g,1,none⟩=some xn)(c2:w.cell? ⟨g,2,none⟩=some xl)(c3:w.cell? ⟨g,3,none⟩=some xh)(c4:w.cell? ⟨g,4,none⟩=some xa)(c5:w.cell? ⟨g,5,none⟩=some xp)(c6:w.cell? ⟨g,6,none⟩=some xs):
  wl.cell? ⟨g,0,none⟩=some xt/\wl.cell? ⟨g,1,none⟩=some xn/\wl.cell? ⟨g,2,none⟩=some xl/\wl.cell? ⟨g,3,none⟩=some xh/\wl.cell? ⟨g,4,none⟩=some xa/\wl.cell? ⟨g,5,none⟩=some xp/\wl.cell? ⟨g,6,none⟩=some xs:=
 ⟨(hb.cell hg).trans c0,(hb.cell hg).trans c1,(hb.cell hg).trans c2,(hb.cell hg).trans c3,(hb.cell hg).trans c4,(hb.cell hg).trans c5,(hb.cell hg).trans c6⟩
theorem aD9 (xt:Bool)(xn xl xh xa xp xs:Int)(p:Int)(w:World):
  Calls Tryz.prog 90 #[.agg #[.bool xt,.int .i64 xn,.int .i64 xl,.int .i64 xh,.int .i64 xa,.int .i64 xp,.int .i64 xs],.int .i64 p] w fun e w'=>e=.returned (.agg #[.bool xt,.int .i64 xn,.int .i64 xl,.int .i64 xh,.int .i64 xa,.int .i64 (bits .andNot .i64 xp p),.int .i64 xs])/\Below w.heap.size w w':=by
 refine(aS5 xt xn xl xh xa xp xs p w).mono ?_;rintro e w' ⟨rfl,o1,o2,rfl⟩;exact⟨rfl,((zD2 _ _).alloc (zB0 _) _).alloc A9 _⟩
theorem aNf (s a:Int)(hs:aF7 s)(h:rE (wrap64 (s-1)) a=true):wrap64 (s-1)=s-1/\inR s 1 8=true/\inR a 0 4000=true:=by
 simp only[rE,inR,zC0,zE3]at h ⊢;obtain⟨h1,h2⟩:=hs;unfold wrap64 at h ⊢;omega
theorem aNg (s a:Int)(hs:aF7 s)(h:rE (wrap64 (s-1)) a=false):(inR s 1 8 && inR a 0 4000)=false:=by
 rw[Bool.eq_false_iff]at h ⊢;intro hc;apply h;simp only[rE,inR,zC0,zE3]at hc ⊢;unfold wrap64;omega
set_option maxRecDepth 100000 in
theorem aH2 (xt:Bool)(xn xl xh xa xp xs:Int)(hs:aF7 xs)(w:World):
  Calls Tryz.prog 66 #[.agg #[.bool xt,.int .i64 xn,.int .i64 xl,.int .i64 xh,.int .i64 xa,.int .i64 xp,.int .i64 xs]] w fun e w'=>e=.returned (.bool (lH xt xn xl xh xa xp xs))/\Below w.heap.size w w':=by
 by_cases hE:rE (wrap64 (xs-1)) xa=true
 .
  obtain⟨e1,e2,e3⟩:=aNf xs xa hs hE;have e5:xs-1+1=xs:=A0;have Jw:1<=xs/\xs<=8:=by simpa [inR] using e2
  have e6:wrap64 (xs-1+1)=xs:=by unfold wrap64;omega
  have hq1:∀w:World,(binOp .eql 39 (.agg #[.bool xt,.int .i64 xn,.int .i64 xl,.int .i64 xh,.int .i64 xa,.int .i64 xp,.int .i64 xs]) (.agg #[.bool true,.int .i64 0,.int .i64 0,.int .i64 0,.int .i64 xa,.int .i64 16,.int .i64 xs])).run Tryz.prog w=.ok (.bool ((xt && ((xn == 0) && ((xl == 0) && (xh == 0)))) && (xp == 16))) w:=by
   intro w;rw[rK];congr 2;simp[Bool.and_assoc]
  have Ov:∀w:World,(binOp .eql 39 (.agg #[.bool xt,.int .i64 xn,.int .i64 xl,.int .i64 xh,.int .i64 xa,.int .i64 xp,.int .i64 xs]) (.agg #[.bool true,.int .i64 0,.int .i64 0,.int .i64 0,.int .i64 xa,.int .i64 0,.int .i64 xs])).run Tryz.prog w=.ok (.bool ((xt && ((xn == 0) && ((xl == 0) && (xh == 0)))) && (xp == 0))) w:=by
   intro w;rw[rK];congr 2;simp[Bool.and_assoc]
  have hR:lH xt xn xl xh xa xp xs=(((xt && ((xn == 0) && ((xl == 0) && (xh == 0)))) && (xp == 16)) || ((xt && ((xn == 0) && ((xl == 0) && (xh == 0)))) && (xp == 0))):=by
   rw[lH,e2,e3,Bool.true_and,Bool.true_and,<-Bool.and_or_distrib_left,Bool.or_comm]
  rw[hR];clear hR e2 e3;generalize ((xt && ((xn == 0) && ((xl == 0) && (xh == 0)))) && (xp == 0))=b2 at Ov ⊢;generalize ((xt && ((xn == 0) && ((xl == 0) && (xh == 0)))) && (xp == 16))=b1 at hq1 ⊢;have g16:=aWq;cases b1
  .
   go_enter Tryz.func66,Tryz.ntmps66;go_wp2_with fail;refine(vM _ _ _).mono ?_;rintro e w1 ⟨rfl,hb⟩;rw[<-e1,hE];simp only[sel,cond_true,e1,e5];go_wp2_with fail;refine M941 ?_;intro w2 Cr Ad hb2 hgs Bg;refine M914 ?_;intro Oc Oa Nz Ny Nx Nw Nv Wp Wn Wm Wl Wk Wj Wi;generalize w1.heap.size=k at *;clear Cr hb Ad;go_region_with (go_at_call 90;refine(aD9 _ _ _ _ _ _ _ _ _).mono ?_;rintro e wl ⟨rfl,Ck⟩;rw[g16];have Ds:=tH Ck (by exact hgs) Oc Oa Nz Ny Nx Nw Nv;have hkm:=tH Ck (by exact Bg) Wp Wn Wm Wl Wk Wj Wi;obtain⟨l0,l1,l2,l3,l4,l5,l6⟩:=Ds;obtain⟨m0,m1,m2,m3,m4,m5,m6⟩:=hkm);all_goals go_wp2_with fail
   all_goals go_ret
   all_goals exact⟨rb A9,hb2.drew.trans (Ck.mono (show w.heap.size<=w2.heap.size by omega))⟩
  .
   go_enter Tryz.func66,Tryz.ntmps66;go_wp2_with fail;refine(vM _ _ _).mono ?_;rintro e w1 ⟨rfl,hb⟩;rw[<-e1,hE];simp only[sel,cond_true,e1,e5];go_wp2_with fail;refine M941 ?_;intro w2 Cr Ad hb2 hgs Bg;refine M914 ?_;intro Oc Oa Nz Ny Nx Nw Nv Wp Wn Wm Wl Wk Wj Wi;generalize w1.heap.size=k at *;clear Cr hb Ad;go_quiet (fail);go_wp2;go_ret;exact⟨rb A9,below_drewN hb2 _⟩
 .
  rw[Bool.not_eq_true]at hE;have hR:lH xt xn xl xh xa xp xs=false:=by
   have h:=aNg xs xa hs hE;rw[lH,<-Bool.and_assoc (inR xs 1 8),h];simp
  rw[hR];clear hR;go_enter Tryz.func66,Tryz.ntmps66;go_wp2_with fail;refine(vM _ _ _).mono ?_;rintro e w1 ⟨rfl,hb⟩;have hb1:Below w.heap.size w w1:=(Below.alloc (zD2 _ _) (zB0 _) _).trans (hb.mono A9);rw[hE];simp only[sel,cond_false];clear hb hE;go_wp2_with fail;go_quiet (fail);go_wp2;go_ret;exact⟨rb rfl,below_drewN (hb1.alloc hb1.size _) _⟩
set_option maxRecDepth 100000 in
theorem aM6 (xt:Bool)(xn xl xh xa xp xs:Int)(hs:aF7 xs)(w:World):
  Calls Tryz.prog 42 #[.agg #[.bool xt,.int .i64 xn,.int .i64 xl,.int .i64 xh,.int .i64 xa,.int .i64 xp,.int .i64 xs]] w fun e w'=>e=.returned (.bool (okB xt xn xl xh xa xp xs))/\Below w.heap.size w w':=by
 unfold okB;have H1:=aQe xt xn xl xh xa xp xs;have H2:=aH2 xt xn xl xh xa xp xs hs;have H3:=aQd xt xn xl xh xa xp xs;generalize qX xt xn xl xh xa xp xs=b1 at *;generalize lH xt xn xl xh xa xp xs=b2 at *;generalize aGe xt xn xl xh xa xp xs=b3 at *;go_enter Tryz.func42,Tryz.ntmps42;go_wp2_with fail;refine(H1 _).mono ?_;rintro e w1 ⟨rfl,hb1⟩;have Ge:Below w.heap.size w w1:=(Below.alloc (zD2 _ _) (zB0 _) _).trans (hb1.mono A9);cases b1
 .
  have Jw:=hb1.size;have cx_w10:w1.cell? ⟨w.heap.size,0,none⟩=some (.bool (xt)):=(hb1.cell A9).trans A21;have cx_w11:w1.cell? ⟨w.heap.size,1,none⟩=some (.int .i64 (xn)):=(hb1.cell A9).trans A21;have cx_w12:w1.cell? ⟨w.heap.size,2,none⟩=some (.int .i64 (xl)):=(hb1.cell A9).trans A21;have cx_w13:w1.cell? ⟨w.heap.size,3,none⟩=some (.int .i64 (xh)):=(hb1.cell A9).trans A21;have cx_w14:w1.cell? ⟨w.heap.size,4,none⟩=some (.int .i64 (xa)):=(hb1.cell A9).trans A21;have cx_w15:w1.cell? ⟨w.heap.size,5,none⟩=some (.int .i64 (xp)):=(hb1.cell A9).trans A21;have cx_w16:w1.cell? ⟨w.heap.size,6,none⟩=some (.int .i64 (xs)):=(hb1.cell A9).trans A21;go_wp2_with fail;refine(H2 _).mono ?_;rintro e w2 ⟨rfl,hb2⟩;have Cr:=Ge.trans (hb2.mono Ge.size);cases b2
  .
   have Oc:w2.cell? ⟨w.heap.size,0,none⟩=some (.bool (xt)):=(hb2.cell A47).trans A64;have Oa:w2.cell? ⟨w.heap.size,1,none⟩=some (.int .i64 (xn)):=(hb2.cell A47).trans A64;have Nz:w2.cell? ⟨w.heap.size,2,none⟩=some (.int .i64 (xl)):=(hb2.cell A47).trans A64;have Ny:w2.cell? ⟨w.heap.size,3,none⟩=some (.int .i64 (xh)):=(hb2.cell A47).trans A64;have Nx:w2.cell? ⟨w.heap.size,4,none⟩=some (.int .i64 (xa)):=(hb2.cell A47).trans A64;have Nw:w2.cell? ⟨w.heap.size,5,none⟩=some (.int .i64 (xp)):=(hb2.cell A47).trans A64;have Nv:w2.cell? ⟨w.heap.size,6,none⟩=some (.int .i64 (xs)):=(hb2.cell A47).trans A64;go_wp2_with fail;refine(H3 _).mono ?_;rintro e w3 ⟨rfl,o,rfl⟩;go_wp2;go_ret;exact⟨rb A9,Cr.alloc Cr.size _⟩
  .
   go_wp2;go_ret;exact⟨rb A9,Cr⟩
 .
  go_wp2;go_ret;exact⟨rb A9,Ge⟩
end Go.Proofs.YtcbhdhmhidpdgaaGreat

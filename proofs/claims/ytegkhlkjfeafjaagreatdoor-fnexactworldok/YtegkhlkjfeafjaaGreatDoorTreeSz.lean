import Derived.Test.YtegkhlkjfeafjaaGreatDoorPackB
import Derived.Deep.Cut
import Derived.Deep.CutRange
namespace Go.Proofs.YtegkhlkjfeafjaaGreatDoor
set_option maxHeartbeats 40000000
open Go.RowKit
set_option linter.unusedVariables false
set_option linter.unusedSimpArgs false
set_option maxRecDepth 100000
theorem V19{p:Prop}(h:p:=by rw[hn];exact Am):p:=h
theorem V92{p:Prop}(h:p:=by rw[Hd.out];exact Ai):p:=h
theorem U267{p:Prop}(h:p:=by
 go_wp2_with fail
 refine G.mono ?_
 rintro e w1 ⟨rfl,hb⟩
 have hB1:=hB.trans (hb.mono hB.size)
 clear hb G hB
 go_wp2
 go_ret
 exact⟨aQ (bM V6).symm,hB1⟩):p:=h
theorem U101{p:Prop}(h:p:=by
 go_wp2
 go_ret
 exact⟨rfl,rfl⟩):p:=h
theorem U172{p:Prop}(h:p:=by
 exact⟨aQ (HE.trans (aU V6).symm),hB⟩):p:=h
theorem U329{p:Prop}(h:p:=by
 go_wp2
 go_roundw
 case rel=>exact⟨j+1,by omega,by go_num,_,rfl,by omega,by omega,by show _=_;have:=hrr.out;rw[HN.out,this];omega,hbw⟩
 case measure=>simp[intOf];omega):p:=h
theorem U334{p:Prop}(h:p:=by
 go_wp2
 go_ret
 have h1:=HN.out
 have h2:=HT.out
 have h3:=hrr.out
 rw[h1]at h2
 have hno:¬((n+aF rs:Nat):Int)<=k:=V6
 exact⟨aQ (bM hno).symm,hbw⟩):p:=h
theorem U336{p:Prop}(h:p:=by
 have:j=n:=V6
 subst this
 go_wp2
 go_ret
 refine⟨?_,hbr⟩
 have h3:=hrr.out
 rw[zD3 (by rw[Hd.out];exact zB0 _)]at h3
 rw[aU V6]
 exact aQ V6):p:=h
theorem U9{p:Prop}(h:p:=by
 intro j hj
 exact⟨l[j],List.getElem_mem hj,by simp[aJ,aM,bH,hj]⟩):p:=h
theorem U354{p:Prop}(h:p:=by
 rintro e w' ⟨rfl,rfl⟩
 exact⟨rfl,zD2 _ _⟩):p:=h
theorem M918{p q:Prop}(k:q)(h:Kx q->p:=by
 intro kQ
 refine G.mono ?_
 rintro e w1 ⟨rfl,hb⟩
 replace hB:Below w.heap.size w w1:=hB.trans (hb.mono hB.size)
 revert hB;revert hb;revert w1
 exact kQ.o):p:=h ⟨k⟩
theorem M9240{p q:Prop}(k:q)(h:Kx q->p:=by
 intro kQ
 refine HC.mono ?_
 rintro e w2 ⟨rfl,Ae⟩
 have hbw:=hbr.trans (Ae.mono hbr.size)
 revert hbw;revert Ae;revert w2
 exact kQ.o):p:=h ⟨k⟩
theorem M9155{p q:Prop}(k:q)(h:Kx q->p:=by
 intro kQ
 have g2:=(S2 w _ h2).on hb
 have g3:=(S3 w _ h3).on hb
 have g4:=(S4 w _ h4).on hb
 revert g4;revert g3;revert g2
 exact kQ.o):p:=h ⟨k⟩
theorem aHp (a:Option Addr)(n c:Nat)(k:Int)(w:World)(hk:0<=k)(hk2:k<=1048576)(hn:n<=9223372036854775807):
  Calls Tryz.prog 63 #[.slice a n c,.int .i64 k] w fun e w'=>e=.returned (.int .i64 (szL k n))/\w'=w:=by
 by_cases h:(n:Int)<=k
 .
  rw[aU h];have h':¬(k-(n:Int)<0):=V6;go_enter Tryz.func63,Tryz.ntmps63;exact U101
 .
  rw[bM h];have h':k-(n:Int)<0:=V6;go_enter Tryz.func63,Tryz.ntmps63;exact U101
theorem aJx (a:Option Addr)(n c:Nat)(k:Int)(w:World)(hk:0<=k)(hk2:k<=1048576)(hn:n<=9223372036854775807):
  Calls Tryz.prog 162 #[.slice a n c,.int .i64 k] w fun e w'=>e=.returned (.int .i64 (szL k n))/\w'=w:=by
 by_cases h:(n:Int)<=k
 .
  rw[aU h];have h':¬(k-(n:Int)<0):=V6;go_enter Tryz.func162,Tryz.ntmps162;exact U101
 .
  rw[bM h];have h':k-(n:Int)<0:=V6;go_enter Tryz.func162,Tryz.ntmps162;exact U101
def SzV (w:World)(F:Nat)(v:Value)(N:Nat):Prop:=
 ∀(w1:World) (k:Int),Below w.heap.size w w1->0<=k->k<=1048576->Calls Tryz.prog F #[v,.int .i64 k] w1 fun e w'=>e=.returned (.int .i64 (szL k N))/\Below w1.heap.size w1 w'
def SzF (F:Nat)(f:Fl):Prop:=∀(w:World) (v:Value),f.Rd w v->SzV w F v f.len
def SzR (F:Nat)(r:List Fl):Prop:=∀(w:World) (vs:List Value),aO w r vs->SzV w F (.agg vs.toArray) (aH r)
theorem iH (l:List Int):SzF 63 (.b l):=by
 rintro w v ⟨a,c,rfl,_,h1,h2,_⟩ w1 k hb hk hk2;unfold maxLen at h2;refine(aHp a l.length c k w1 hk hk2 V6).mono ?_;exact U354
theorem aJy (l:List Int):SzF 162 (.i l):=by
 rintro w v ⟨a,c,rfl,_,h1,h2,_⟩ w1 k hb hk hk2;unfold maxLen at h2;refine(aJx a l.length c k w1 hk hk2 V6).mono ?_;exact U354
theorem aB {w w':World}{g i:Nat}{v:Value}(h:w.cell? ⟨g,i,none⟩=some v)(hb:Below w.heap.size w w'):w'.cell? ⟨g,i,none⟩=some v:=by
 rw[hb.cell (zJ1 w _ h)];exact h
theorem aN (w:World)(t:TypeId)(vs:Array Value)(i:Nat)(v:Value)(h:vs[i]?=some v):(w.alloc (.cells vs t (0,0))).cell? ⟨w.heap.size,i,none⟩=some v:=by
 rw[cell_of_row _ w.heap.size i vs t (0,0) (zJ3 w _)];exact h
theorem jD.vals {w:World}{b:Nat}{r:List Fl}:∀{off:Nat},jD w b off r->∃vs,aO w r vs/\∀i v,vs[i]?=some v->w.cell? ⟨b,off+i,none⟩=some v:=by
 induction r with
 | nil=>intro off _;exact⟨[],rfl,by simp⟩
 | cons f r ih=>
  intro off h;obtain⟨⟨v,hc,hv⟩,h2⟩:=h;obtain⟨vs,h3,h4⟩:=ih h2
  refine⟨v :: vs,⟨v,vs,rfl,hv,h3⟩,fun i u hu=>?_⟩
  cases i with
  | zero=>simp only[List.getElem?_cons_zero,zG3]at hu;subst hu;exact hc
  | succ i=>
   rw[List.getElem?_cons_succ]at hu
   have:=h4 i u hu
   rw[show off+(i+1)=off+1+i by omega];exact this
theorem aJw (a0:Option Addr)(n0 c0:Nat)(p1:Int)(N0:Nat)(k:Int)(w:World)(hk:0<=k)(hk2:k<=1048576)
  (H0:SzV w 63 (.slice a0 n0 c0) N0):
  Calls Tryz.prog 116 #[.agg #[.slice a0 n0 c0,.int .i64 p1],.int .i64 k] w fun e w'=>e=.returned (.int .i64 (szL k (N0)))/\Below w.heap.size w w':=by
 have hB:Below w.heap.size w (w.alloc (.cells #[.slice a0 n0 c0,.int .i64 p1] 164 (0,0))):=(zD2 _ _).alloc (zB0 _) _
 have q0:=aN w 164 #[.slice a0 n0 c0,.int .i64 p1] 0 _ rfl;go_enter Tryz.func116,Tryz.ntmps116;have G:=H0 _ (k) hB hk hk2
 by_cases e0:(N0:Int)<=k
 case neg=>
  simp only[bM e0]at G;exact U267
 simp only[aU e0]at G;have g0:¬(k-(N0:Int)<0):=V6;go_wp2_with fail;refine M918 ?_;clear hB;intro w1 hb hB;clear hb G q0 H0;go_wp2;go_ret;have HE:k-(N0:Int)=k-((N0:Nat):Int):=V6;exact U172
theorem aD7 (a0:Option Addr)(n0 c0:Nat)(t1:Bool)(N0:Nat)(k:Int)(w:World)(hk:0<=k)(hk2:k<=1048576)
  (H0:SzV w 63 (.slice a0 n0 c0) N0):
  Calls Tryz.prog 188 #[.agg #[.slice a0 n0 c0,.bool t1],.int .i64 k] w fun e w'=>e=.returned (.int .i64 (szL k (N0)))/\Below w.heap.size w w':=by
 have hB:Below w.heap.size w (w.alloc (.cells #[.slice a0 n0 c0,.bool t1] 231 (0,0))):=(zD2 _ _).alloc (zB0 _) _
 have q0:=aN w 231 #[.slice a0 n0 c0,.bool t1] 0 _ rfl;go_enter Tryz.func188,Tryz.ntmps188;have G:=H0 _ (k) hB hk hk2
 by_cases e0:(N0:Int)<=k
 case neg=>
  simp only[bM e0]at G;exact U267
 simp only[aU e0]at G;have g0:¬(k-(N0:Int)<0):=V6;go_wp2_with fail;refine M918 ?_;clear hB;intro w1 hb hB;clear hb G q0 H0;go_wp2;go_ret;have HE:k-(N0:Int)=k-((N0:Nat):Int):=V6;exact U172
theorem aHo (p0:Int)(p1:Int)(a2:Option Addr)(n2 c2:Nat)(a3:Option Addr)(n3 c3:Nat)(a4:Option Addr)(n4 c4:Nat)(N2:Nat)(N3:Nat)(N4:Nat)(k:Int)(w:World)(hk:0<=k)(hk2:k<=1048576)
  (H2:SzV w 63 (.slice a2 n2 c2) N2) (H3:SzV w 63 (.slice a3 n3 c3) N3) (H4:SzV w 212 (.slice a4 n4 c4) N4):
  Calls Tryz.prog 229 #[.agg #[.int .i64 p0,.int .i64 p1,.slice a2 n2 c2,.slice a3 n3 c3,.slice a4 n4 c4],.int .i64 k] w fun e w'=>e=.returned (.int .i64 (szL k (N2+N3+N4)))/\Below w.heap.size w w':=by
 have hB:Below w.heap.size w (w.alloc (.cells #[.int .i64 p0,.int .i64 p1,.slice a2 n2 c2,.slice a3 n3 c3,.slice a4 n4 c4] 270 (0,0))):=(zD2 _ _).alloc (zB0 _) _
 have q2:=aN w 270 #[.int .i64 p0,.int .i64 p1,.slice a2 n2 c2,.slice a3 n3 c3,.slice a4 n4 c4] 2 _ rfl;have q3:=aN w 270 #[.int .i64 p0,.int .i64 p1,.slice a2 n2 c2,.slice a3 n3 c3,.slice a4 n4 c4] 3 _ rfl;have q4:=aN w 270 #[.int .i64 p0,.int .i64 p1,.slice a2 n2 c2,.slice a3 n3 c3,.slice a4 n4 c4] 4 _ rfl;go_enter Tryz.func229,Tryz.ntmps229;have G:=H2 _ (k) hB hk hk2
 by_cases e0:(N2:Int)<=k
 case neg=>
  simp only[bM e0]at G;exact U267
 simp only[aU e0]at G;have g0:¬(k-(N2:Int)<0):=V6;go_wp2_with fail;refine M918 ?_;clear hB;intro w1 hb hB;replace q3:=aB q3 hb;replace q4:=aB q4 hb;clear hb G q2 H2;have G:=H3 _ (k-(N2:Int)) hB V6 V6
 by_cases e1:(N3:Int)<=k-(N2:Int)
 case neg=>
  simp only[bM e1]at G;exact U267
 simp only[aU e1]at G;have g1:¬(k-(N2:Int)-(N3:Int)<0):=V6;go_wp2_with fail;refine M918 ?_;clear hB;intro w1 hb hB;replace q4:=aB q4 hb;clear hb G q3 H3;have G:=H4 _ (k-(N2:Int)-(N3:Int)) hB V6 V6
 by_cases e2:(N4:Int)<=k-(N2:Int)-(N3:Int)
 case neg=>
  simp only[bM e2]at G;exact U267
 simp only[aU e2]at G;have g2:¬(k-(N2:Int)-(N3:Int)-(N4:Int)<0):=V6;go_wp2_with fail;refine M918 ?_;clear hB;intro w1 hb hB;clear hb G q4 H4;go_wp2;go_ret;have HE:k-(N2:Int)-(N3:Int)-(N4:Int)=k-((N2+N3+N4:Nat):Int):=V6;exact U172
theorem aHh (p0:Int)(p1:Int)(a2:Option Addr)(n2 c2:Nat)(a3:Option Addr)(n3 c3:Nat)(a4:Option Addr)(n4 c4:Nat)(a5:Option Addr)(n5 c5:Nat)(N2:Nat)(N3:Nat)(N4:Nat)(N5:Nat)(k:Int)(w:World)(hk:0<=k)(hk2:k<=1048576)
  (H2:SzV w 63 (.slice a2 n2 c2) N2) (H3:SzV w 212 (.slice a3 n3 c3) N3) (H4:SzV w 161 (.slice a4 n4 c4) N4) (H5:SzV w 161 (.slice a5 n5 c5) N5):
  Calls Tryz.prog 189 #[.agg #[.int .i64 p0,.int .i64 p1,.slice a2 n2 c2,.slice a3 n3 c3,.slice a4 n4 c4,.slice a5 n5 c5],.int .i64 k] w fun e w'=>e=.returned (.int .i64 (szL k (N2+N3+N4+N5)))/\Below w.heap.size w w':=by
 have hB:Below w.heap.size w (w.alloc (.cells #[.int .i64 p0,.int .i64 p1,.slice a2 n2 c2,.slice a3 n3 c3,.slice a4 n4 c4,.slice a5 n5 c5] 235 (0,0))):=(zD2 _ _).alloc (zB0 _) _
 have q2:=aN w 235 #[.int .i64 p0,.int .i64 p1,.slice a2 n2 c2,.slice a3 n3 c3,.slice a4 n4 c4,.slice a5 n5 c5] 2 _ rfl;have q3:=aN w 235 #[.int .i64 p0,.int .i64 p1,.slice a2 n2 c2,.slice a3 n3 c3,.slice a4 n4 c4,.slice a5 n5 c5] 3 _ rfl;have q4:=aN w 235 #[.int .i64 p0,.int .i64 p1,.slice a2 n2 c2,.slice a3 n3 c3,.slice a4 n4 c4,.slice a5 n5 c5] 4 _ rfl;have q5:=aN w 235 #[.int .i64 p0,.int .i64 p1,.slice a2 n2 c2,.slice a3 n3 c3,.slice a4 n4 c4,.slice a5 n5 c5] 5 _ rfl;go_enter Tryz.func189,Tryz.ntmps189;have G:=H2 _ (k) hB hk hk2
 by_cases e0:(N2:Int)<=k
 case neg=>
  simp only[bM e0]at G;exact U267
 simp only[aU e0]at G;have g0:¬(k-(N2:Int)<0):=V6;go_wp2_with fail;refine M918 ?_;clear hB;intro w1 hb hB;replace q3:=aB q3 hb;replace q4:=aB q4 hb;replace q5:=aB q5 hb;clear hb G q2 H2;have G:=H3 _ (k-(N2:Int)) hB V6 V6
 by_cases e1:(N3:Int)<=k-(N2:Int)
 case neg=>
  simp only[bM e1]at G;exact U267
 simp only[aU e1]at G;have g1:¬(k-(N2:Int)-(N3:Int)<0):=V6;go_wp2_with fail;refine M918 ?_;clear hB;intro w1 hb hB;replace q4:=aB q4 hb;replace q5:=aB q5 hb;clear hb G q3 H3;have G:=H4 _ (k-(N2:Int)-(N3:Int)) hB V6 V6
 by_cases e2:(N4:Int)<=k-(N2:Int)-(N3:Int)
 case neg=>
  simp only[bM e2]at G;exact U267
 simp only[aU e2]at G;have g2:¬(k-(N2:Int)-(N3:Int)-(N4:Int)<0):=V6;go_wp2_with fail;refine M918 ?_;clear hB;intro w1 hb hB;replace q5:=aB q5 hb;clear hb G q4 H4;have G:=H5 _ (k-(N2:Int)-(N3:Int)-(N4:Int)) hB V6 V6
 by_cases e3:(N5:Int)<=k-(N2:Int)-(N3:Int)-(N4:Int)
 case neg=>
  simp only[bM e3]at G;exact U267
 simp only[aU e3]at G;have g3:¬(k-(N2:Int)-(N3:Int)-(N4:Int)-(N5:Int)<0):=V6;go_wp2_with fail;refine M918 ?_;clear hB;intro w1 hb hB;clear hb G q5 H5;go_wp2;go_ret;have HE:k-(N2:Int)-(N3:Int)-(N4:Int)-(N5:Int)=k-((N2+N3+N4+N5:Nat):Int):=V6;exact U172
theorem aHj (a0:Option Addr)(n0 c0:Nat)(t1:Bool)(a2:Option Addr)(n2 c2:Nat)(a3:Option Addr)(n3 c3:Nat)(a4:Option Addr)(n4 c4:Nat)(N0:Nat)(N2:Nat)(N3:Nat)(N4:Nat)(k:Int)(w:World)(hk:0<=k)(hk2:k<=1048576)
  (H0:SzV w 63 (.slice a0 n0 c0) N0) (H2:SzV w 160 (.slice a2 n2 c2) N2) (H3:SzV w 64 (.slice a3 n3 c3) N3) (H4:SzV w 161 (.slice a4 n4 c4) N4):
  Calls Tryz.prog 117 #[.agg #[.slice a0 n0 c0,.bool t1,.slice a2 n2 c2,.slice a3 n3 c3,.slice a4 n4 c4],.int .i64 k] w fun e w'=>e=.returned (.int .i64 (szL k (N0+N2+N3+N4)))/\Below w.heap.size w w':=by
 have hB:Below w.heap.size w (w.alloc (.cells #[.slice a0 n0 c0,.bool t1,.slice a2 n2 c2,.slice a3 n3 c3,.slice a4 n4 c4] 169 (0,0))):=(zD2 _ _).alloc (zB0 _) _
 have q0:=aN w 169 #[.slice a0 n0 c0,.bool t1,.slice a2 n2 c2,.slice a3 n3 c3,.slice a4 n4 c4] 0 _ rfl;have q2:=aN w 169 #[.slice a0 n0 c0,.bool t1,.slice a2 n2 c2,.slice a3 n3 c3,.slice a4 n4 c4] 2 _ rfl;have q3:=aN w 169 #[.slice a0 n0 c0,.bool t1,.slice a2 n2 c2,.slice a3 n3 c3,.slice a4 n4 c4] 3 _ rfl;have q4:=aN w 169 #[.slice a0 n0 c0,.bool t1,.slice a2 n2 c2,.slice a3 n3 c3,.slice a4 n4 c4] 4 _ rfl;go_enter Tryz.func117,Tryz.ntmps117;have G:=H0 _ (k) hB hk hk2
 by_cases e0:(N0:Int)<=k
 case neg=>
  simp only[bM e0]at G;exact U267
 simp only[aU e0]at G;have g0:¬(k-(N0:Int)<0):=V6;go_wp2_with fail;refine M918 ?_;clear hB;intro w1 hb hB;replace q2:=aB q2 hb;replace q3:=aB q3 hb;replace q4:=aB q4 hb;clear hb G q0 H0;have G:=H2 _ (k-(N0:Int)) hB V6 V6
 by_cases e1:(N2:Int)<=k-(N0:Int)
 case neg=>
  simp only[bM e1]at G;exact U267
 simp only[aU e1]at G;have g1:¬(k-(N0:Int)-(N2:Int)<0):=V6;go_wp2_with fail;refine M918 ?_;clear hB;intro w1 hb hB;replace q3:=aB q3 hb;replace q4:=aB q4 hb;clear hb G q2 H2;have G:=H3 _ (k-(N0:Int)-(N2:Int)) hB V6 V6
 by_cases e2:(N3:Int)<=k-(N0:Int)-(N2:Int)
 case neg=>
  simp only[bM e2]at G;exact U267
 simp only[aU e2]at G;have g2:¬(k-(N0:Int)-(N2:Int)-(N3:Int)<0):=V6;go_wp2_with fail;refine M918 ?_;clear hB;intro w1 hb hB;replace q4:=aB q4 hb;clear hb G q3 H3;have G:=H4 _ (k-(N0:Int)-(N2:Int)-(N3:Int)) hB V6 V6
 by_cases e3:(N4:Int)<=k-(N0:Int)-(N2:Int)-(N3:Int)
 case neg=>
  simp only[bM e3]at G;exact U267
 simp only[aU e3]at G;have g3:¬(k-(N0:Int)-(N2:Int)-(N3:Int)-(N4:Int)<0):=V6;go_wp2_with fail;refine M918 ?_;clear hB;intro w1 hb hB;clear hb G q4 H4;go_wp2;go_ret;have HE:k-(N0:Int)-(N2:Int)-(N3:Int)-(N4:Int)=k-((N0+N2+N3+N4:Nat):Int):=V6;exact U172
theorem tX (a0:Option Addr)(n0 c0:Nat)(a1:Option Addr)(n1 c1:Nat)(N0:Nat)(N1:Nat)(k:Int)(w:World)(hk:0<=k)(hk2:k<=1048576)
  (H0:SzV w 63 (.slice a0 n0 c0) N0) (H1:SzV w 162 (.slice a1 n1 c1) N1):
  Calls Tryz.prog 118 #[.agg #[.slice a0 n0 c0,.slice a1 n1 c1],.int .i64 k] w fun e w'=>e=.returned (.int .i64 (szL k (N0+N1)))/\Below w.heap.size w w':=by
 have hB:Below w.heap.size w (w.alloc (.cells #[.slice a0 n0 c0,.slice a1 n1 c1] 171 (0,0))):=(zD2 _ _).alloc (zB0 _) _
 have q0:=aN w 171 #[.slice a0 n0 c0,.slice a1 n1 c1] 0 _ rfl;have q1:=aN w 171 #[.slice a0 n0 c0,.slice a1 n1 c1] 1 _ rfl;go_enter Tryz.func118,Tryz.ntmps118;have G:=H0 _ (k) hB hk hk2
 by_cases e0:(N0:Int)<=k
 case neg=>
  simp only[bM e0]at G;exact U267
 simp only[aU e0]at G;have g0:¬(k-(N0:Int)<0):=V6;go_wp2_with fail;refine M918 ?_;clear hB;intro w1 hb hB;replace q1:=aB q1 hb;clear hb G q0 H0;have G:=H1 _ (k-(N0:Int)) hB V6 V6
 by_cases e1:(N1:Int)<=k-(N0:Int)
 case neg=>
  simp only[bM e1]at G;exact U267
 simp only[aU e1]at G;have g1:¬(k-(N0:Int)-(N1:Int)<0):=V6;go_wp2_with fail;refine M918 ?_;clear hB;intro w1 hb hB;clear hb G q1 H1;go_wp2;go_ret;have HE:k-(N0:Int)-(N1:Int)=k-((N0+N1:Nat):Int):=V6;exact U172
theorem aHl (a0:Option Addr)(n0 c0:Nat)(a1:Option Addr)(n1 c1:Nat)(N0:Nat)(N1:Nat)(k:Int)(w:World)(hk:0<=k)(hk2:k<=1048576)
  (H0:SzV w 63 (.slice a0 n0 c0) N0) (H1:SzV w 67 (.slice a1 n1 c1) N1):
  Calls Tryz.prog 33 #[.agg #[.slice a0 n0 c0,.slice a1 n1 c1],.int .i64 k] w fun e w'=>e=.returned (.int .i64 (szL k (N0+N1)))/\Below w.heap.size w w':=by
 have hB:Below w.heap.size w (w.alloc (.cells #[.slice a0 n0 c0,.slice a1 n1 c1] 82 (0,0))):=(zD2 _ _).alloc (zB0 _) _
 have q0:=aN w 82 #[.slice a0 n0 c0,.slice a1 n1 c1] 0 _ rfl;have q1:=aN w 82 #[.slice a0 n0 c0,.slice a1 n1 c1] 1 _ rfl;go_enter Tryz.func33,Tryz.ntmps33;have G:=H0 _ (k) hB hk hk2
 by_cases e0:(N0:Int)<=k
 case neg=>
  simp only[bM e0]at G;exact U267
 simp only[aU e0]at G;have g0:¬(k-(N0:Int)<0):=V6;go_wp2_with fail;refine M918 ?_;clear hB;intro w1 hb hB;replace q1:=aB q1 hb;clear hb G q0 H0;have G:=H1 _ (k-(N0:Int)) hB V6 V6
 by_cases e1:(N1:Int)<=k-(N0:Int)
 case neg=>
  simp only[bM e1]at G;exact U267
 simp only[aU e1]at G;have g1:¬(k-(N0:Int)-(N1:Int)<0):=V6;go_wp2_with fail;refine M918 ?_;clear hB;intro w1 hb hB;clear hb G q1 H1;go_wp2;go_ret;have HE:k-(N0:Int)-(N1:Int)=k-((N0+N1:Nat):Int):=V6;exact U172
theorem aAz (a0:Option Addr)(n0 c0:Nat)(a1:Option Addr)(n1 c1:Nat)(a2:Option Addr)(n2 c2:Nat)(a3:Option Addr)(n3 c3:Nat)(N0:Nat)(N1:Nat)(N2:Nat)(N3:Nat)(k:Int)(w:World)(hk:0<=k)(hk2:k<=1048576)
  (H0:SzV w 63 (.slice a0 n0 c0) N0) (H1:SzV w 64 (.slice a1 n1 c1) N1) (H2:SzV w 65 (.slice a2 n2 c2) N2) (H3:SzV w 66 (.slice a3 n3 c3) N3):
  Calls Tryz.prog 32 #[.agg #[.slice a0 n0 c0,.slice a1 n1 c1,.slice a2 n2 c2,.slice a3 n3 c3],.int .i64 k] w fun e w'=>e=.returned (.int .i64 (szL k (N0+N1+N2+N3)))/\Below w.heap.size w w':=by
 have hB:Below w.heap.size w (w.alloc (.cells #[.slice a0 n0 c0,.slice a1 n1 c1,.slice a2 n2 c2,.slice a3 n3 c3] 78 (0,0))):=(zD2 _ _).alloc (zB0 _) _
 have q0:=aN w 78 #[.slice a0 n0 c0,.slice a1 n1 c1,.slice a2 n2 c2,.slice a3 n3 c3] 0 _ rfl;have q1:=aN w 78 #[.slice a0 n0 c0,.slice a1 n1 c1,.slice a2 n2 c2,.slice a3 n3 c3] 1 _ rfl;have q2:=aN w 78 #[.slice a0 n0 c0,.slice a1 n1 c1,.slice a2 n2 c2,.slice a3 n3 c3] 2 _ rfl;have q3:=aN w 78 #[.slice a0 n0 c0,.slice a1 n1 c1,.slice a2 n2 c2,.slice a3 n3 c3] 3 _ rfl;go_enter Tryz.func32,Tryz.ntmps32;have G:=H0 _ (k) hB hk hk2
 by_cases e0:(N0:Int)<=k
 case neg=>
  simp only[bM e0]at G;exact U267
 simp only[aU e0]at G;have g0:¬(k-(N0:Int)<0):=V6;go_wp2_with fail;refine M918 ?_;clear hB;intro w1 hb hB;replace q1:=aB q1 hb;replace q2:=aB q2 hb;replace q3:=aB q3 hb;clear hb G q0 H0;have G:=H1 _ (k-(N0:Int)) hB V6 V6
 by_cases e1:(N1:Int)<=k-(N0:Int)
 case neg=>
  simp only[bM e1]at G;exact U267
 simp only[aU e1]at G;have g1:¬(k-(N0:Int)-(N1:Int)<0):=V6;go_wp2_with fail;refine M918 ?_;clear hB;intro w1 hb hB;replace q2:=aB q2 hb;replace q3:=aB q3 hb;clear hb G q1 H1;have G:=H2 _ (k-(N0:Int)-(N1:Int)) hB V6 V6
 by_cases e2:(N2:Int)<=k-(N0:Int)-(N1:Int)
 case neg=>
  simp only[bM e2]at G;exact U267
 simp only[aU e2]at G;have g2:¬(k-(N0:Int)-(N1:Int)-(N2:Int)<0):=V6;go_wp2_with fail;refine M918 ?_;clear hB;intro w1 hb hB;replace q3:=aB q3 hb;clear hb G q2 H2;have G:=H3 _ (k-(N0:Int)-(N1:Int)-(N2:Int)) hB V6 V6
 by_cases e3:(N3:Int)<=k-(N0:Int)-(N1:Int)-(N2:Int)
 case neg=>
  simp only[bM e3]at G;exact U267
 simp only[aU e3]at G;have g3:¬(k-(N0:Int)-(N1:Int)-(N2:Int)-(N3:Int)<0):=V6;go_wp2_with fail;refine M918 ?_;clear hB;intro w1 hb hB;clear hb G q3 H3;go_wp2;go_ret;have HE:k-(N0:Int)-(N1:Int)-(N2:Int)-(N3:Int)=k-((N0+N1+N2+N3:Nat):Int):=V6;exact U172
theorem aP0 (p0:Int)(p1:Int)(p2:Int)(a3:Option Addr)(n3 c3:Nat)(p4:Int)(N3:Nat)(k:Int)(w:World)(hk:0<=k)(hk2:k<=1048576)
  (H3:SzV w 68 (.slice a3 n3 c3) N3):
  Calls Tryz.prog 34 #[.agg #[.int .i64 p0,.int .i64 p1,.int .i64 p2,.slice a3 n3 c3,.int .i64 p4],.int .i64 k] w fun e w'=>e=.returned (.int .i64 (szL k (N3)))/\Below w.heap.size w w':=by
 have hB:Below w.heap.size w (w.alloc (.cells #[.int .i64 p0,.int .i64 p1,.int .i64 p2,.slice a3 n3 c3,.int .i64 p4] 86 (0,0))):=(zD2 _ _).alloc (zB0 _) _
 have q3:=aN w 86 #[.int .i64 p0,.int .i64 p1,.int .i64 p2,.slice a3 n3 c3,.int .i64 p4] 3 _ rfl;go_enter Tryz.func34,Tryz.ntmps34;have G:=H3 _ (k) hB hk hk2
 by_cases e0:(N3:Int)<=k
 case neg=>
  simp only[bM e0]at G;exact U267
 simp only[aU e0]at G;have g0:¬(k-(N3:Int)<0):=V6;go_wp2_with fail;refine M918 ?_;clear hB;intro w1 hb hB;clear hb G q3 H3;go_wp2;go_ret;have HE:k-(N3:Int)=k-((N3:Nat):Int):=V6;exact U172
theorem aQc (a0:Option Addr)(n0 c0:Nat)(a1:Option Addr)(n1 c1:Nat)(a2:Option Addr)(n2 c2:Nat)(N0:Nat)(N1:Nat)(N2:Nat)(k:Int)(w:World)(hk:0<=k)(hk2:k<=1048576)
  (H0:SzV w 9 (.slice a0 n0 c0) N0) (H1:SzV w 10 (.slice a1 n1 c1) N1) (H2:SzV w 11 (.slice a2 n2 c2) N2):
  Calls Tryz.prog 4 #[.agg #[.slice a0 n0 c0,.slice a1 n1 c1,.slice a2 n2 c2],.int .i64 k] w fun e w'=>e=.returned (.int .i64 (szL k (N0+N1+N2)))/\Below w.heap.size w w':=by
 have hB:Below w.heap.size w (w.alloc (.cells #[.slice a0 n0 c0,.slice a1 n1 c1,.slice a2 n2 c2] 26 (0,0))):=(zD2 _ _).alloc (zB0 _) _
 have q0:=aN w 26 #[.slice a0 n0 c0,.slice a1 n1 c1,.slice a2 n2 c2] 0 _ rfl;have q1:=aN w 26 #[.slice a0 n0 c0,.slice a1 n1 c1,.slice a2 n2 c2] 1 _ rfl;have q2:=aN w 26 #[.slice a0 n0 c0,.slice a1 n1 c1,.slice a2 n2 c2] 2 _ rfl;go_enter Tryz.func4,Tryz.ntmps4;have G:=H0 _ (k) hB hk hk2
 by_cases e0:(N0:Int)<=k
 case neg=>
  simp only[bM e0]at G;exact U267
 simp only[aU e0]at G;have g0:¬(k-(N0:Int)<0):=V6;go_wp2_with fail;refine M918 ?_;clear hB;intro w1 hb hB;replace q1:=aB q1 hb;replace q2:=aB q2 hb;clear hb G q0 H0;have G:=H1 _ (k-(N0:Int)) hB V6 V6
 by_cases e1:(N1:Int)<=k-(N0:Int)
 case neg=>
  simp only[bM e1]at G;exact U267
 simp only[aU e1]at G;have g1:¬(k-(N0:Int)-(N1:Int)<0):=V6;go_wp2_with fail;refine M918 ?_;clear hB;intro w1 hb hB;replace q2:=aB q2 hb;clear hb G q1 H1;have G:=H2 _ (k-(N0:Int)-(N1:Int)) hB V6 V6
 by_cases e2:(N2:Int)<=k-(N0:Int)-(N1:Int)
 case neg=>
  simp only[bM e2]at G;exact U267
 simp only[aU e2]at G;have g2:¬(k-(N0:Int)-(N1:Int)-(N2:Int)<0):=V6;go_wp2_with fail;refine M918 ?_;clear hB;intro w1 hb hB;clear hb G q2 H2;go_wp2;go_ret;have HE:k-(N0:Int)-(N1:Int)-(N2:Int)=k-((N0+N1+N2:Nat):Int):=V6;exact U172
theorem sB (l:List (List Int)) :SzF 64 (.l 1 (bH l)):=by
 intro w0 v hv w k Ar hk hk2;obtain⟨a,c,rfl,hl0⟩:=(hv.below Ar).list;clear hv Ar
 have hm:(bH l).length=l.length:=by simp[aJ,aM,bH]
 have hat:∀j,j<l.length->∃x ∈ l,(bH l)[j]?=some [.b x]:=by
  exact U9
 generalize hrs:bH l=rs at hl0 hm hat ⊢;clear hrs
 have hlen:(Fl.l 1 rs).len=rs.length+aF rs:=by simp[Fl.len]
 rw[hlen];clear hlen;rw[<-hm]at hat;generalize hn:rs.length=n at hl0 hat ⊢;clear hm
 have hcn:n<=9223372036854775807:=by have h1:=hl0.cap;have h2:=hl0.most;unfold maxLen at h2;omega
 by_cases hnk:(n:Int)<=k
 .
  have h':¬(k-(n:Int)<0):=V6;have Hd:=hid hn;have HL:=hid hl0;have HA:=hid hat;clear hat
  rcases zG0 n with h0|Am
  .
   subst h0;have e0:=zE0 Hd.out;subst e0
   rw[aU (by simpa [aF] using hk)]
   clear hl0 hn;have h1:¬(k<0):=V6;go_enter Tryz.func64,Tryz.ntmps64;go_wp2_with fail;refine zH2 1 ?_;rw[zE2];go_wp2;go_ret
   exact⟨aQ (by simp[aF]),zD2 _ _⟩
  .
   obtain⟨b,off,rfl⟩:=hl0.addr V19;clear hl0 hn;go_enter Tryz.func64,Tryz.ntmps64;go_wp2_with fail
   go_loopw [1,5] (fun r i wr=>∃j:Nat,j<=n/\i=.int .i64 j/\∃rr:Int,r=.int .i64 rr/\0<=rr/\rr<=k/\Hid (rr=k-(n:Int)-(aF (rs.take j):Int))/\Below w.heap.size w wr) (fun _ i _=>n-(intOf i).toNat)
   case atStart=>exact⟨0,zD1 _,rfl,k-(n:Int),rfl,by omega,by omega,by show _=_;simp[aF],zD2 _ _⟩
   case round=>
    obtain⟨j,hj,rfl,rr,rfl,hr0,hrk,hrr,hbr⟩:=hrel
    by_cases Ai:j<n
    .
     obtain⟨x,hx,Ak⟩:=HA.out j Ai;have HN:=hid (dO Ak);have HT:=hid (dN rs (j+1))
     obtain⟨vs,Ad,Ab⟩:=((show aS w (some ⟨b,off,none⟩) c 1 rs from HL.out).below hbr |>.el Ak).vals
     have HC:∃y0,vs=[y0]/\SzV wr 63 y0 (aH [.b x]):=by
      obtain⟨y0,_,rfl,h,rfl⟩:=Ad
      exact⟨y0,rfl,by simpa [aH] using iH x wr y0 h⟩
     obtain⟨y,hy,HC⟩:=HC;subst hy;clear Ak;generalize hN:aH [.b x]=N at HC HN;obtain⟨y0,us0,hys,⟨a0,c0,e0,d0⟩,hus⟩:=Ad;simp only[zK2]at hys;obtain⟨rfl,rfl⟩:=hys;subst e0
     have q0:wr.cell? ⟨b,off+j,none⟩=some (.slice a0 x.length c0):=by simpa using Ab 0 _ rfl
     clear Ab d0 hx;clear hN;replace HC:=HC wr rr (zD2 _ _) hr0 V6
     by_cases hxr:(N:Int)<=rr
     .
      simp only[aU hxr]at HC;have hx':¬(rr-(N:Int)<0):=V6;go_wp2_with fail;refine M9240 ?_;intro w2 Ae hbw;clear q0 HC Ae;exact U329
     .
      simp only[bM hxr]at HC;go_wp2_with fail;refine M9240 ?_;intro w2 Ae hbw;clear q0 HC Ae;exact U334
    .
     exact U336
 .
  rw[bM V6];have h':k-(n:Int)<0:=V6;clear hl0 hat  hn;go_enter Tryz.func64,Tryz.ntmps64;go_wp2;go_ret;exact⟨rfl,zD2 _ _⟩
theorem aRt {l:List Value}(h:l.length=2):∃y0 y1,l=[y0,y1]:=by match l,h with|[y0,y1],_=>exact⟨_,_,rfl⟩
theorem aRs {l:List Value}(h:l.length=3):∃y0 y1 y2,l=[y0,y1,y2]:=by match l,h with|[y0,y1,y2],_=>exact⟨_,_,_,rfl⟩
theorem aRr {l:List Value}(h:l.length=4):∃y0 y1 y2 y3,l=[y0,y1,y2,y3]:=by match l,h with|[y0,y1,y2,y3],_=>exact⟨_,_,_,_,rfl⟩
theorem aRq {l:List Value}(h:l.length=5):∃y0 y1 y2 y3 y4,l=[y0,y1,y2,y3,y4]:=by match l,h with|[y0,y1,y2,y3,y4],_=>exact⟨_,_,_,_,_,rfl⟩
theorem aRp {l:List Value}(h:l.length=6):∃y0 y1 y2 y3 y4 y5,l=[y0,y1,y2,y3,y4,y5]:=by match l,h with|[y0,y1,y2,y3,y4,y5],_=>exact⟨_,_,_,_,_,_,rfl⟩
theorem aO.lenS {w:World}:∀{r:List Fl} {vs:List Value},aO w r vs->vs.length=r.length:=by
 intro r
 induction r with
 | nil=>intro vs h;rw[show vs=[] from h];rfl
 | cons f r ih=>intro vs h;obtain⟨v,us,rfl,_,h2⟩:=h;simp[ih h2]
def aR7 (F G K:Nat):Prop:=∀rs:List (List Fl),(∀r ∈ rs,r.length=K/\SzR G r)->SzF F (.l K rs)
theorem aOc:∀p ∈ ([
  (65,116,2),
  (160,188,2),
  (212,229,5),
  (161,189,6),
  (66,117,5),
  (67,118,2),
  (10,33,2),
  (9,32,4),
  (11,34,5),
  ]:List (Nat × Nat × Nat)),aR7 p.1 p.2.1 p.2.2:=by
 simp only[List.forall_mem_cons]
 repeat' apply And.intro
 all_goals first|(intro _ h;cases h;done)|skip
 all_goals
  intro rs H;intro w0 v hv w k Ar hk hk2;obtain⟨a,c,rfl,hl0⟩:=(hv.below Ar).list;clear hv Ar
  have hlen:∀K,(Fl.l K rs).len=rs.length+aF rs:=fun _=>by simp[Fl.len]
  rw[hlen];clear hlen;generalize hn:rs.length=n at hl0 ⊢
  have hcn:n<=9223372036854775807:=by have h1:=hl0.cap;have h2:=hl0.most;unfold maxLen at h2;omega
  by_cases hnk:(n:Int)<=k
  .
   have h':¬(k-(n:Int)<0):=V6;have Hd:=hid hn;have HL:=hid hl0;have HH:=hid H;clear H
   rcases zG0 n with h0|Am
   .
    subst h0;have e0:=zE0 Hd.out;subst e0
    rw[aU (by simpa [aF] using hk)]
    clear hl0 hn;have h1:¬(k<0):=V6
    first
    | go_enter Tryz.func65,Tryz.ntmps65
    | go_enter Tryz.func160,Tryz.ntmps160
    | go_enter Tryz.func212,Tryz.ntmps212
    | go_enter Tryz.func161,Tryz.ntmps161
    | go_enter Tryz.func66,Tryz.ntmps66
    | go_enter Tryz.func67,Tryz.ntmps67
    | go_enter Tryz.func10,Tryz.ntmps10
    | go_enter Tryz.func9,Tryz.ntmps9
    | go_enter Tryz.func11,Tryz.ntmps11
    go_wp2_with fail;refine zH2 1 ?_;rw[zE2];go_wp2;go_ret
    exact⟨aQ (by simp[aF]),zD2 _ _⟩
   .
    obtain⟨b,off,rfl⟩:=hl0.addr V19;clear hl0 hn
    first
    | go_enter Tryz.func65,Tryz.ntmps65
    | go_enter Tryz.func160,Tryz.ntmps160
    | go_enter Tryz.func212,Tryz.ntmps212
    | go_enter Tryz.func161,Tryz.ntmps161
    | go_enter Tryz.func66,Tryz.ntmps66
    | go_enter Tryz.func67,Tryz.ntmps67
    | go_enter Tryz.func10,Tryz.ntmps10
    | go_enter Tryz.func9,Tryz.ntmps9
    | go_enter Tryz.func11,Tryz.ntmps11
    go_wp2_with fail
    go_loopw [1,5] (fun r i wr=>∃j:Nat,j<=n/\i=.int .i64 j/\∃rr:Int,r=.int .i64 rr/\0<=rr/\rr<=k/\Hid (rr=k-(n:Int)-(aF (rs.take j):Int))/\Below w.heap.size w wr) (fun _ i _=>n-(intOf i).toNat)
    case atStart=>exact⟨0,zD1 _,rfl,k-(n:Int),rfl,by omega,by omega,by show _=_;simp[aF],zD2 _ _⟩
    case round=>
     obtain⟨j,hj,rfl,rr,rfl,hr0,hrk,hrr,hbr⟩:=hrel
     by_cases Ai:j<n
     .
      obtain⟨x,Ak⟩:∃x,rs[j]?=some x:=⟨_,zA0 V92⟩
      have HN:=hid (dO Ak);have HT:=hid (dN rs (j+1))
      obtain⟨vs,Ad,Ab⟩:=((show aS w (some ⟨b,off,none⟩) c _ rs from HL.out).below hbr |>.el Ak).vals
      have HC:=(HH.out x (zA3 Ak)).2 wr vs Ad;have hvl:=Ad.lenS.trans (HH.out x (zA3 Ak)).1;clear Ak;generalize hN:aH x=N at HC HN
      first
      | (obtain⟨y0,y1,rfl⟩:=aRt hvl)
      | (obtain⟨y0,y1,y2,rfl⟩:=aRs hvl)
      | (obtain⟨y0,y1,y2,y3,rfl⟩:=aRr hvl)
      | (obtain⟨y0,y1,y2,y3,y4,rfl⟩:=aRq hvl)
      | (obtain⟨y0,y1,y2,y3,y4,y5,rfl⟩:=aRp hvl)
      have q0:=Ab 0 _ rfl;have q1:=Ab 1 _ rfl
      try have q2:=Ab 2 _ rfl
      try have q3:=Ab 3 _ rfl
      try have q4:=Ab 4 _ rfl
      try have q5:=Ab 5 _ rfl
      rw[zG2]at q0;clear Ab Ad hvl;simp only[List.toArray]at HC;clear hN;replace HC:=HC wr rr (zD2 _ _) hr0 V6
      by_cases hxr:(N:Int)<=rr
      .
       simp only[aU hxr]at HC;have hx':¬(rr-(N:Int)<0):=V6;go_wp2_with fail;refine M9240 ?_;intro w2 Ae hbw;clear HC Ae;exact U329
      .
       simp only[bM hxr]at HC;go_wp2_with fail;refine M9240 ?_;intro w2 Ae hbw;clear HC Ae;exact U334
     .
      exact U336
  .
   rw[bM V6];have h':k-(n:Int)<0:=V6;clear hl0 H hn
   first
   | go_enter Tryz.func65,Tryz.ntmps65
   | go_enter Tryz.func160,Tryz.ntmps160
   | go_enter Tryz.func212,Tryz.ntmps212
   | go_enter Tryz.func161,Tryz.ntmps161
   | go_enter Tryz.func66,Tryz.ntmps66
   | go_enter Tryz.func67,Tryz.ntmps67
   | go_enter Tryz.func10,Tryz.ntmps10
   | go_enter Tryz.func9,Tryz.ntmps9
   | go_enter Tryz.func11,Tryz.ntmps11
   go_wp2;go_ret;exact⟨rfl,zD2 _ _⟩
theorem aHf (l:List Va)(H:∀x ∈ l,SzR 116 x.fl):SzF 65 (.l 2 (l.map Va.fl)):=aOc (65,116,2) V15 _ (zG1.2 fun x hx=>⟨by first|rfl|(cases x;rfl),H x hx⟩)
theorem aAx (l:List Pa)(H:∀x ∈ l,SzR 188 x.fl):SzF 160 (.l 2 (l.map Pa.fl)):=aOc (160,188,2) V15 _ (zG1.2 fun x hx=>⟨by first|rfl|(cases x;rfl),H x hx⟩)
theorem vQ (l:List Ex)(H:∀x ∈ l,SzR 229 x.fl):SzF 212 (.l 5 (exs l)):=by rw[aJ];exact aOc (212,229,5) V15 _ (zG1.2 fun x hx=>⟨by first|rfl|(cases x;rfl),H x hx⟩)
theorem qK (l:List St)(H:∀x ∈ l,SzR 189 x.fl):SzF 161 (.l 6 (sts l)):=by rw[aM];exact aOc (161,189,6) V15 _ (zG1.2 fun x hx=>⟨by first|rfl|(cases x;rfl),H x hx⟩)
theorem aD5 (l:List Pr)(H:∀x ∈ l,SzR 117 x.fl):SzF 66 (.l 5 (l.map Pr.fl)):=aOc (66,117,5) V15 _ (zG1.2 fun x hx=>⟨by first|rfl|(cases x;rfl),H x hx⟩)
theorem sA (l:List Fp)(H:∀x ∈ l,SzR 118 x.fl):SzF 67 (.l 2 (l.map Fp.fl)):=aOc (67,118,2) V15 _ (zG1.2 fun x hx=>⟨by first|rfl|(cases x;rfl),H x hx⟩)
theorem aD8 (l:List Fa)(H:∀x ∈ l,SzR 33 x.fl):SzF 10 (.l 2 (l.map Fa.fl)):=aOc (10,33,2) V15 _ (zG1.2 fun x hx=>⟨by first|rfl|(cases x;rfl),H x hx⟩)
theorem aPf (l:List Mo)(H:∀x ∈ l,SzR 32 x.fl):SzF 9 (.l 4 (l.map Mo.fl)):=aOc (9,32,4) V15 _ (zG1.2 fun x hx=>⟨by first|rfl|(cases x;rfl),H x hx⟩)
theorem aPg (l:List Ac)(H:∀x ∈ l,SzR 34 x.fl):SzF 11 (.l 5 (l.map Ac.fl)):=aOc (11,34,5) V15 _ (zG1.2 fun x hx=>⟨by first|rfl|(cases x;rfl),H x hx⟩)
theorem SzV.on {w w1:World}{F N:Nat}{v:Value}(h:SzV w F v N)(hb:Below w.heap.size w w1):SzV w1 F v N:=
 fun w2 k Ae hk hk2=>h w2 k (hb.trans (Ae.mono hb.size)) hk hk2
theorem aJv (x0:List Int)(x1:Int) :SzR 116 (Va.mk x0 x1).fl:=by
 intro w vs hv w1 k hb hk hk2;obtain⟨y0,_,rfl,h0,y1,_,rfl,rfl,rfl⟩:=hv;have g0:=(iH x0 w _ h0).on hb;obtain⟨a0,c0,rfl,_⟩:=h0
 have e:aH (Va.mk x0 x1).fl=(.b x0:Fl).len:=by simp[Va.fl,aH,Fl.len]
 rw[e];exact aJw a0 _ c0 x1 _ k w1 hk hk2 g0
theorem aD6 (x0:List Int)(x1:Bool) :SzR 188 (Pa.mk x0 x1).fl:=by
 intro w vs hv w1 k hb hk hk2;obtain⟨y0,_,rfl,h0,y1,_,rfl,rfl,rfl⟩:=hv;have g0:=(iH x0 w _ h0).on hb;obtain⟨a0,c0,rfl,_⟩:=h0
 have e:aH (Pa.mk x0 x1).fl=(.b x0:Fl).len:=by simp[Pa.fl,aH,Fl.len]
 rw[e];exact aD7 a0 _ c0 x1 _ k w1 hk hk2 g0
theorem aHn (x0:Int)(x1:Int)(x2:List Int)(x3:List Int)(x4:List Ex)(S4:SzF 212 (.l 5 (exs x4))):SzR 229 (Ex.mk x0 x1 x2 x3 x4).fl:=by
 intro w vs hv w1 k hb hk hk2;unfold Ex.fl at hv;obtain⟨y0,_,rfl,rfl,y1,_,rfl,rfl,y2,_,rfl,h2,y3,_,rfl,h3,y4,_,rfl,h4,rfl⟩:=hv;have g2:=(iH x2 w _ h2).on hb;have g3:=(iH x3 w _ h3).on hb;have g4:=(S4 w _ h4).on hb;obtain⟨a2,c2,rfl,_⟩:=h2;obtain⟨a3,c3,rfl,_⟩:=h3;obtain⟨a4,c4,rfl,_⟩:=h4
 have e:aH (Ex.mk x0 x1 x2 x3 x4).fl=(.b x2:Fl).len+(.b x3:Fl).len+(.l 5 (exs x4):Fl).len:=by simp[Ex.fl,aH,Fl.len] <;> omega
 rw[e];exact aHo x0 x1 a2 _ c2 a3 _ c3 a4 _ c4 _ _ _ k w1 hk hk2 g2 g3 g4
theorem aHg (x0:Int)(x1:Int)(x2:List Int)(x3:List Ex)(x4:List St)(x5:List St)(S3:SzF 212 (.l 5 (exs x3)))(S4:SzF 161 (.l 6 (sts x4)))(S5:SzF 161 (.l 6 (sts x5))):SzR 189 (St.mk x0 x1 x2 x3 x4 x5).fl:=by
 intro w vs hv w1 k hb hk hk2;unfold St.fl at hv;obtain⟨y0,_,rfl,rfl,y1,_,rfl,rfl,y2,_,rfl,h2,y3,_,rfl,h3,y4,_,rfl,h4,y5,_,rfl,h5,rfl⟩:=hv;have g2:=(iH x2 w _ h2).on hb;have g3:=(S3 w _ h3).on hb;have g4:=(S4 w _ h4).on hb;have g5:=(S5 w _ h5).on hb;obtain⟨a2,c2,rfl,_⟩:=h2;obtain⟨a3,c3,rfl,_⟩:=h3;obtain⟨a4,c4,rfl,_⟩:=h4;obtain⟨a5,c5,rfl,_⟩:=h5
 have e:aH (St.mk x0 x1 x2 x3 x4 x5).fl=(.b x2:Fl).len+(.l 5 (exs x3):Fl).len+(.l 6 (sts x4):Fl).len+(.l 6 (sts x5):Fl).len:=by simp[St.fl,aH,Fl.len] <;> omega
 rw[e];exact aHh x0 x1 a2 _ c2 a3 _ c3 a4 _ c4 a5 _ c5 _ _ _ _ k w1 hk hk2 g2 g3 g4 g5
theorem aHi (x0:List Int)(x1:Bool)(x2:List Pa)(x3:List (List Int))(x4:List St)(S2:SzF 160 (.l 2 (x2.map Pa.fl)))(S3:SzF 64 (.l 1 (bH x3)))(S4:SzF 161 (.l 6 (sts x4))):SzR 117 (Pr.mk x0 x1 x2 x3 x4).fl:=by
 intro w vs hv w1 k hb hk hk2;obtain⟨y0,_,rfl,h0,y1,_,rfl,rfl,y2,_,rfl,h2,y3,_,rfl,h3,y4,_,rfl,h4,rfl⟩:=hv;have g0:=(iH x0 w _ h0).on hb;refine M9155 ?_;intro g2 g3 g4;obtain⟨a0,c0,rfl,_⟩:=h0;obtain⟨a2,c2,rfl,_⟩:=h2;obtain⟨a3,c3,rfl,_⟩:=h3;obtain⟨a4,c4,rfl,_⟩:=h4
 have e:aH (Pr.mk x0 x1 x2 x3 x4).fl=(.b x0:Fl).len+(.l 2 (x2.map Pa.fl):Fl).len+(.l 1 (bH x3):Fl).len+(.l 6 (sts x4):Fl).len:=by simp[Pr.fl,aH,Fl.len] <;> omega
 rw[e];exact aHj a0 _ c0 x1 a2 _ c2 a3 _ c3 a4 _ c4 _ _ _ _ k w1 hk hk2 g0 g2 g3 g4
theorem tW (x0:List Int)(x1:List Int) :SzR 118 (Fp.mk x0 x1).fl:=by
 intro w vs hv w1 k hb hk hk2;obtain⟨y0,_,rfl,h0,y1,_,rfl,h1,rfl⟩:=hv;have g0:=(iH x0 w _ h0).on hb;have g1:=(aJy x1 w _ h1).on hb;obtain⟨a0,c0,rfl,_⟩:=h0;obtain⟨a1,c1,rfl,_⟩:=h1
 have e:aH (Fp.mk x0 x1).fl=(.b x0:Fl).len+(.i x1:Fl).len:=by simp[Fp.fl,aH,Fl.len]
 rw[e];exact tX a0 _ c0 a1 _ c1 _ _ k w1 hk hk2 g0 g1
theorem aHk (x0:List Int)(x1:List Fp)(S1:SzF 67 (.l 2 (x1.map Fp.fl))):SzR 33 (Fa.mk x0 x1).fl:=by
 intro w vs hv w1 k hb hk hk2;obtain⟨y0,_,rfl,h0,y1,_,rfl,h1,rfl⟩:=hv;have g0:=(iH x0 w _ h0).on hb;have g1:=(S1 w _ h1).on hb;obtain⟨a0,c0,rfl,_⟩:=h0;obtain⟨a1,c1,rfl,_⟩:=h1
 have e:aH (Fa.mk x0 x1).fl=(.b x0:Fl).len+(.l 2 (x1.map Fp.fl):Fl).len:=by simp[Fa.fl,aH,Fl.len]
 rw[e];exact aHl a0 _ c0 a1 _ c1 _ _ k w1 hk hk2 g0 g1
theorem aAy (x0:List Int)(x1:List (List Int))(x2:List Va)(x3:List Pr)(S1:SzF 64 (.l 1 (bH x1)))(S2:SzF 65 (.l 2 (x2.map Va.fl)))(S3:SzF 66 (.l 5 (x3.map Pr.fl))):SzR 32 (Mo.mk x0 x1 x2 x3).fl:=by
 intro w vs hv w1 k hb hk hk2;obtain⟨y0,_,rfl,h0,y1,_,rfl,h1,y2,_,rfl,h2,y3,_,rfl,h3,rfl⟩:=hv;have g0:=(iH x0 w _ h0).on hb;have g1:=(S1 w _ h1).on hb;have g2:=(S2 w _ h2).on hb;have g3:=(S3 w _ h3).on hb;obtain⟨a0,c0,rfl,_⟩:=h0;obtain⟨a1,c1,rfl,_⟩:=h1;obtain⟨a2,c2,rfl,_⟩:=h2;obtain⟨a3,c3,rfl,_⟩:=h3
 have e:aH (Mo.mk x0 x1 x2 x3).fl=(.b x0:Fl).len+(.l 1 (bH x1):Fl).len+(.l 2 (x2.map Va.fl):Fl).len+(.l 5 (x3.map Pr.fl):Fl).len:=by simp[Mo.fl,aH,Fl.len] <;> omega
 rw[e];exact aAz a0 _ c0 a1 _ c1 a2 _ c2 a3 _ c3 _ _ _ _ k w1 hk hk2 g0 g1 g2 g3
theorem aPz (x0:Int)(x1:Int)(x2:Int)(x3:List Ag)(x4:Int)(S3:SzF 68 (.l 2 (x3.map Ag.fl))):SzR 34 (Ac.mk x0 x1 x2 x3 x4).fl:=by
 intro w vs hv w1 k hb hk hk2;obtain⟨y0,_,rfl,rfl,y1,_,rfl,rfl,y2,_,rfl,rfl,y3,_,rfl,h3,y4,_,rfl,rfl,rfl⟩:=hv;have g3:=(S3 w _ h3).on hb;obtain⟨a3,c3,rfl,_⟩:=h3
 have e:aH (Ac.mk x0 x1 x2 x3 x4).fl=(.l 2 (x3.map Ag.fl):Fl).len:=by simp[Ac.fl,aH,Fl.len]
 rw[e];exact aP0 x0 x1 x2 a3 _ c3 x4 _ k w1 hk hk2 g3
theorem aQb (x0:List Mo)(x1:List Fa)(x2:List Ac)(S0:SzF 9 (.l 4 (x0.map Mo.fl)))(S1:SzF 10 (.l 2 (x1.map Fa.fl)))(S2:SzF 11 (.l 5 (x2.map Ac.fl))):SzR 4 (Wd.mk x0 x1 x2).fl:=by
 intro w vs hv w1 k hb hk hk2;obtain⟨y0,_,rfl,h0,y1,_,rfl,h1,y2,_,rfl,h2,rfl⟩:=hv;have g0:=(S0 w _ h0).on hb;have g1:=(S1 w _ h1).on hb;have g2:=(S2 w _ h2).on hb;obtain⟨a0,c0,rfl,_⟩:=h0;obtain⟨a1,c1,rfl,_⟩:=h1;obtain⟨a2,c2,rfl,_⟩:=h2
 have e:aH (Wd.mk x0 x1 x2).fl=(.l 4 (x0.map Mo.fl):Fl).len+(.l 2 (x1.map Fa.fl):Fl).len+(.l 5 (x2.map Ac.fl):Fl).len:=by simp[Wd.fl,aH,Fl.len] <;> omega
 rw[e];exact aQc a0 _ c0 a1 _ c1 a2 _ c2 _ _ _ k w1 hk hk2 g0 g1 g2
mutual
theorem aM8:∀e:Ex,SzR 229 e.fl
 | .mk k n m a ks=>aHn k n m a ks (vQ ks (aHm ks))
theorem aHm:∀(l:List Ex),∀e ∈ l,SzR 229 e.fl
 | [],e,h=>by simp at h
 | x :: l,e,h=>by
  rcases zH0.1 h with h|h
  .
   rw[h];exact aM8 x
  .
   exact aHm l e h
end
mutual
theorem aM5:∀e:St,SzR 189 e.fl
 | .mk k n a ks bs es=>aHg k n a ks bs es (vQ ks (aHm ks)) (qK bs (aD4 bs)) (qK es (aD4 es))
theorem aD4:∀(l:List St),∀e ∈ l,SzR 189 e.fl
 | [],e,h=>by simp at h
 | x :: l,e,h=>by
  rcases zH0.1 h with h|h
  .
   rw[h];exact aM5 x
  .
   exact aD4 l e h
end
theorem aM6 (m:Mo):SzR 32 m.fl:=
 aAy m.name m.uses m.vars m.procs (sB m.uses) (aHf m.vars fun v _=>aJv v.name v.size)
  (aD5 m.procs fun q _=>aHi q.name q.opn q.params q.locals q.body (aAx q.params fun v _=>aD6 v.name v.arr) (sB q.locals) (qK q.body (aD4 q.body)))
theorem aM7 (f:Fa):SzR 33 f.fl:=aHk f.name f.procs (sA f.procs fun q _=>tW q.name q.kinds)
theorem aLl (l:List Fa):SzF 10 (.l 2 (l.map Fa.fl)):=aD8 l fun f _=>aM7 f
theorem aRb (a:Option Addr)(n c:Nat)(k:Int)(w:World)(hk:0<=k)(hk2:k<=1048576)(hn:n<=9223372036854775807):
  Calls Tryz.prog 68 #[.slice a n c,.int .i64 k] w fun e w'=>e=.returned (.int .i64 (szL k n))/\w'=w:=by
 by_cases h:(n:Int)<=k
 .
  rw[aU h];have h':¬(k-(n:Int)<0):=V6;go_enter Tryz.func68,Tryz.ntmps68;exact U101
 .
  rw[bM h];have h':k-(n:Int)<0:=V6;go_enter Tryz.func68,Tryz.ntmps68;exact U101
theorem aQp (l:List Ag):SzF 68 (.l 2 (l.map Ag.fl)):=by
 intro w v hv w1 k hb hk hk2;obtain⟨a,c,rfl,h1,h2,_⟩:=hv;unfold maxLen at h2
 have e0:∀l:List Ag,aF (l.map Ag.fl)=0:=by
  intro l
  induction l with
  | nil=>rfl
  | cons x l ih=>simp[aF,Ag.fl,aH,Fl.len];exact ih
 have e:(Fl.l 2 (l.map Ag.fl)).len=(l.map Ag.fl).length:=by simp only[Fl.len,e0];rfl
 rw[e];refine(aRb a _ c k w1 hk hk2 V6).mono ?_;exact U354
theorem aR1 (x:Wd):SzR 4 x.fl:=
 aQb x.mods x.faces x.script (aPf x.mods fun m _=>aM6 m) (aLl x.faces) (aPg x.script fun q _=>aPz q.kind q.to q.proc q.args q.n (aQp q.args))
end Go.Proofs.YtegkhlkjfeafjaaGreatDoor

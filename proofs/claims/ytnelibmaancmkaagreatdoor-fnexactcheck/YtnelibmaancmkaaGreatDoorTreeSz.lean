import Derived.Test.YtnelibmaancmkaaGreatDoorPackL
import Derived.Deep.Cut
import Derived.Deep.CutRange
namespace Go.Proofs.YtnelibmaancmkaaGreatDoor
set_option maxHeartbeats 8000000
open Go.RowKit
set_option linter.unusedVariables false
set_option linter.unusedSimpArgs false
set_option maxRecDepth 100000
theorem V19{p:Prop}(h:p:=by rw[hn];exact Am):p:=h
theorem V35{p:Prop}(h:p:=by rw[Hd.out];exact Nat.le_refl _):p:=h
theorem V53{p:Prop}(h:p:=by simpa [aF] using hk):p:=h
theorem V84{p:Prop}(h:p:=by simp[aF]):p:=h
theorem U4{p:Prop}(h:p:=by
 clear hN
 replace HC:=HC wr rr (Below.refl _ _) hr0 V6
 by_cases hxr:(N:Int)<=rr
 .
  simp only[aU hxr]at HC
  have hx':¬(rr-(N:Int)<0):=V6
  go_wp2_with fail
  refine HC.mono ?_
  rintro e w2 ⟨rfl,Ae⟩
  have hbw:Below w.heap.size w w2:=Au.trans (Ae.mono Au.size)
  clear q0 q1 HC Ae
  go_wp2_with fail
  go_roundw
  case rel=>exact⟨j+1,by omega,by go_num,_,rfl,by omega,by omega,by show _=_;have:=hrr.out;rw[HN.out,this];omega,hbw⟩
  case measure=>simp[intOf];omega
 .
  simp only[bM hxr]at HC
  go_wp2_with fail
  refine HC.mono ?_
  rintro e w2 ⟨rfl,Ae⟩
  have hbw:Below w.heap.size w w2:=Au.trans (Ae.mono Au.size)
  clear q0 q1 HC Ae
  go_wp2_with fail
  go_ret
  have h1:=HN.out
  have h2:=HT.out
  have h3:=hrr.out
  rw[h1]at h2
  have hno:¬((n+aF rs:Nat):Int)<=k:=V6
  exact⟨aQ (bM hno).symm,hbw⟩):p:=h
theorem U9{p:Prop}(h:p:=by
 intro j hj
 exact⟨l[j],List.getElem_mem hj,by simp[aJ,aM,bH,hj]⟩):p:=h
theorem U13{p:Prop}(h:p:=by
 go_wp2_with fail
 go_roundw
 case rel=>exact⟨j+1,by omega,by go_num,_,rfl,by omega,by omega,by show _=_;have:=hrr.out;rw[HN.out,this];omega,hbw⟩
 case measure=>simp[intOf];omega):p:=h
theorem U17{p:Prop}(h:p:=by
 go_wp2_with fail
 go_ret
 have h1:=HN.out
 have h2:=HT.out
 have h3:=hrr.out
 rw[h1]at h2
 have hno:¬((n+aF rs:Nat):Int)<=k:=V6
 exact⟨aQ (bM hno).symm,hbw⟩):p:=h
theorem U19{p:Prop}(h:p:=by
 have:j=n:=V6
 subst this
 go_wp2_with fail
 go_ret
 refine⟨?_,Au⟩
 have h3:=hrr.out
 rw[List.take_of_length_le V35]at h3
 rw[aU V6]
 exact aQ V6):p:=h
theorem U22{p:Prop}(h:p:=by
 go_wp2_with fail
 refine wp_loop_rounds 1 ?_
 rw[rounds_succ]
 go_wp2_with fail
 go_ret
 exact⟨aQ V84,Below.refl _ _⟩):p:=h
theorem U37{p:Prop}(h:p:=by
 go_ret
 exact⟨rfl,Below.refl _ _⟩):p:=h
theorem U48{p:Prop}(h:p:=by
 go_wp2_with fail
 refine G0.mono ?_
 rintro e w1 ⟨rfl,Aj⟩
 have Bf:Below w.heap.size w w1:=hB.trans (Aj.mono hB.size)
 replace q1:=aB q1 Aj
 clear Aj G0 q0
 have G1:=H1 w1 (k-(N0:Int)) Bf V6 V6
 simp only[aU (show(N1:Int)<=k-(N0:Int) by omega)]at G1
 clear H1
 go_wp2_with fail
 refine G1.mono ?_
 rintro e w2 ⟨rfl,Ae⟩
 have hB2:Below w.heap.size w w2:=Bf.trans (Ae.mono Bf.size)
 clear Ae G1 q1
 go_wp2_with fail
 go_ret
 exact⟨aQ (HE.out.trans (aU V6).symm),hB2⟩):p:=h
theorem U49{p:Prop}(h:p:=by
 go_wp2_with fail
 refine G0.mono ?_
 rintro e w1 ⟨rfl,Aj⟩
 have Bf:Below w.heap.size w w1:=hB.trans (Aj.mono hB.size)
 replace q1:=aB q1 Aj
 clear Aj G0 q0
 have G1:=H1 w1 (k-(N0:Int)) Bf V6 V6
 simp only[bM (show ¬(N1:Int)<=k-(N0:Int) by omega)]at G1
 clear H1
 go_wp2_with fail
 refine G1.mono ?_
 rintro e w2 ⟨rfl,Ae⟩
 have hB2:Below w.heap.size w w2:=Bf.trans (Ae.mono Bf.size)
 clear Ae G1 q1
 go_wp2_with fail
 go_ret
 exact⟨aQ (bM V6).symm,hB2⟩):p:=h
theorem U56{p:Prop}(h:p:=by
 go_wp2_with fail
 go_ret
 exact⟨aQ (bM V6).symm,Bf⟩):p:=h
theorem U74{p:Prop}(h:p:=by
 go_wp2_with fail
 go_ret
 exact⟨aQ (bM V6).symm,hB2⟩):p:=h
theorem U94{p:Prop}(h:p:=by
 go_wp2_with fail
 refine G0.mono ?_
 rintro e w1 ⟨rfl,Aj⟩
 have Bf:Below w.heap.size w w1:=hB.trans (Aj.mono hB.size)
 clear Aj G0 q0
 go_wp2_with fail
 go_ret
 exact⟨aQ (aU V6).symm,Bf⟩):p:=h
theorem U100{p:Prop}(h:p:=by
 go_wp2_with fail
 go_ret
 exact⟨aQ (bM V6).symm,hB3⟩):p:=h
theorem U101{p:Prop}(h:p:=by
 go_wp2
 go_ret
 exact⟨rfl,rfl⟩):p:=h
theorem U109{p:Prop}(h:p:=by
 go_wp2_with fail
 go_ret
 exact⟨aQ (HE.out.trans (aU V6).symm),hB4⟩):p:=h
theorem U128{p:Prop}(h:p:=by
 go_wp2_with fail
 go_ret
 exact⟨aQ (bM V6).symm,hB4⟩):p:=h
theorem aHp (a:Option Addr)(n c:Nat)(k:Int)(w:World)(hk:0<=k)(hk2:k<=1048576)(hn:n<=9223372036854775807):
  Calls Tryz.prog 18 #[.slice a n c,.int .i64 k] w fun e w'=>e=.returned (.int .i64 (szL k n))/\w'=w:=by
 by_cases h:(n:Int)<=k
 .
  rw[aU h];have h':¬(k-(n:Int)<0):=V6;go_enter Tryz.func18,Tryz.ntmps18;exact U101
 .
  rw[bM h];have h':k-(n:Int)<0:=V6;go_enter Tryz.func18,Tryz.ntmps18;exact U101
theorem aJx (a:Option Addr)(n c:Nat)(k:Int)(w:World)(hk:0<=k)(hk2:k<=1048576)(hn:n<=9223372036854775807):
  Calls Tryz.prog 168 #[.slice a n c,.int .i64 k] w fun e w'=>e=.returned (.int .i64 (szL k n))/\w'=w:=by
 by_cases h:(n:Int)<=k
 .
  rw[aU h];have h':¬(k-(n:Int)<0):=V6;go_enter Tryz.func168,Tryz.ntmps168;exact U101
 .
  rw[bM h];have h':k-(n:Int)<0:=V6;go_enter Tryz.func168,Tryz.ntmps168;exact U101
def SzV (w:World)(F:Nat)(v:Value)(N:Nat):Prop:=
 ∀(w1:World) (k:Int),Below w.heap.size w w1->0<=k->k<=1048576->Calls Tryz.prog F #[v,.int .i64 k] w1 fun e w'=>e=.returned (.int .i64 (szL k N))/\Below w1.heap.size w1 w'
def SzF (F:Nat)(f:Fl):Prop:=∀(w:World) (v:Value),f.Rd w v->SzV w F v f.len
def SzR (F:Nat)(r:List Fl):Prop:=∀(w:World) (vs:List Value),aO w r vs->SzV w F (.agg vs.toArray) (aH r)
theorem iH (l:List Int):SzF 18 (.b l):=by
 rintro w v ⟨a,c,rfl,_,h1,h2,_⟩ w1 k hb hk hk2;unfold maxLen at h2;refine(aHp a l.length c k w1 hk hk2 V6).mono ?_;rintro e w' ⟨rfl,rfl⟩;exact⟨rfl,Below.refl _ _⟩
theorem aJy (l:List Int):SzF 168 (.i l):=by
 rintro w v ⟨a,c,rfl,_,h1,h2,_⟩ w1 k hb hk hk2;unfold maxLen at h2;refine(aJx a l.length c k w1 hk hk2 V6).mono ?_;rintro e w' ⟨rfl,rfl⟩;exact⟨rfl,Below.refl _ _⟩
theorem aB {w w':World}{g i:Nat}{v:Value}(h:w.cell? ⟨g,i,none⟩=some v)(hb:Below w.heap.size w w'):w'.cell? ⟨g,i,none⟩=some v:=by
 rw[hb.cell (World.block_lt_of_cell? w _ h)];exact h
theorem aN (w:World)(t:TypeId)(vs:Array Value)(i:Nat)(v:Value)(h:vs[i]?=some v):(w.alloc (.cells vs t (0,0))).cell? ⟨w.heap.size,i,none⟩=some v:=by
 rw[cell_of_row _ w.heap.size i vs t (0,0) (heap_alloc_new w _)];exact h
theorem jD.vals {w:World}{b:Nat}{r:List Fl}:∀{off:Nat},jD w b off r->∃vs,aO w r vs/\∀i v,vs[i]?=some v->w.cell? ⟨b,off+i,none⟩=some v:=by
 induction r with
 | nil=>intro off _;exact⟨[],rfl,by simp⟩
 | cons f r ih=>
  intro off h;obtain⟨⟨v,hc,hv⟩,h2⟩:=h;obtain⟨vs,h3,h4⟩:=ih h2
  refine⟨v :: vs,⟨v,vs,rfl,hv,h3⟩,fun i u hu=>?_⟩
  cases i with
  | zero=>simp only[List.getElem?_cons_zero,Option.some.injEq]at hu;subst hu;exact hc
  | succ i=>
   rw[List.getElem?_cons_succ]at hu
   have:=h4 i u hu
   rw[show off+(i+1)=off+1+i by omega];exact this
theorem aJw (a0:Option Addr)(n0 c0:Nat)(p1:Int)(N0:Nat)(k:Int)(w:World)(hk:0<=k)(hk2:k<=1048576)
  (H0:SzV w 18 (.slice a0 n0 c0) N0):
  Calls Tryz.prog 64 #[.agg #[.slice a0 n0 c0,.int .i64 p1],.int .i64 k] w fun e w'=>e=.returned (.int .i64 (szL k (N0)))/\Below w.heap.size w w':=by
 have hB:Below w.heap.size w (w.alloc (.cells #[.slice a0 n0 c0,.int .i64 p1] 116 (0,0))):=(Below.refl _ _).alloc (Nat.le_refl _) _
 have q0:=aN w 116 #[.slice a0 n0 c0,.int .i64 p1] 0 _ rfl
 by_cases e0:(N0:Int)<=k
 .
  have g0:¬(k-(N0:Int)<0):=V6;have G0:=H0 _ (k) hB hk hk2
  simp only[aU (show(N0:Int)<=k by omega)]at G0
  clear H0;go_enter Tryz.func64,Tryz.ntmps64;exact U94
 .
  have G0:=H0 _ (k) hB hk hk2
  simp only[bM (show ¬(N0:Int)<=k by omega)]at G0
  clear H0;go_enter Tryz.func64,Tryz.ntmps64;go_wp2_with fail;refine G0.mono ?_;rintro e w1 ⟨rfl,Aj⟩
  have Bf:Below w.heap.size w w1:=hB.trans (Aj.mono hB.size)
  clear Aj G0 q0;exact U56
theorem aD7 (a0:Option Addr)(n0 c0:Nat)(t1:Bool)(N0:Nat)(k:Int)(w:World)(hk:0<=k)(hk2:k<=1048576)
  (H0:SzV w 18 (.slice a0 n0 c0) N0):
  Calls Tryz.prog 166 #[.agg #[.slice a0 n0 c0,.bool t1],.int .i64 k] w fun e w'=>e=.returned (.int .i64 (szL k (N0)))/\Below w.heap.size w w':=by
 have hB:Below w.heap.size w (w.alloc (.cells #[.slice a0 n0 c0,.bool t1] 217 (0,0))):=(Below.refl _ _).alloc (Nat.le_refl _) _
 have q0:=aN w 217 #[.slice a0 n0 c0,.bool t1] 0 _ rfl
 by_cases e0:(N0:Int)<=k
 .
  have g0:¬(k-(N0:Int)<0):=V6;have G0:=H0 _ (k) hB hk hk2
  simp only[aU (show(N0:Int)<=k by omega)]at G0
  clear H0;go_enter Tryz.func166,Tryz.ntmps166;exact U94
 .
  have G0:=H0 _ (k) hB hk hk2
  simp only[bM (show ¬(N0:Int)<=k by omega)]at G0
  clear H0;go_enter Tryz.func166,Tryz.ntmps166;go_wp2_with fail;refine G0.mono ?_;rintro e w1 ⟨rfl,Aj⟩
  have Bf:Below w.heap.size w w1:=hB.trans (Aj.mono hB.size)
  clear Aj G0 q0;exact U56
theorem aHo (p0:Int)(p1:Int)(a2:Option Addr)(n2 c2:Nat)(a3:Option Addr)(n3 c3:Nat)(a4:Option Addr)(n4 c4:Nat)(N2:Nat)(N3:Nat)(N4:Nat)(k:Int)(w:World)(hk:0<=k)(hk2:k<=1048576)
  (H2:SzV w 18 (.slice a2 n2 c2) N2) (H3:SzV w 18 (.slice a3 n3 c3) N3) (H4:SzV w 208 (.slice a4 n4 c4) N4):
  Calls Tryz.prog 228 #[.agg #[.int .i64 p0,.int .i64 p1,.slice a2 n2 c2,.slice a3 n3 c3,.slice a4 n4 c4],.int .i64 k] w fun e w'=>e=.returned (.int .i64 (szL k (N2+N3+N4)))/\Below w.heap.size w w':=by
 have hB:Below w.heap.size w (w.alloc (.cells #[.int .i64 p0,.int .i64 p1,.slice a2 n2 c2,.slice a3 n3 c3,.slice a4 n4 c4] 269 (0,0))):=(Below.refl _ _).alloc (Nat.le_refl _) _
 have q2:=aN w 269 #[.int .i64 p0,.int .i64 p1,.slice a2 n2 c2,.slice a3 n3 c3,.slice a4 n4 c4] 2 _ rfl;have q3:=aN w 269 #[.int .i64 p0,.int .i64 p1,.slice a2 n2 c2,.slice a3 n3 c3,.slice a4 n4 c4] 3 _ rfl;have q4:=aN w 269 #[.int .i64 p0,.int .i64 p1,.slice a2 n2 c2,.slice a3 n3 c3,.slice a4 n4 c4] 4 _ rfl
 by_cases e0:(N2:Int)<=k
 .
  by_cases e1:(N3:Int)<=k-(N2:Int)
  .
   by_cases e2:(N4:Int)<=k-(N2:Int)-(N3:Int)
   .
    have g0:¬(k-(N2:Int)<0):=V6;have g1:¬(k-(N2:Int)-(N3:Int)<0):=V6;have g2:¬(k-(N2:Int)-(N3:Int)-(N4:Int)<0):=V6;have G0:=H2 _ (k) hB hk hk2
    simp only[aU (show(N2:Int)<=k by omega)]at G0
    clear H2
    have HE:Hid (k-(N2:Int)-(N3:Int)-(N4:Int)=k-((N2+N3+N4:Nat):Int)):=by show _=_;omega
    go_enter Tryz.func228,Tryz.ntmps228;go_wp2_with fail;refine G0.mono ?_;rintro e w1 ⟨rfl,Aj⟩
    have Bf:Below w.heap.size w w1:=hB.trans (Aj.mono hB.size)
    replace q3:=aB q3 Aj;replace q4:=aB q4 Aj;clear Aj G0 q2;have G1:=H3 w1 (k-(N2:Int)) Bf V6 V6
    simp only[aU (show(N3:Int)<=k-(N2:Int) by omega)]at G1
    clear H3;go_wp2_with fail;refine G1.mono ?_;rintro e w2 ⟨rfl,Ae⟩
    have hB2:Below w.heap.size w w2:=Bf.trans (Ae.mono Bf.size)
    replace q4:=aB q4 Ae;clear Ae G1 q3;have G2:=H4 w2 (k-(N2:Int)-(N3:Int)) hB2 V6 V6
    simp only[aU (show(N4:Int)<=k-(N2:Int)-(N3:Int) by omega)]at G2
    clear H4;go_wp2_with fail;refine G2.mono ?_;rintro e w3 ⟨rfl,Bj⟩
    have hB3:Below w.heap.size w w3:=hB2.trans (Bj.mono hB2.size)
    clear Bj G2 q4;go_wp2_with fail;go_ret;exact⟨aQ (HE.out.trans (aU V6).symm),hB3⟩
   .
    have g0:¬(k-(N2:Int)<0):=V6;have g1:¬(k-(N2:Int)-(N3:Int)<0):=V6;have G0:=H2 _ (k) hB hk hk2
    simp only[aU (show(N2:Int)<=k by omega)]at G0
    clear H2;go_enter Tryz.func228,Tryz.ntmps228;go_wp2_with fail;refine G0.mono ?_;rintro e w1 ⟨rfl,Aj⟩
    have Bf:Below w.heap.size w w1:=hB.trans (Aj.mono hB.size)
    replace q3:=aB q3 Aj;replace q4:=aB q4 Aj;clear Aj G0 q2;have G1:=H3 w1 (k-(N2:Int)) Bf V6 V6
    simp only[aU (show(N3:Int)<=k-(N2:Int) by omega)]at G1
    clear H3;go_wp2_with fail;refine G1.mono ?_;rintro e w2 ⟨rfl,Ae⟩
    have hB2:Below w.heap.size w w2:=Bf.trans (Ae.mono Bf.size)
    replace q4:=aB q4 Ae;clear Ae G1 q3;have G2:=H4 w2 (k-(N2:Int)-(N3:Int)) hB2 V6 V6
    simp only[bM (show ¬(N4:Int)<=k-(N2:Int)-(N3:Int) by omega)]at G2
    clear H4;go_wp2_with fail;refine G2.mono ?_;rintro e w3 ⟨rfl,Bj⟩
    have hB3:Below w.heap.size w w3:=hB2.trans (Bj.mono hB2.size)
    clear Bj G2 q4;exact U100
  .
   have g0:¬(k-(N2:Int)<0):=V6;have G0:=H2 _ (k) hB hk hk2
   simp only[aU (show(N2:Int)<=k by omega)]at G0
   clear H2;go_enter Tryz.func228,Tryz.ntmps228;go_wp2_with fail;refine G0.mono ?_;rintro e w1 ⟨rfl,Aj⟩
   have Bf:Below w.heap.size w w1:=hB.trans (Aj.mono hB.size)
   replace q3:=aB q3 Aj;replace q4:=aB q4 Aj;clear Aj G0 q2;have G1:=H3 w1 (k-(N2:Int)) Bf V6 V6
   simp only[bM (show ¬(N3:Int)<=k-(N2:Int) by omega)]at G1
   clear H3;go_wp2_with fail;refine G1.mono ?_;rintro e w2 ⟨rfl,Ae⟩
   have hB2:Below w.heap.size w w2:=Bf.trans (Ae.mono Bf.size)
   replace q4:=aB q4 Ae;clear Ae G1 q3;exact U74
 .
  have G0:=H2 _ (k) hB hk hk2
  simp only[bM (show ¬(N2:Int)<=k by omega)]at G0
  clear H2;go_enter Tryz.func228,Tryz.ntmps228;go_wp2_with fail;refine G0.mono ?_;rintro e w1 ⟨rfl,Aj⟩
  have Bf:Below w.heap.size w w1:=hB.trans (Aj.mono hB.size)
  replace q3:=aB q3 Aj;replace q4:=aB q4 Aj;clear Aj G0 q2;exact U56
theorem aHh (p0:Int)(p1:Int)(a2:Option Addr)(n2 c2:Nat)(a3:Option Addr)(n3 c3:Nat)(a4:Option Addr)(n4 c4:Nat)(a5:Option Addr)(n5 c5:Nat)(N2:Nat)(N3:Nat)(N4:Nat)(N5:Nat)(k:Int)(w:World)(hk:0<=k)(hk2:k<=1048576)
  (H2:SzV w 18 (.slice a2 n2 c2) N2) (H3:SzV w 208 (.slice a3 n3 c3) N3) (H4:SzV w 117 (.slice a4 n4 c4) N4) (H5:SzV w 117 (.slice a5 n5 c5) N5):
  Calls Tryz.prog 167 #[.agg #[.int .i64 p0,.int .i64 p1,.slice a2 n2 c2,.slice a3 n3 c3,.slice a4 n4 c4,.slice a5 n5 c5],.int .i64 k] w fun e w'=>e=.returned (.int .i64 (szL k (N2+N3+N4+N5)))/\Below w.heap.size w w':=by
 have hB:Below w.heap.size w (w.alloc (.cells #[.int .i64 p0,.int .i64 p1,.slice a2 n2 c2,.slice a3 n3 c3,.slice a4 n4 c4,.slice a5 n5 c5] 221 (0,0))):=(Below.refl _ _).alloc (Nat.le_refl _) _
 have q2:=aN w 221 #[.int .i64 p0,.int .i64 p1,.slice a2 n2 c2,.slice a3 n3 c3,.slice a4 n4 c4,.slice a5 n5 c5] 2 _ rfl;have q3:=aN w 221 #[.int .i64 p0,.int .i64 p1,.slice a2 n2 c2,.slice a3 n3 c3,.slice a4 n4 c4,.slice a5 n5 c5] 3 _ rfl;have q4:=aN w 221 #[.int .i64 p0,.int .i64 p1,.slice a2 n2 c2,.slice a3 n3 c3,.slice a4 n4 c4,.slice a5 n5 c5] 4 _ rfl;have q5:=aN w 221 #[.int .i64 p0,.int .i64 p1,.slice a2 n2 c2,.slice a3 n3 c3,.slice a4 n4 c4,.slice a5 n5 c5] 5 _ rfl
 by_cases e0:(N2:Int)<=k
 .
  by_cases e1:(N3:Int)<=k-(N2:Int)
  .
   by_cases e2:(N4:Int)<=k-(N2:Int)-(N3:Int)
   .
    by_cases e3:(N5:Int)<=k-(N2:Int)-(N3:Int)-(N4:Int)
    .
     have g0:¬(k-(N2:Int)<0):=V6;have g1:¬(k-(N2:Int)-(N3:Int)<0):=V6;have g2:¬(k-(N2:Int)-(N3:Int)-(N4:Int)<0):=V6;have g3:¬(k-(N2:Int)-(N3:Int)-(N4:Int)-(N5:Int)<0):=V6;have G0:=H2 _ (k) hB hk hk2
     simp only[aU (show(N2:Int)<=k by omega)]at G0
     clear H2
     have HE:Hid (k-(N2:Int)-(N3:Int)-(N4:Int)-(N5:Int)=k-((N2+N3+N4+N5:Nat):Int)):=by show _=_;omega
     go_enter Tryz.func167,Tryz.ntmps167;go_wp2_with fail;refine G0.mono ?_;rintro e w1 ⟨rfl,Aj⟩
     have Bf:Below w.heap.size w w1:=hB.trans (Aj.mono hB.size)
     replace q3:=aB q3 Aj;replace q4:=aB q4 Aj;replace q5:=aB q5 Aj;clear Aj G0 q2;have G1:=H3 w1 (k-(N2:Int)) Bf V6 V6
     simp only[aU (show(N3:Int)<=k-(N2:Int) by omega)]at G1
     clear H3;go_wp2_with fail;refine G1.mono ?_;rintro e w2 ⟨rfl,Ae⟩
     have hB2:Below w.heap.size w w2:=Bf.trans (Ae.mono Bf.size)
     replace q4:=aB q4 Ae;replace q5:=aB q5 Ae;clear Ae G1 q3;have G2:=H4 w2 (k-(N2:Int)-(N3:Int)) hB2 V6 V6
     simp only[aU (show(N4:Int)<=k-(N2:Int)-(N3:Int) by omega)]at G2
     clear H4;go_wp2_with fail;refine G2.mono ?_;rintro e w3 ⟨rfl,Bj⟩
     have hB3:Below w.heap.size w w3:=hB2.trans (Bj.mono hB2.size)
     replace q5:=aB q5 Bj;clear Bj G2 q4;have G3:=H5 w3 (k-(N2:Int)-(N3:Int)-(N4:Int)) hB3 V6 V6
     simp only[aU (show(N5:Int)<=k-(N2:Int)-(N3:Int)-(N4:Int) by omega)]at G3
     clear H5;go_wp2_with fail;refine G3.mono ?_;rintro e w4 ⟨rfl,hb4⟩
     have hB4:Below w.heap.size w w4:=hB3.trans (hb4.mono hB3.size)
     clear hb4 G3 q5;exact U109
    .
     have g0:¬(k-(N2:Int)<0):=V6;have g1:¬(k-(N2:Int)-(N3:Int)<0):=V6;have g2:¬(k-(N2:Int)-(N3:Int)-(N4:Int)<0):=V6;have G0:=H2 _ (k) hB hk hk2
     simp only[aU (show(N2:Int)<=k by omega)]at G0
     clear H2;go_enter Tryz.func167,Tryz.ntmps167;go_wp2_with fail;refine G0.mono ?_;rintro e w1 ⟨rfl,Aj⟩
     have Bf:Below w.heap.size w w1:=hB.trans (Aj.mono hB.size)
     replace q3:=aB q3 Aj;replace q4:=aB q4 Aj;replace q5:=aB q5 Aj;clear Aj G0 q2;have G1:=H3 w1 (k-(N2:Int)) Bf V6 V6
     simp only[aU (show(N3:Int)<=k-(N2:Int) by omega)]at G1
     clear H3;go_wp2_with fail;refine G1.mono ?_;rintro e w2 ⟨rfl,Ae⟩
     have hB2:Below w.heap.size w w2:=Bf.trans (Ae.mono Bf.size)
     replace q4:=aB q4 Ae;replace q5:=aB q5 Ae;clear Ae G1 q3;have G2:=H4 w2 (k-(N2:Int)-(N3:Int)) hB2 V6 V6
     simp only[aU (show(N4:Int)<=k-(N2:Int)-(N3:Int) by omega)]at G2
     clear H4;go_wp2_with fail;refine G2.mono ?_;rintro e w3 ⟨rfl,Bj⟩
     have hB3:Below w.heap.size w w3:=hB2.trans (Bj.mono hB2.size)
     replace q5:=aB q5 Bj;clear Bj G2 q4;have G3:=H5 w3 (k-(N2:Int)-(N3:Int)-(N4:Int)) hB3 V6 V6
     simp only[bM (show ¬(N5:Int)<=k-(N2:Int)-(N3:Int)-(N4:Int) by omega)]at G3
     clear H5;go_wp2_with fail;refine G3.mono ?_;rintro e w4 ⟨rfl,hb4⟩
     have hB4:Below w.heap.size w w4:=hB3.trans (hb4.mono hB3.size)
     clear hb4 G3 q5;exact U128
   .
    have g0:¬(k-(N2:Int)<0):=V6;have g1:¬(k-(N2:Int)-(N3:Int)<0):=V6;have G0:=H2 _ (k) hB hk hk2
    simp only[aU (show(N2:Int)<=k by omega)]at G0
    clear H2;go_enter Tryz.func167,Tryz.ntmps167;go_wp2_with fail;refine G0.mono ?_;rintro e w1 ⟨rfl,Aj⟩
    have Bf:Below w.heap.size w w1:=hB.trans (Aj.mono hB.size)
    replace q3:=aB q3 Aj;replace q4:=aB q4 Aj;replace q5:=aB q5 Aj;clear Aj G0 q2;have G1:=H3 w1 (k-(N2:Int)) Bf V6 V6
    simp only[aU (show(N3:Int)<=k-(N2:Int) by omega)]at G1
    clear H3;go_wp2_with fail;refine G1.mono ?_;rintro e w2 ⟨rfl,Ae⟩
    have hB2:Below w.heap.size w w2:=Bf.trans (Ae.mono Bf.size)
    replace q4:=aB q4 Ae;replace q5:=aB q5 Ae;clear Ae G1 q3;have G2:=H4 w2 (k-(N2:Int)-(N3:Int)) hB2 V6 V6
    simp only[bM (show ¬(N4:Int)<=k-(N2:Int)-(N3:Int) by omega)]at G2
    clear H4;go_wp2_with fail;refine G2.mono ?_;rintro e w3 ⟨rfl,Bj⟩
    have hB3:Below w.heap.size w w3:=hB2.trans (Bj.mono hB2.size)
    replace q5:=aB q5 Bj;clear Bj G2 q4;exact U100
  .
   have g0:¬(k-(N2:Int)<0):=V6;have G0:=H2 _ (k) hB hk hk2
   simp only[aU (show(N2:Int)<=k by omega)]at G0
   clear H2;go_enter Tryz.func167,Tryz.ntmps167;go_wp2_with fail;refine G0.mono ?_;rintro e w1 ⟨rfl,Aj⟩
   have Bf:Below w.heap.size w w1:=hB.trans (Aj.mono hB.size)
   replace q3:=aB q3 Aj;replace q4:=aB q4 Aj;replace q5:=aB q5 Aj;clear Aj G0 q2;have G1:=H3 w1 (k-(N2:Int)) Bf V6 V6
   simp only[bM (show ¬(N3:Int)<=k-(N2:Int) by omega)]at G1
   clear H3;go_wp2_with fail;refine G1.mono ?_;rintro e w2 ⟨rfl,Ae⟩
   have hB2:Below w.heap.size w w2:=Bf.trans (Ae.mono Bf.size)
   replace q4:=aB q4 Ae;replace q5:=aB q5 Ae;clear Ae G1 q3;exact U74
 .
  have G0:=H2 _ (k) hB hk hk2
  simp only[bM (show ¬(N2:Int)<=k by omega)]at G0
  clear H2;go_enter Tryz.func167,Tryz.ntmps167;go_wp2_with fail;refine G0.mono ?_;rintro e w1 ⟨rfl,Aj⟩
  have Bf:Below w.heap.size w w1:=hB.trans (Aj.mono hB.size)
  replace q3:=aB q3 Aj;replace q4:=aB q4 Aj;replace q5:=aB q5 Aj;clear Aj G0 q2;exact U56
theorem aHj (a0:Option Addr)(n0 c0:Nat)(t1:Bool)(a2:Option Addr)(n2 c2:Nat)(a3:Option Addr)(n3 c3:Nat)(a4:Option Addr)(n4 c4:Nat)(N0:Nat)(N2:Nat)(N3:Nat)(N4:Nat)(k:Int)(w:World)(hk:0<=k)(hk2:k<=1048576)
  (H0:SzV w 18 (.slice a0 n0 c0) N0) (H2:SzV w 116 (.slice a2 n2 c2) N2) (H3:SzV w 19 (.slice a3 n3 c3) N3) (H4:SzV w 117 (.slice a4 n4 c4) N4):
  Calls Tryz.prog 65 #[.agg #[.slice a0 n0 c0,.bool t1,.slice a2 n2 c2,.slice a3 n3 c3,.slice a4 n4 c4],.int .i64 k] w fun e w'=>e=.returned (.int .i64 (szL k (N0+N2+N3+N4)))/\Below w.heap.size w w':=by
 have hB:Below w.heap.size w (w.alloc (.cells #[.slice a0 n0 c0,.bool t1,.slice a2 n2 c2,.slice a3 n3 c3,.slice a4 n4 c4] 121 (0,0))):=(Below.refl _ _).alloc (Nat.le_refl _) _
 have q0:=aN w 121 #[.slice a0 n0 c0,.bool t1,.slice a2 n2 c2,.slice a3 n3 c3,.slice a4 n4 c4] 0 _ rfl;have q2:=aN w 121 #[.slice a0 n0 c0,.bool t1,.slice a2 n2 c2,.slice a3 n3 c3,.slice a4 n4 c4] 2 _ rfl;have q3:=aN w 121 #[.slice a0 n0 c0,.bool t1,.slice a2 n2 c2,.slice a3 n3 c3,.slice a4 n4 c4] 3 _ rfl;have q4:=aN w 121 #[.slice a0 n0 c0,.bool t1,.slice a2 n2 c2,.slice a3 n3 c3,.slice a4 n4 c4] 4 _ rfl
 by_cases e0:(N0:Int)<=k
 .
  by_cases e1:(N2:Int)<=k-(N0:Int)
  .
   by_cases e2:(N3:Int)<=k-(N0:Int)-(N2:Int)
   .
    by_cases e3:(N4:Int)<=k-(N0:Int)-(N2:Int)-(N3:Int)
    .
     have g0:¬(k-(N0:Int)<0):=V6;have g1:¬(k-(N0:Int)-(N2:Int)<0):=V6;have g2:¬(k-(N0:Int)-(N2:Int)-(N3:Int)<0):=V6;have g3:¬(k-(N0:Int)-(N2:Int)-(N3:Int)-(N4:Int)<0):=V6;have G0:=H0 _ (k) hB hk hk2
     simp only[aU (show(N0:Int)<=k by omega)]at G0
     clear H0
     have HE:Hid (k-(N0:Int)-(N2:Int)-(N3:Int)-(N4:Int)=k-((N0+N2+N3+N4:Nat):Int)):=by show _=_;omega
     go_enter Tryz.func65,Tryz.ntmps65;go_wp2_with fail;refine G0.mono ?_;rintro e w1 ⟨rfl,Aj⟩
     have Bf:Below w.heap.size w w1:=hB.trans (Aj.mono hB.size)
     replace q2:=aB q2 Aj;replace q3:=aB q3 Aj;replace q4:=aB q4 Aj;clear Aj G0 q0;have G1:=H2 w1 (k-(N0:Int)) Bf V6 V6
     simp only[aU (show(N2:Int)<=k-(N0:Int) by omega)]at G1
     clear H2;go_wp2_with fail;refine G1.mono ?_;rintro e w2 ⟨rfl,Ae⟩
     have hB2:Below w.heap.size w w2:=Bf.trans (Ae.mono Bf.size)
     replace q3:=aB q3 Ae;replace q4:=aB q4 Ae;clear Ae G1 q2;have G2:=H3 w2 (k-(N0:Int)-(N2:Int)) hB2 V6 V6
     simp only[aU (show(N3:Int)<=k-(N0:Int)-(N2:Int) by omega)]at G2
     clear H3;go_wp2_with fail;refine G2.mono ?_;rintro e w3 ⟨rfl,Bj⟩
     have hB3:Below w.heap.size w w3:=hB2.trans (Bj.mono hB2.size)
     replace q4:=aB q4 Bj;clear Bj G2 q3;have G3:=H4 w3 (k-(N0:Int)-(N2:Int)-(N3:Int)) hB3 V6 V6
     simp only[aU (show(N4:Int)<=k-(N0:Int)-(N2:Int)-(N3:Int) by omega)]at G3
     clear H4;go_wp2_with fail;refine G3.mono ?_;rintro e w4 ⟨rfl,hb4⟩
     have hB4:Below w.heap.size w w4:=hB3.trans (hb4.mono hB3.size)
     clear hb4 G3 q4;exact U109
    .
     have g0:¬(k-(N0:Int)<0):=V6;have g1:¬(k-(N0:Int)-(N2:Int)<0):=V6;have g2:¬(k-(N0:Int)-(N2:Int)-(N3:Int)<0):=V6;have G0:=H0 _ (k) hB hk hk2
     simp only[aU (show(N0:Int)<=k by omega)]at G0
     clear H0;go_enter Tryz.func65,Tryz.ntmps65;go_wp2_with fail;refine G0.mono ?_;rintro e w1 ⟨rfl,Aj⟩
     have Bf:Below w.heap.size w w1:=hB.trans (Aj.mono hB.size)
     replace q2:=aB q2 Aj;replace q3:=aB q3 Aj;replace q4:=aB q4 Aj;clear Aj G0 q0;have G1:=H2 w1 (k-(N0:Int)) Bf V6 V6
     simp only[aU (show(N2:Int)<=k-(N0:Int) by omega)]at G1
     clear H2;go_wp2_with fail;refine G1.mono ?_;rintro e w2 ⟨rfl,Ae⟩
     have hB2:Below w.heap.size w w2:=Bf.trans (Ae.mono Bf.size)
     replace q3:=aB q3 Ae;replace q4:=aB q4 Ae;clear Ae G1 q2;have G2:=H3 w2 (k-(N0:Int)-(N2:Int)) hB2 V6 V6
     simp only[aU (show(N3:Int)<=k-(N0:Int)-(N2:Int) by omega)]at G2
     clear H3;go_wp2_with fail;refine G2.mono ?_;rintro e w3 ⟨rfl,Bj⟩
     have hB3:Below w.heap.size w w3:=hB2.trans (Bj.mono hB2.size)
     replace q4:=aB q4 Bj;clear Bj G2 q3;have G3:=H4 w3 (k-(N0:Int)-(N2:Int)-(N3:Int)) hB3 V6 V6
     simp only[bM (show ¬(N4:Int)<=k-(N0:Int)-(N2:Int)-(N3:Int) by omega)]at G3
     clear H4;go_wp2_with fail;refine G3.mono ?_;rintro e w4 ⟨rfl,hb4⟩
     have hB4:Below w.heap.size w w4:=hB3.trans (hb4.mono hB3.size)
     clear hb4 G3 q4;exact U128
   .
    have g0:¬(k-(N0:Int)<0):=V6;have g1:¬(k-(N0:Int)-(N2:Int)<0):=V6;have G0:=H0 _ (k) hB hk hk2
    simp only[aU (show(N0:Int)<=k by omega)]at G0
    clear H0;go_enter Tryz.func65,Tryz.ntmps65;go_wp2_with fail;refine G0.mono ?_;rintro e w1 ⟨rfl,Aj⟩
    have Bf:Below w.heap.size w w1:=hB.trans (Aj.mono hB.size)
    replace q2:=aB q2 Aj;replace q3:=aB q3 Aj;replace q4:=aB q4 Aj;clear Aj G0 q0;have G1:=H2 w1 (k-(N0:Int)) Bf V6 V6
    simp only[aU (show(N2:Int)<=k-(N0:Int) by omega)]at G1
    clear H2;go_wp2_with fail;refine G1.mono ?_;rintro e w2 ⟨rfl,Ae⟩
    have hB2:Below w.heap.size w w2:=Bf.trans (Ae.mono Bf.size)
    replace q3:=aB q3 Ae;replace q4:=aB q4 Ae;clear Ae G1 q2;have G2:=H3 w2 (k-(N0:Int)-(N2:Int)) hB2 V6 V6
    simp only[bM (show ¬(N3:Int)<=k-(N0:Int)-(N2:Int) by omega)]at G2
    clear H3;go_wp2_with fail;refine G2.mono ?_;rintro e w3 ⟨rfl,Bj⟩
    have hB3:Below w.heap.size w w3:=hB2.trans (Bj.mono hB2.size)
    replace q4:=aB q4 Bj;clear Bj G2 q3;exact U100
  .
   have g0:¬(k-(N0:Int)<0):=V6;have G0:=H0 _ (k) hB hk hk2
   simp only[aU (show(N0:Int)<=k by omega)]at G0
   clear H0;go_enter Tryz.func65,Tryz.ntmps65;go_wp2_with fail;refine G0.mono ?_;rintro e w1 ⟨rfl,Aj⟩
   have Bf:Below w.heap.size w w1:=hB.trans (Aj.mono hB.size)
   replace q2:=aB q2 Aj;replace q3:=aB q3 Aj;replace q4:=aB q4 Aj;clear Aj G0 q0;have G1:=H2 w1 (k-(N0:Int)) Bf V6 V6
   simp only[bM (show ¬(N2:Int)<=k-(N0:Int) by omega)]at G1
   clear H2;go_wp2_with fail;refine G1.mono ?_;rintro e w2 ⟨rfl,Ae⟩
   have hB2:Below w.heap.size w w2:=Bf.trans (Ae.mono Bf.size)
   replace q3:=aB q3 Ae;replace q4:=aB q4 Ae;clear Ae G1 q2;exact U74
 .
  have G0:=H0 _ (k) hB hk hk2
  simp only[bM (show ¬(N0:Int)<=k by omega)]at G0
  clear H0;go_enter Tryz.func65,Tryz.ntmps65;go_wp2_with fail;refine G0.mono ?_;rintro e w1 ⟨rfl,Aj⟩
  have Bf:Below w.heap.size w w1:=hB.trans (Aj.mono hB.size)
  replace q2:=aB q2 Aj;replace q3:=aB q3 Aj;replace q4:=aB q4 Aj;clear Aj G0 q0;exact U56
theorem tX (a0:Option Addr)(n0 c0:Nat)(a1:Option Addr)(n1 c1:Nat)(N0:Nat)(N1:Nat)(k:Int)(w:World)(hk:0<=k)(hk2:k<=1048576)
  (H0:SzV w 18 (.slice a0 n0 c0) N0) (H1:SzV w 168 (.slice a1 n1 c1) N1):
  Calls Tryz.prog 118 #[.agg #[.slice a0 n0 c0,.slice a1 n1 c1],.int .i64 k] w fun e w'=>e=.returned (.int .i64 (szL k (N0+N1)))/\Below w.heap.size w w':=by
 have hB:Below w.heap.size w (w.alloc (.cells #[.slice a0 n0 c0,.slice a1 n1 c1] 177 (0,0))):=(Below.refl _ _).alloc (Nat.le_refl _) _
 have q0:=aN w 177 #[.slice a0 n0 c0,.slice a1 n1 c1] 0 _ rfl;have q1:=aN w 177 #[.slice a0 n0 c0,.slice a1 n1 c1] 1 _ rfl
 by_cases e0:(N0:Int)<=k
 .
  by_cases e1:(N1:Int)<=k-(N0:Int)
  .
   have g0:¬(k-(N0:Int)<0):=V6;have g1:¬(k-(N0:Int)-(N1:Int)<0):=V6;have G0:=H0 _ (k) hB hk hk2
   simp only[aU (show(N0:Int)<=k by omega)]at G0
   clear H0
   have HE:Hid (k-(N0:Int)-(N1:Int)=k-((N0+N1:Nat):Int)):=by show _=_;omega
   go_enter Tryz.func118,Tryz.ntmps118;exact U48
  .
   have g0:¬(k-(N0:Int)<0):=V6;have G0:=H0 _ (k) hB hk hk2
   simp only[aU (show(N0:Int)<=k by omega)]at G0
   clear H0;go_enter Tryz.func118,Tryz.ntmps118;exact U49
 .
  have G0:=H0 _ (k) hB hk hk2
  simp only[bM (show ¬(N0:Int)<=k by omega)]at G0
  clear H0;go_enter Tryz.func118,Tryz.ntmps118;go_wp2_with fail;refine G0.mono ?_;rintro e w1 ⟨rfl,Aj⟩
  have Bf:Below w.heap.size w w1:=hB.trans (Aj.mono hB.size)
  replace q1:=aB q1 Aj;clear Aj G0 q0;exact U56
theorem aHl (a0:Option Addr)(n0 c0:Nat)(a1:Option Addr)(n1 c1:Nat)(N0:Nat)(N1:Nat)(k:Int)(w:World)(hk:0<=k)(hk2:k<=1048576)
  (H0:SzV w 18 (.slice a0 n0 c0) N0) (H1:SzV w 66 (.slice a1 n1 c1) N1):
  Calls Tryz.prog 22 #[.agg #[.slice a0 n0 c0,.slice a1 n1 c1],.int .i64 k] w fun e w'=>e=.returned (.int .i64 (szL k (N0+N1)))/\Below w.heap.size w w':=by
 have hB:Below w.heap.size w (w.alloc (.cells #[.slice a0 n0 c0,.slice a1 n1 c1] 62 (0,0))):=(Below.refl _ _).alloc (Nat.le_refl _) _
 have q0:=aN w 62 #[.slice a0 n0 c0,.slice a1 n1 c1] 0 _ rfl;have q1:=aN w 62 #[.slice a0 n0 c0,.slice a1 n1 c1] 1 _ rfl
 by_cases e0:(N0:Int)<=k
 .
  by_cases e1:(N1:Int)<=k-(N0:Int)
  .
   have g0:¬(k-(N0:Int)<0):=V6;have g1:¬(k-(N0:Int)-(N1:Int)<0):=V6;have G0:=H0 _ (k) hB hk hk2
   simp only[aU (show(N0:Int)<=k by omega)]at G0
   clear H0
   have HE:Hid (k-(N0:Int)-(N1:Int)=k-((N0+N1:Nat):Int)):=by show _=_;omega
   go_enter Tryz.func22,Tryz.ntmps22;exact U48
  .
   have g0:¬(k-(N0:Int)<0):=V6;have G0:=H0 _ (k) hB hk hk2
   simp only[aU (show(N0:Int)<=k by omega)]at G0
   clear H0;go_enter Tryz.func22,Tryz.ntmps22;exact U49
 .
  have G0:=H0 _ (k) hB hk hk2
  simp only[bM (show ¬(N0:Int)<=k by omega)]at G0
  clear H0;go_enter Tryz.func22,Tryz.ntmps22;go_wp2_with fail;refine G0.mono ?_;rintro e w1 ⟨rfl,Aj⟩
  have Bf:Below w.heap.size w w1:=hB.trans (Aj.mono hB.size)
  replace q1:=aB q1 Aj;clear Aj G0 q0;exact U56
theorem aAz (a0:Option Addr)(n0 c0:Nat)(a1:Option Addr)(n1 c1:Nat)(a2:Option Addr)(n2 c2:Nat)(a3:Option Addr)(n3 c3:Nat)(N0:Nat)(N1:Nat)(N2:Nat)(N3:Nat)(k:Int)(w:World)(hk:0<=k)(hk2:k<=1048576)
  (H0:SzV w 18 (.slice a0 n0 c0) N0) (H1:SzV w 19 (.slice a1 n1 c1) N1) (H2:SzV w 20 (.slice a2 n2 c2) N2) (H3:SzV w 21 (.slice a3 n3 c3) N3):
  Calls Tryz.prog 5 #[.agg #[.slice a0 n0 c0,.slice a1 n1 c1,.slice a2 n2 c2,.slice a3 n3 c3],.int .i64 k] w fun e w'=>e=.returned (.int .i64 (szL k (N0+N1+N2+N3)))/\Below w.heap.size w w':=by
 have hB:Below w.heap.size w (w.alloc (.cells #[.slice a0 n0 c0,.slice a1 n1 c1,.slice a2 n2 c2,.slice a3 n3 c3] 27 (0,0))):=(Below.refl _ _).alloc (Nat.le_refl _) _
 have q0:=aN w 27 #[.slice a0 n0 c0,.slice a1 n1 c1,.slice a2 n2 c2,.slice a3 n3 c3] 0 _ rfl;have q1:=aN w 27 #[.slice a0 n0 c0,.slice a1 n1 c1,.slice a2 n2 c2,.slice a3 n3 c3] 1 _ rfl;have q2:=aN w 27 #[.slice a0 n0 c0,.slice a1 n1 c1,.slice a2 n2 c2,.slice a3 n3 c3] 2 _ rfl;have q3:=aN w 27 #[.slice a0 n0 c0,.slice a1 n1 c1,.slice a2 n2 c2,.slice a3 n3 c3] 3 _ rfl
 by_cases e0:(N0:Int)<=k
 .
  by_cases e1:(N1:Int)<=k-(N0:Int)
  .
   by_cases e2:(N2:Int)<=k-(N0:Int)-(N1:Int)
   .
    by_cases e3:(N3:Int)<=k-(N0:Int)-(N1:Int)-(N2:Int)
    .
     have g0:¬(k-(N0:Int)<0):=V6;have g1:¬(k-(N0:Int)-(N1:Int)<0):=V6;have g2:¬(k-(N0:Int)-(N1:Int)-(N2:Int)<0):=V6;have g3:¬(k-(N0:Int)-(N1:Int)-(N2:Int)-(N3:Int)<0):=V6;have G0:=H0 _ (k) hB hk hk2
     simp only[aU (show(N0:Int)<=k by omega)]at G0
     clear H0
     have HE:Hid (k-(N0:Int)-(N1:Int)-(N2:Int)-(N3:Int)=k-((N0+N1+N2+N3:Nat):Int)):=by show _=_;omega
     go_enter Tryz.func5,Tryz.ntmps5;go_wp2_with fail;refine G0.mono ?_;rintro e w1 ⟨rfl,Aj⟩
     have Bf:Below w.heap.size w w1:=hB.trans (Aj.mono hB.size)
     replace q1:=aB q1 Aj;replace q2:=aB q2 Aj;replace q3:=aB q3 Aj;clear Aj G0 q0;have G1:=H1 w1 (k-(N0:Int)) Bf V6 V6
     simp only[aU (show(N1:Int)<=k-(N0:Int) by omega)]at G1
     clear H1;go_wp2_with fail;refine G1.mono ?_;rintro e w2 ⟨rfl,Ae⟩
     have hB2:Below w.heap.size w w2:=Bf.trans (Ae.mono Bf.size)
     replace q2:=aB q2 Ae;replace q3:=aB q3 Ae;clear Ae G1 q1;have G2:=H2 w2 (k-(N0:Int)-(N1:Int)) hB2 V6 V6
     simp only[aU (show(N2:Int)<=k-(N0:Int)-(N1:Int) by omega)]at G2
     clear H2;go_wp2_with fail;refine G2.mono ?_;rintro e w3 ⟨rfl,Bj⟩
     have hB3:Below w.heap.size w w3:=hB2.trans (Bj.mono hB2.size)
     replace q3:=aB q3 Bj;clear Bj G2 q2;have G3:=H3 w3 (k-(N0:Int)-(N1:Int)-(N2:Int)) hB3 V6 V6
     simp only[aU (show(N3:Int)<=k-(N0:Int)-(N1:Int)-(N2:Int) by omega)]at G3
     clear H3;go_wp2_with fail;refine G3.mono ?_;rintro e w4 ⟨rfl,hb4⟩
     have hB4:Below w.heap.size w w4:=hB3.trans (hb4.mono hB3.size)
     clear hb4 G3 q3;exact U109
    .
     have g0:¬(k-(N0:Int)<0):=V6;have g1:¬(k-(N0:Int)-(N1:Int)<0):=V6;have g2:¬(k-(N0:Int)-(N1:Int)-(N2:Int)<0):=V6;have G0:=H0 _ (k) hB hk hk2
     simp only[aU (show(N0:Int)<=k by omega)]at G0
     clear H0;go_enter Tryz.func5,Tryz.ntmps5;go_wp2_with fail;refine G0.mono ?_;rintro e w1 ⟨rfl,Aj⟩
     have Bf:Below w.heap.size w w1:=hB.trans (Aj.mono hB.size)
     replace q1:=aB q1 Aj;replace q2:=aB q2 Aj;replace q3:=aB q3 Aj;clear Aj G0 q0;have G1:=H1 w1 (k-(N0:Int)) Bf V6 V6
     simp only[aU (show(N1:Int)<=k-(N0:Int) by omega)]at G1
     clear H1;go_wp2_with fail;refine G1.mono ?_;rintro e w2 ⟨rfl,Ae⟩
     have hB2:Below w.heap.size w w2:=Bf.trans (Ae.mono Bf.size)
     replace q2:=aB q2 Ae;replace q3:=aB q3 Ae;clear Ae G1 q1;have G2:=H2 w2 (k-(N0:Int)-(N1:Int)) hB2 V6 V6
     simp only[aU (show(N2:Int)<=k-(N0:Int)-(N1:Int) by omega)]at G2
     clear H2;go_wp2_with fail;refine G2.mono ?_;rintro e w3 ⟨rfl,Bj⟩
     have hB3:Below w.heap.size w w3:=hB2.trans (Bj.mono hB2.size)
     replace q3:=aB q3 Bj;clear Bj G2 q2;have G3:=H3 w3 (k-(N0:Int)-(N1:Int)-(N2:Int)) hB3 V6 V6
     simp only[bM (show ¬(N3:Int)<=k-(N0:Int)-(N1:Int)-(N2:Int) by omega)]at G3
     clear H3;go_wp2_with fail;refine G3.mono ?_;rintro e w4 ⟨rfl,hb4⟩
     have hB4:Below w.heap.size w w4:=hB3.trans (hb4.mono hB3.size)
     clear hb4 G3 q3;exact U128
   .
    have g0:¬(k-(N0:Int)<0):=V6;have g1:¬(k-(N0:Int)-(N1:Int)<0):=V6;have G0:=H0 _ (k) hB hk hk2
    simp only[aU (show(N0:Int)<=k by omega)]at G0
    clear H0;go_enter Tryz.func5,Tryz.ntmps5;go_wp2_with fail;refine G0.mono ?_;rintro e w1 ⟨rfl,Aj⟩
    have Bf:Below w.heap.size w w1:=hB.trans (Aj.mono hB.size)
    replace q1:=aB q1 Aj;replace q2:=aB q2 Aj;replace q3:=aB q3 Aj;clear Aj G0 q0;have G1:=H1 w1 (k-(N0:Int)) Bf V6 V6
    simp only[aU (show(N1:Int)<=k-(N0:Int) by omega)]at G1
    clear H1;go_wp2_with fail;refine G1.mono ?_;rintro e w2 ⟨rfl,Ae⟩
    have hB2:Below w.heap.size w w2:=Bf.trans (Ae.mono Bf.size)
    replace q2:=aB q2 Ae;replace q3:=aB q3 Ae;clear Ae G1 q1;have G2:=H2 w2 (k-(N0:Int)-(N1:Int)) hB2 V6 V6
    simp only[bM (show ¬(N2:Int)<=k-(N0:Int)-(N1:Int) by omega)]at G2
    clear H2;go_wp2_with fail;refine G2.mono ?_;rintro e w3 ⟨rfl,Bj⟩
    have hB3:Below w.heap.size w w3:=hB2.trans (Bj.mono hB2.size)
    replace q3:=aB q3 Bj;clear Bj G2 q2;exact U100
  .
   have g0:¬(k-(N0:Int)<0):=V6;have G0:=H0 _ (k) hB hk hk2
   simp only[aU (show(N0:Int)<=k by omega)]at G0
   clear H0;go_enter Tryz.func5,Tryz.ntmps5;go_wp2_with fail;refine G0.mono ?_;rintro e w1 ⟨rfl,Aj⟩
   have Bf:Below w.heap.size w w1:=hB.trans (Aj.mono hB.size)
   replace q1:=aB q1 Aj;replace q2:=aB q2 Aj;replace q3:=aB q3 Aj;clear Aj G0 q0;have G1:=H1 w1 (k-(N0:Int)) Bf V6 V6
   simp only[bM (show ¬(N1:Int)<=k-(N0:Int) by omega)]at G1
   clear H1;go_wp2_with fail;refine G1.mono ?_;rintro e w2 ⟨rfl,Ae⟩
   have hB2:Below w.heap.size w w2:=Bf.trans (Ae.mono Bf.size)
   replace q2:=aB q2 Ae;replace q3:=aB q3 Ae;clear Ae G1 q1;exact U74
 .
  have G0:=H0 _ (k) hB hk hk2
  simp only[bM (show ¬(N0:Int)<=k by omega)]at G0
  clear H0;go_enter Tryz.func5,Tryz.ntmps5;go_wp2_with fail;refine G0.mono ?_;rintro e w1 ⟨rfl,Aj⟩
  have Bf:Below w.heap.size w w1:=hB.trans (Aj.mono hB.size)
  replace q1:=aB q1 Aj;replace q2:=aB q2 Aj;replace q3:=aB q3 Aj;clear Aj G0 q0;exact U56
theorem aHf (l:List Va)(H:∀x ∈ l,SzR 64 x.fl):SzF 20 (.l 2 (l.map Va.fl)):=by
 intro w0 v hv w k Ar hk hk2;obtain⟨a,c,rfl,Ao⟩:=(hv.below Ar).list;clear hv Ar
 have hm:(l.map Va.fl).length=l.length:=by simp[aJ,aM,bH]
 have Ap:∀j,j<l.length->∃x ∈ l,(l.map Va.fl)[j]?=some (Va.fl x):=by
  exact U9
 generalize hrs:l.map Va.fl=rs at Ao hm Ap ⊢;clear hrs
 have hlen:(Fl.l 2 rs).len=rs.length+aF rs:=by simp[Fl.len]
 rw[hlen];clear hlen;rw[<-hm]at Ap;generalize hn:rs.length=n at Ao Ap ⊢;clear hm
 have hcn:n<=9223372036854775807:=by have h1:=Ao.cap;have h2:=Ao.most;unfold maxLen at h2;omega
 by_cases hnk:(n:Int)<=k
 .
  have h':¬(k-(n:Int)<0):=V6
  have Hd:Hid (rs.length=n):=hn
  have HL:Hid (aS w a c 2 rs):=Ao
  have HA:Hid (∀j,j<n->∃x ∈ l,rs[j]?=some (Va.fl x)):=Ap
  have HH:Hid (∀x ∈ l,SzR 64 x.fl):=H
  clear Ap H
  rcases Nat.eq_zero_or_pos n with h0|Am
  .
   subst h0;have e0:rs=[]:=List.eq_nil_of_length_eq_zero Hd.out;subst e0;rw[aU V53];clear Ao hn;have h1:¬(k<0):=V6;go_enter Tryz.func20,Tryz.ntmps20;exact U22
  .
   obtain⟨b,off,rfl⟩:=Ao.addr V19;clear Ao hn;go_enter Tryz.func20,Tryz.ntmps20;go_wp2_with fail
   go_loopw [1,5] (fun r i wr=>∃j:Nat,j<=n/\i=.int .i64 j/\∃rr:Int,r=.int .i64 rr/\0<=rr/\rr<=k/\Hid (rr=k-(n:Int)-(aF (rs.take j):Int))/\Below w.heap.size w wr) (fun _ i _=>n-(intOf i).toNat)
   case atStart=>exact⟨0,Nat.zero_le _,rfl,k-(n:Int),rfl,by omega,by omega,by show _=_;simp[aF],Below.refl _ _⟩
   case round=>
    obtain⟨j,hj,rfl,rr,rfl,hr0,hrk,hrr,Au⟩:=hrel
    by_cases Ai:j<n
    .
     obtain⟨x,hx,Ak⟩:=HA.out j Ai
     have HN:Hid _:=dO Ak
     have HT:Hid _:=dN rs (j+1)
     obtain⟨vs,Ad,Ab⟩:=((show aS w (some ⟨b,off,none⟩) c 2 rs from HL.out).below Au |>.el Ak).vals
     have HC:=HH.out x hx wr vs Ad;clear Ak;generalize hN:aH x.fl=N at HC HN;obtain⟨x0,x1⟩:=x;obtain⟨y0,_,rfl,⟨a0,c0,rfl,d0⟩,y1,_,rfl,rfl,rfl⟩:=Ad
     skip
     skip
     skip
     skip
     have q0:wr.cell? ⟨b,off+j*2,none⟩=some _:=Ab 0 _ rfl
     have q1:wr.cell? ⟨b,off+j*2+1,none⟩=some _:=Ab 1 _ rfl
     clear Ab d0 hx;exact U4
    .
     exact U19
 .
  rw[bM V6];have h':k-(n:Int)<0:=V6;clear Ao Ap H hn;go_enter Tryz.func20,Tryz.ntmps20;go_wp2;exact U37
theorem aAx (l:List Pa)(H:∀x ∈ l,SzR 166 x.fl):SzF 116 (.l 2 (l.map Pa.fl)):=by
 intro w0 v hv w k Ar hk hk2;obtain⟨a,c,rfl,Ao⟩:=(hv.below Ar).list;clear hv Ar
 have hm:(l.map Pa.fl).length=l.length:=by simp[aJ,aM,bH]
 have Ap:∀j,j<l.length->∃x ∈ l,(l.map Pa.fl)[j]?=some (Pa.fl x):=by
  exact U9
 generalize hrs:l.map Pa.fl=rs at Ao hm Ap ⊢;clear hrs
 have hlen:(Fl.l 2 rs).len=rs.length+aF rs:=by simp[Fl.len]
 rw[hlen];clear hlen;rw[<-hm]at Ap;generalize hn:rs.length=n at Ao Ap ⊢;clear hm
 have hcn:n<=9223372036854775807:=by have h1:=Ao.cap;have h2:=Ao.most;unfold maxLen at h2;omega
 by_cases hnk:(n:Int)<=k
 .
  have h':¬(k-(n:Int)<0):=V6
  have Hd:Hid (rs.length=n):=hn
  have HL:Hid (aS w a c 2 rs):=Ao
  have HA:Hid (∀j,j<n->∃x ∈ l,rs[j]?=some (Pa.fl x)):=Ap
  have HH:Hid (∀x ∈ l,SzR 166 x.fl):=H
  clear Ap H
  rcases Nat.eq_zero_or_pos n with h0|Am
  .
   subst h0;have e0:rs=[]:=List.eq_nil_of_length_eq_zero Hd.out;subst e0;rw[aU V53];clear Ao hn;have h1:¬(k<0):=V6;go_enter Tryz.func116,Tryz.ntmps116;exact U22
  .
   obtain⟨b,off,rfl⟩:=Ao.addr V19;clear Ao hn;go_enter Tryz.func116,Tryz.ntmps116;go_wp2_with fail
   go_loopw [1,5] (fun r i wr=>∃j:Nat,j<=n/\i=.int .i64 j/\∃rr:Int,r=.int .i64 rr/\0<=rr/\rr<=k/\Hid (rr=k-(n:Int)-(aF (rs.take j):Int))/\Below w.heap.size w wr) (fun _ i _=>n-(intOf i).toNat)
   case atStart=>exact⟨0,Nat.zero_le _,rfl,k-(n:Int),rfl,by omega,by omega,by show _=_;simp[aF],Below.refl _ _⟩
   case round=>
    obtain⟨j,hj,rfl,rr,rfl,hr0,hrk,hrr,Au⟩:=hrel
    by_cases Ai:j<n
    .
     obtain⟨x,hx,Ak⟩:=HA.out j Ai
     have HN:Hid _:=dO Ak
     have HT:Hid _:=dN rs (j+1)
     obtain⟨vs,Ad,Ab⟩:=((show aS w (some ⟨b,off,none⟩) c 2 rs from HL.out).below Au |>.el Ak).vals
     have HC:=HH.out x hx wr vs Ad;clear Ak;generalize hN:aH x.fl=N at HC HN;obtain⟨x0,x1⟩:=x;obtain⟨y0,_,rfl,⟨a0,c0,rfl,d0⟩,y1,_,rfl,rfl,rfl⟩:=Ad
     skip
     skip
     skip
     skip
     have q0:wr.cell? ⟨b,off+j*2,none⟩=some _:=Ab 0 _ rfl
     have q1:wr.cell? ⟨b,off+j*2+1,none⟩=some _:=Ab 1 _ rfl
     clear Ab d0 hx;exact U4
    .
     exact U19
 .
  rw[bM V6];have h':k-(n:Int)<0:=V6;clear Ao Ap H hn;go_enter Tryz.func116,Tryz.ntmps116;go_wp2;exact U37
theorem vQ (l:List Ex)(H:∀x ∈ l,SzR 228 x.fl):SzF 208 (.l 5 (exs l)):=by
 intro w0 v hv w k Ar hk hk2;obtain⟨a,c,rfl,Ao⟩:=(hv.below Ar).list;clear hv Ar
 have hm:(exs l).length=l.length:=by simp[aJ,aM,bH]
 have Ap:∀j,j<l.length->∃x ∈ l,(exs l)[j]?=some (Ex.fl x):=by
  exact U9
 generalize hrs:exs l=rs at Ao hm Ap ⊢;clear hrs
 have hlen:(Fl.l 5 rs).len=rs.length+aF rs:=by simp[Fl.len]
 rw[hlen];clear hlen;rw[<-hm]at Ap;generalize hn:rs.length=n at Ao Ap ⊢;clear hm
 have hcn:n<=9223372036854775807:=by have h1:=Ao.cap;have h2:=Ao.most;unfold maxLen at h2;omega
 by_cases hnk:(n:Int)<=k
 .
  have h':¬(k-(n:Int)<0):=V6
  have Hd:Hid (rs.length=n):=hn
  have HL:Hid (aS w a c 5 rs):=Ao
  have HA:Hid (∀j,j<n->∃x ∈ l,rs[j]?=some (Ex.fl x)):=Ap
  have HH:Hid (∀x ∈ l,SzR 228 x.fl):=H
  clear Ap H
  rcases Nat.eq_zero_or_pos n with h0|Am
  .
   subst h0;have e0:rs=[]:=List.eq_nil_of_length_eq_zero Hd.out;subst e0;rw[aU V53];clear Ao hn;have h1:¬(k<0):=V6;go_enter Tryz.func208,Tryz.ntmps208;exact U22
  .
   obtain⟨b,off,rfl⟩:=Ao.addr V19;clear Ao hn;go_enter Tryz.func208,Tryz.ntmps208;go_wp2_with fail
   go_loopw [1,5] (fun r i wr=>∃j:Nat,j<=n/\i=.int .i64 j/\∃rr:Int,r=.int .i64 rr/\0<=rr/\rr<=k/\Hid (rr=k-(n:Int)-(aF (rs.take j):Int))/\Below w.heap.size w wr) (fun _ i _=>n-(intOf i).toNat)
   case atStart=>exact⟨0,Nat.zero_le _,rfl,k-(n:Int),rfl,by omega,by omega,by show _=_;simp[aF],Below.refl _ _⟩
   case round=>
    obtain⟨j,hj,rfl,rr,rfl,hr0,hrk,hrr,Au⟩:=hrel
    by_cases Ai:j<n
    .
     obtain⟨x,hx,Ak⟩:=HA.out j Ai
     have HN:Hid _:=dO Ak
     have HT:Hid _:=dN rs (j+1)
     obtain⟨vs,Ad,Ab⟩:=((show aS w (some ⟨b,off,none⟩) c 5 rs from HL.out).below Au |>.el Ak).vals
     have HC:=HH.out x hx wr vs Ad;clear Ak;generalize hN:aH x.fl=N at HC HN;obtain⟨x0,x1,x2,x3,x4⟩:=x;obtain⟨y0,_,rfl,rfl,y1,_,rfl,rfl,y2,_,rfl,⟨a2,c2,rfl,d2⟩,y3,_,rfl,⟨a3,c3,rfl,d3⟩,y4,_,rfl,⟨a4,c4,rfl,d4⟩,rfl⟩:=Ad
     skip
     skip
     skip
     skip
     have q0:wr.cell? ⟨b,off+j*5,none⟩=some _:=Ab 0 _ rfl
     have q1:wr.cell? ⟨b,off+j*5+1,none⟩=some _:=Ab 1 _ rfl
     have q2:wr.cell? ⟨b,off+j*5+2,none⟩=some _:=Ab 2 _ rfl
     have q3:wr.cell? ⟨b,off+j*5+3,none⟩=some _:=Ab 3 _ rfl
     have q4:wr.cell? ⟨b,off+j*5+4,none⟩=some _:=Ab 4 _ rfl
     clear Ab d2 d3 d4 hx;clear hN;replace HC:=HC wr rr (Below.refl _ _) hr0 V6
     by_cases hxr:(N:Int)<=rr
     .
      simp only[aU hxr]at HC;have hx':¬(rr-(N:Int)<0):=V6;go_wp2_with fail;refine HC.mono ?_;rintro e w2 ⟨rfl,Ae⟩
      have hbw:Below w.heap.size w w2:=Au.trans (Ae.mono Au.size)
      clear q0 q1 q2 q3 q4 HC Ae;exact U13
     .
      simp only[bM hxr]at HC;go_wp2_with fail;refine HC.mono ?_;rintro e w2 ⟨rfl,Ae⟩
      have hbw:Below w.heap.size w w2:=Au.trans (Ae.mono Au.size)
      clear q0 q1 q2 q3 q4 HC Ae;exact U17
    .
     exact U19
 .
  rw[bM V6];have h':k-(n:Int)<0:=V6;clear Ao Ap H hn;go_enter Tryz.func208,Tryz.ntmps208;go_wp2;exact U37
theorem qK (l:List St)(H:∀x ∈ l,SzR 167 x.fl):SzF 117 (.l 6 (sts l)):=by
 intro w0 v hv w k Ar hk hk2;obtain⟨a,c,rfl,Ao⟩:=(hv.below Ar).list;clear hv Ar
 have hm:(sts l).length=l.length:=by simp[aJ,aM,bH]
 have Ap:∀j,j<l.length->∃x ∈ l,(sts l)[j]?=some (St.fl x):=by
  exact U9
 generalize hrs:sts l=rs at Ao hm Ap ⊢;clear hrs
 have hlen:(Fl.l 6 rs).len=rs.length+aF rs:=by simp[Fl.len]
 rw[hlen];clear hlen;rw[<-hm]at Ap;generalize hn:rs.length=n at Ao Ap ⊢;clear hm
 have hcn:n<=9223372036854775807:=by have h1:=Ao.cap;have h2:=Ao.most;unfold maxLen at h2;omega
 by_cases hnk:(n:Int)<=k
 .
  have h':¬(k-(n:Int)<0):=V6
  have Hd:Hid (rs.length=n):=hn
  have HL:Hid (aS w a c 6 rs):=Ao
  have HA:Hid (∀j,j<n->∃x ∈ l,rs[j]?=some (St.fl x)):=Ap
  have HH:Hid (∀x ∈ l,SzR 167 x.fl):=H
  clear Ap H
  rcases Nat.eq_zero_or_pos n with h0|Am
  .
   subst h0;have e0:rs=[]:=List.eq_nil_of_length_eq_zero Hd.out;subst e0;rw[aU V53];clear Ao hn;have h1:¬(k<0):=V6;go_enter Tryz.func117,Tryz.ntmps117;exact U22
  .
   obtain⟨b,off,rfl⟩:=Ao.addr V19;clear Ao hn;go_enter Tryz.func117,Tryz.ntmps117;go_wp2_with fail
   go_loopw [1,5] (fun r i wr=>∃j:Nat,j<=n/\i=.int .i64 j/\∃rr:Int,r=.int .i64 rr/\0<=rr/\rr<=k/\Hid (rr=k-(n:Int)-(aF (rs.take j):Int))/\Below w.heap.size w wr) (fun _ i _=>n-(intOf i).toNat)
   case atStart=>exact⟨0,Nat.zero_le _,rfl,k-(n:Int),rfl,by omega,by omega,by show _=_;simp[aF],Below.refl _ _⟩
   case round=>
    obtain⟨j,hj,rfl,rr,rfl,hr0,hrk,hrr,Au⟩:=hrel
    by_cases Ai:j<n
    .
     obtain⟨x,hx,Ak⟩:=HA.out j Ai
     have HN:Hid _:=dO Ak
     have HT:Hid _:=dN rs (j+1)
     obtain⟨vs,Ad,Ab⟩:=((show aS w (some ⟨b,off,none⟩) c 6 rs from HL.out).below Au |>.el Ak).vals
     have HC:=HH.out x hx wr vs Ad;clear Ak;generalize hN:aH x.fl=N at HC HN;obtain⟨x0,x1,x2,x3,x4,x5⟩:=x;obtain⟨y0,_,rfl,rfl,y1,_,rfl,rfl,y2,_,rfl,⟨a2,c2,rfl,d2⟩,y3,_,rfl,⟨a3,c3,rfl,d3⟩,y4,_,rfl,⟨a4,c4,rfl,d4⟩,y5,_,rfl,⟨a5,c5,rfl,d5⟩,rfl⟩:=Ad
     skip
     skip
     skip
     skip
     have q0:wr.cell? ⟨b,off+j*6,none⟩=some _:=Ab 0 _ rfl
     have q1:wr.cell? ⟨b,off+j*6+1,none⟩=some _:=Ab 1 _ rfl
     have q2:wr.cell? ⟨b,off+j*6+2,none⟩=some _:=Ab 2 _ rfl
     have q3:wr.cell? ⟨b,off+j*6+3,none⟩=some _:=Ab 3 _ rfl
     have q4:wr.cell? ⟨b,off+j*6+4,none⟩=some _:=Ab 4 _ rfl
     have q5:wr.cell? ⟨b,off+j*6+5,none⟩=some _:=Ab 5 _ rfl
     clear Ab d2 d3 d4 d5 hx;clear hN;replace HC:=HC wr rr (Below.refl _ _) hr0 V6
     by_cases hxr:(N:Int)<=rr
     .
      simp only[aU hxr]at HC;have hx':¬(rr-(N:Int)<0):=V6;go_wp2_with fail;refine HC.mono ?_;rintro e w2 ⟨rfl,Ae⟩
      have hbw:Below w.heap.size w w2:=Au.trans (Ae.mono Au.size)
      clear q0 q1 q2 q3 q4 q5 HC Ae;exact U13
     .
      simp only[bM hxr]at HC;go_wp2_with fail;refine HC.mono ?_;rintro e w2 ⟨rfl,Ae⟩
      have hbw:Below w.heap.size w w2:=Au.trans (Ae.mono Au.size)
      clear q0 q1 q2 q3 q4 q5 HC Ae;exact U17
    .
     exact U19
 .
  rw[bM V6];have h':k-(n:Int)<0:=V6;clear Ao Ap H hn;go_enter Tryz.func117,Tryz.ntmps117;go_wp2;exact U37
theorem aD5 (l:List Pr)(H:∀x ∈ l,SzR 65 x.fl):SzF 21 (.l 5 (l.map Pr.fl)):=by
 intro w0 v hv w k Ar hk hk2;obtain⟨a,c,rfl,Ao⟩:=(hv.below Ar).list;clear hv Ar
 have hm:(l.map Pr.fl).length=l.length:=by simp[aJ,aM,bH]
 have Ap:∀j,j<l.length->∃x ∈ l,(l.map Pr.fl)[j]?=some (Pr.fl x):=by
  exact U9
 generalize hrs:l.map Pr.fl=rs at Ao hm Ap ⊢;clear hrs
 have hlen:(Fl.l 5 rs).len=rs.length+aF rs:=by simp[Fl.len]
 rw[hlen];clear hlen;rw[<-hm]at Ap;generalize hn:rs.length=n at Ao Ap ⊢;clear hm
 have hcn:n<=9223372036854775807:=by have h1:=Ao.cap;have h2:=Ao.most;unfold maxLen at h2;omega
 by_cases hnk:(n:Int)<=k
 .
  have h':¬(k-(n:Int)<0):=V6
  have Hd:Hid (rs.length=n):=hn
  have HL:Hid (aS w a c 5 rs):=Ao
  have HA:Hid (∀j,j<n->∃x ∈ l,rs[j]?=some (Pr.fl x)):=Ap
  have HH:Hid (∀x ∈ l,SzR 65 x.fl):=H
  clear Ap H
  rcases Nat.eq_zero_or_pos n with h0|Am
  .
   subst h0;have e0:rs=[]:=List.eq_nil_of_length_eq_zero Hd.out;subst e0;rw[aU V53];clear Ao hn;have h1:¬(k<0):=V6;go_enter Tryz.func21,Tryz.ntmps21;exact U22
  .
   obtain⟨b,off,rfl⟩:=Ao.addr V19;clear Ao hn;go_enter Tryz.func21,Tryz.ntmps21;go_wp2_with fail
   go_loopw [1,5] (fun r i wr=>∃j:Nat,j<=n/\i=.int .i64 j/\∃rr:Int,r=.int .i64 rr/\0<=rr/\rr<=k/\Hid (rr=k-(n:Int)-(aF (rs.take j):Int))/\Below w.heap.size w wr) (fun _ i _=>n-(intOf i).toNat)
   case atStart=>exact⟨0,Nat.zero_le _,rfl,k-(n:Int),rfl,by omega,by omega,by show _=_;simp[aF],Below.refl _ _⟩
   case round=>
    obtain⟨j,hj,rfl,rr,rfl,hr0,hrk,hrr,Au⟩:=hrel
    by_cases Ai:j<n
    .
     obtain⟨x,hx,Ak⟩:=HA.out j Ai
     have HN:Hid _:=dO Ak
     have HT:Hid _:=dN rs (j+1)
     obtain⟨vs,Ad,Ab⟩:=((show aS w (some ⟨b,off,none⟩) c 5 rs from HL.out).below Au |>.el Ak).vals
     have HC:=HH.out x hx wr vs Ad;clear Ak;generalize hN:aH x.fl=N at HC HN;obtain⟨x0,x1,x2,x3,x4⟩:=x;obtain⟨y0,_,rfl,⟨a0,c0,rfl,d0⟩,y1,_,rfl,rfl,y2,_,rfl,⟨a2,c2,rfl,d2⟩,y3,_,rfl,⟨a3,c3,rfl,d3⟩,y4,_,rfl,⟨a4,c4,rfl,d4⟩,rfl⟩:=Ad
     skip
     skip
     skip
     generalize (List.map Pa.fl x2).length=m2 at HC Ab;generalize (bH x3).length=m3 at HC Ab;generalize (sts x4).length=m4 at HC Ab
     have q0:wr.cell? ⟨b,off+j*5,none⟩=some _:=Ab 0 _ rfl
     have q1:wr.cell? ⟨b,off+j*5+1,none⟩=some _:=Ab 1 _ rfl
     have q2:wr.cell? ⟨b,off+j*5+2,none⟩=some _:=Ab 2 _ rfl
     have q3:wr.cell? ⟨b,off+j*5+3,none⟩=some _:=Ab 3 _ rfl
     have q4:wr.cell? ⟨b,off+j*5+4,none⟩=some _:=Ab 4 _ rfl
     clear Ab d0 d2 d3 d4 hx;clear hN;replace HC:=HC wr rr (Below.refl _ _) hr0 V6
     by_cases hxr:(N:Int)<=rr
     .
      simp only[aU hxr]at HC;have hx':¬(rr-(N:Int)<0):=V6;go_wp2_with fail;refine HC.mono ?_;rintro e w2 ⟨rfl,Ae⟩
      have hbw:Below w.heap.size w w2:=Au.trans (Ae.mono Au.size)
      clear q0 q1 q2 q3 q4 HC Ae;exact U13
     .
      simp only[bM hxr]at HC;go_wp2_with fail;refine HC.mono ?_;rintro e w2 ⟨rfl,Ae⟩
      have hbw:Below w.heap.size w w2:=Au.trans (Ae.mono Au.size)
      clear q0 q1 q2 q3 q4 HC Ae;exact U17
    .
     exact U19
 .
  rw[bM V6];have h':k-(n:Int)<0:=V6;clear Ao Ap H hn;go_enter Tryz.func21,Tryz.ntmps21;go_wp2;exact U37
theorem sA (l:List Fp)(H:∀x ∈ l,SzR 118 x.fl):SzF 66 (.l 2 (l.map Fp.fl)):=by
 intro w0 v hv w k Ar hk hk2;obtain⟨a,c,rfl,Ao⟩:=(hv.below Ar).list;clear hv Ar
 have hm:(l.map Fp.fl).length=l.length:=by simp[aJ,aM,bH]
 have Ap:∀j,j<l.length->∃x ∈ l,(l.map Fp.fl)[j]?=some (Fp.fl x):=by
  exact U9
 generalize hrs:l.map Fp.fl=rs at Ao hm Ap ⊢;clear hrs
 have hlen:(Fl.l 2 rs).len=rs.length+aF rs:=by simp[Fl.len]
 rw[hlen];clear hlen;rw[<-hm]at Ap;generalize hn:rs.length=n at Ao Ap ⊢;clear hm
 have hcn:n<=9223372036854775807:=by have h1:=Ao.cap;have h2:=Ao.most;unfold maxLen at h2;omega
 by_cases hnk:(n:Int)<=k
 .
  have h':¬(k-(n:Int)<0):=V6
  have Hd:Hid (rs.length=n):=hn
  have HL:Hid (aS w a c 2 rs):=Ao
  have HA:Hid (∀j,j<n->∃x ∈ l,rs[j]?=some (Fp.fl x)):=Ap
  have HH:Hid (∀x ∈ l,SzR 118 x.fl):=H
  clear Ap H
  rcases Nat.eq_zero_or_pos n with h0|Am
  .
   subst h0;have e0:rs=[]:=List.eq_nil_of_length_eq_zero Hd.out;subst e0;rw[aU V53];clear Ao hn;have h1:¬(k<0):=V6;go_enter Tryz.func66,Tryz.ntmps66;exact U22
  .
   obtain⟨b,off,rfl⟩:=Ao.addr V19;clear Ao hn;go_enter Tryz.func66,Tryz.ntmps66;go_wp2_with fail
   go_loopw [1,5] (fun r i wr=>∃j:Nat,j<=n/\i=.int .i64 j/\∃rr:Int,r=.int .i64 rr/\0<=rr/\rr<=k/\Hid (rr=k-(n:Int)-(aF (rs.take j):Int))/\Below w.heap.size w wr) (fun _ i _=>n-(intOf i).toNat)
   case atStart=>exact⟨0,Nat.zero_le _,rfl,k-(n:Int),rfl,by omega,by omega,by show _=_;simp[aF],Below.refl _ _⟩
   case round=>
    obtain⟨j,hj,rfl,rr,rfl,hr0,hrk,hrr,Au⟩:=hrel
    by_cases Ai:j<n
    .
     obtain⟨x,hx,Ak⟩:=HA.out j Ai
     have HN:Hid _:=dO Ak
     have HT:Hid _:=dN rs (j+1)
     obtain⟨vs,Ad,Ab⟩:=((show aS w (some ⟨b,off,none⟩) c 2 rs from HL.out).below Au |>.el Ak).vals
     have HC:=HH.out x hx wr vs Ad;clear Ak;generalize hN:aH x.fl=N at HC HN;obtain⟨x0,x1⟩:=x;obtain⟨y0,_,rfl,⟨a0,c0,rfl,d0⟩,y1,_,rfl,⟨a1,c1,rfl,d1⟩,rfl⟩:=Ad
     skip
     skip
     skip
     skip
     have q0:wr.cell? ⟨b,off+j*2,none⟩=some _:=Ab 0 _ rfl
     have q1:wr.cell? ⟨b,off+j*2+1,none⟩=some _:=Ab 1 _ rfl
     clear Ab d0 d1 hx;exact U4
    .
     exact U19
 .
  rw[bM V6];have h':k-(n:Int)<0:=V6;clear Ao Ap H hn;go_enter Tryz.func66,Tryz.ntmps66;go_wp2;exact U37
theorem aD8 (l:List Fa)(H:∀x ∈ l,SzR 22 x.fl):SzF 6 (.l 2 (l.map Fa.fl)):=by
 intro w0 v hv w k Ar hk hk2;obtain⟨a,c,rfl,Ao⟩:=(hv.below Ar).list;clear hv Ar
 have hm:(l.map Fa.fl).length=l.length:=by simp[aJ,aM,bH]
 have Ap:∀j,j<l.length->∃x ∈ l,(l.map Fa.fl)[j]?=some (Fa.fl x):=by
  exact U9
 generalize hrs:l.map Fa.fl=rs at Ao hm Ap ⊢;clear hrs
 have hlen:(Fl.l 2 rs).len=rs.length+aF rs:=by simp[Fl.len]
 rw[hlen];clear hlen;rw[<-hm]at Ap;generalize hn:rs.length=n at Ao Ap ⊢;clear hm
 have hcn:n<=9223372036854775807:=by have h1:=Ao.cap;have h2:=Ao.most;unfold maxLen at h2;omega
 by_cases hnk:(n:Int)<=k
 .
  have h':¬(k-(n:Int)<0):=V6
  have Hd:Hid (rs.length=n):=hn
  have HL:Hid (aS w a c 2 rs):=Ao
  have HA:Hid (∀j,j<n->∃x ∈ l,rs[j]?=some (Fa.fl x)):=Ap
  have HH:Hid (∀x ∈ l,SzR 22 x.fl):=H
  clear Ap H
  rcases Nat.eq_zero_or_pos n with h0|Am
  .
   subst h0;have e0:rs=[]:=List.eq_nil_of_length_eq_zero Hd.out;subst e0;rw[aU V53];clear Ao hn;have h1:¬(k<0):=V6;go_enter Tryz.func6,Tryz.ntmps6;exact U22
  .
   obtain⟨b,off,rfl⟩:=Ao.addr V19;clear Ao hn;go_enter Tryz.func6,Tryz.ntmps6;go_wp2_with fail
   go_loopw [1,5] (fun r i wr=>∃j:Nat,j<=n/\i=.int .i64 j/\∃rr:Int,r=.int .i64 rr/\0<=rr/\rr<=k/\Hid (rr=k-(n:Int)-(aF (rs.take j):Int))/\Below w.heap.size w wr) (fun _ i _=>n-(intOf i).toNat)
   case atStart=>exact⟨0,Nat.zero_le _,rfl,k-(n:Int),rfl,by omega,by omega,by show _=_;simp[aF],Below.refl _ _⟩
   case round=>
    obtain⟨j,hj,rfl,rr,rfl,hr0,hrk,hrr,Au⟩:=hrel
    by_cases Ai:j<n
    .
     obtain⟨x,hx,Ak⟩:=HA.out j Ai
     have HN:Hid _:=dO Ak
     have HT:Hid _:=dN rs (j+1)
     obtain⟨vs,Ad,Ab⟩:=((show aS w (some ⟨b,off,none⟩) c 2 rs from HL.out).below Au |>.el Ak).vals
     have HC:=HH.out x hx wr vs Ad;clear Ak;generalize hN:aH x.fl=N at HC HN;obtain⟨x0,x1⟩:=x;obtain⟨y0,_,rfl,⟨a0,c0,rfl,d0⟩,y1,_,rfl,⟨a1,c1,rfl,d1⟩,rfl⟩:=Ad
     skip
     skip
     skip
     generalize (List.map Fp.fl x1).length=m1 at HC Ab
     have q0:wr.cell? ⟨b,off+j*2,none⟩=some _:=Ab 0 _ rfl
     have q1:wr.cell? ⟨b,off+j*2+1,none⟩=some _:=Ab 1 _ rfl
     clear Ab d0 d1 hx;exact U4
    .
     exact U19
 .
  rw[bM V6];have h':k-(n:Int)<0:=V6;clear Ao Ap H hn;go_enter Tryz.func6,Tryz.ntmps6;go_wp2;exact U37
theorem sB (l:List (List Int)) :SzF 19 (.l 1 (bH l)):=by
 intro w0 v hv w k Ar hk hk2;obtain⟨a,c,rfl,Ao⟩:=(hv.below Ar).list;clear hv Ar
 have hm:(bH l).length=l.length:=by simp[aJ,aM,bH]
 have Ap:∀j,j<l.length->∃x ∈ l,(bH l)[j]?=some [.b x]:=by
  exact U9
 generalize hrs:bH l=rs at Ao hm Ap ⊢;clear hrs
 have hlen:(Fl.l 1 rs).len=rs.length+aF rs:=by simp[Fl.len]
 rw[hlen];clear hlen;rw[<-hm]at Ap;generalize hn:rs.length=n at Ao Ap ⊢;clear hm
 have hcn:n<=9223372036854775807:=by have h1:=Ao.cap;have h2:=Ao.most;unfold maxLen at h2;omega
 by_cases hnk:(n:Int)<=k
 .
  have h':¬(k-(n:Int)<0):=V6
  have Hd:Hid (rs.length=n):=hn
  have HL:Hid (aS w a c 1 rs):=Ao
  have HA:Hid (∀j,j<n->∃x ∈ l,rs[j]?=some [.b x]):=Ap
  skip
  clear Ap
  rcases Nat.eq_zero_or_pos n with h0|Am
  .
   subst h0;have e0:rs=[]:=List.eq_nil_of_length_eq_zero Hd.out;subst e0;rw[aU V53];clear Ao hn;have h1:¬(k<0):=V6;go_enter Tryz.func19,Tryz.ntmps19;exact U22
  .
   obtain⟨b,off,rfl⟩:=Ao.addr V19;clear Ao hn;go_enter Tryz.func19,Tryz.ntmps19;go_wp2_with fail
   go_loopw [1,5] (fun r i wr=>∃j:Nat,j<=n/\i=.int .i64 j/\∃rr:Int,r=.int .i64 rr/\0<=rr/\rr<=k/\Hid (rr=k-(n:Int)-(aF (rs.take j):Int))/\Below w.heap.size w wr) (fun _ i _=>n-(intOf i).toNat)
   case atStart=>exact⟨0,Nat.zero_le _,rfl,k-(n:Int),rfl,by omega,by omega,by show _=_;simp[aF],Below.refl _ _⟩
   case round=>
    obtain⟨j,hj,rfl,rr,rfl,hr0,hrk,hrr,Au⟩:=hrel
    by_cases Ai:j<n
    .
     obtain⟨x,hx,Ak⟩:=HA.out j Ai
     have HN:Hid _:=dO Ak
     have HT:Hid _:=dN rs (j+1)
     obtain⟨vs,Ad,Ab⟩:=((show aS w (some ⟨b,off,none⟩) c 1 rs from HL.out).below Au |>.el Ak).vals
     have HC:∃y0,vs=[y0]/\SzV wr 18 y0 (aH [.b x]):=by
      obtain⟨y0,_,rfl,h,rfl⟩:=Ad
      exact⟨y0,rfl,by simpa [aH] using iH x wr y0 h⟩
     obtain⟨y,hy,HC⟩:=HC;subst hy;clear Ak;generalize hN:aH [.b x]=N at HC HN
     skip
     obtain⟨y0,us0,hys,⟨a0,c0,e0,d0⟩,hus⟩:=Ad;simp only[List.cons.injEq]at hys;obtain⟨rfl,rfl⟩:=hys;subst e0
     skip
     have q0:wr.cell? ⟨b,off+j,none⟩=some (.slice a0 x.length c0):=by simpa using Ab 0 _ rfl
     clear Ab d0 hx;clear hN;replace HC:=HC wr rr (Below.refl _ _) hr0 V6
     by_cases hxr:(N:Int)<=rr
     .
      simp only[aU hxr]at HC;have hx':¬(rr-(N:Int)<0):=V6;go_wp2_with fail;refine HC.mono ?_;rintro e w2 ⟨rfl,Ae⟩
      have hbw:Below w.heap.size w w2:=Au.trans (Ae.mono Au.size)
      clear q0 HC Ae;exact U13
     .
      simp only[bM hxr]at HC;go_wp2_with fail;refine HC.mono ?_;rintro e w2 ⟨rfl,Ae⟩
      have hbw:Below w.heap.size w w2:=Au.trans (Ae.mono Au.size)
      clear q0 HC Ae;exact U17
    .
     exact U19
 .
  rw[bM V6];have h':k-(n:Int)<0:=V6;clear Ao Ap  hn;go_enter Tryz.func19,Tryz.ntmps19;go_wp2;exact U37
theorem SzV.on {w w1:World}{F N:Nat}{v:Value}(h:SzV w F v N)(hb:Below w.heap.size w w1):SzV w1 F v N:=
 fun w2 k Ae hk hk2=>h w2 k (hb.trans (Ae.mono hb.size)) hk hk2
theorem aJv (x0:List Int)(x1:Int) :SzR 64 (Va.mk x0 x1).fl:=by
 intro w vs hv w1 k hb hk hk2;obtain⟨y0,_,rfl,h0,y1,_,rfl,rfl,rfl⟩:=hv;have g0:=(iH x0 w _ h0).on hb;obtain⟨a0,c0,rfl,_⟩:=h0
 have e:aH (Va.mk x0 x1).fl=(.b x0:Fl).len:=by simp[Va.fl,aH,Fl.len]
 rw[e];exact aJw a0 _ c0 x1 _ k w1 hk hk2 g0
theorem aD6 (x0:List Int)(x1:Bool) :SzR 166 (Pa.mk x0 x1).fl:=by
 intro w vs hv w1 k hb hk hk2;obtain⟨y0,_,rfl,h0,y1,_,rfl,rfl,rfl⟩:=hv;have g0:=(iH x0 w _ h0).on hb;obtain⟨a0,c0,rfl,_⟩:=h0
 have e:aH (Pa.mk x0 x1).fl=(.b x0:Fl).len:=by simp[Pa.fl,aH,Fl.len]
 rw[e];exact aD7 a0 _ c0 x1 _ k w1 hk hk2 g0
theorem aHn (x0:Int)(x1:Int)(x2:List Int)(x3:List Int)(x4:List Ex)(S4:SzF 208 (.l 5 (exs x4))):SzR 228 (Ex.mk x0 x1 x2 x3 x4).fl:=by
 intro w vs hv w1 k hb hk hk2;unfold Ex.fl at hv;obtain⟨y0,_,rfl,rfl,y1,_,rfl,rfl,y2,_,rfl,h2,y3,_,rfl,h3,y4,_,rfl,h4,rfl⟩:=hv;have g2:=(iH x2 w _ h2).on hb;have g3:=(iH x3 w _ h3).on hb;have g4:=(S4 w _ h4).on hb;obtain⟨a2,c2,rfl,_⟩:=h2;obtain⟨a3,c3,rfl,_⟩:=h3;obtain⟨a4,c4,rfl,_⟩:=h4
 have e:aH (Ex.mk x0 x1 x2 x3 x4).fl=(.b x2:Fl).len+(.b x3:Fl).len+(.l 5 (exs x4):Fl).len:=by simp[Ex.fl,aH,Fl.len] <;> omega
 rw[e];exact aHo x0 x1 a2 _ c2 a3 _ c3 a4 _ c4 _ _ _ k w1 hk hk2 g2 g3 g4
theorem aHg (x0:Int)(x1:Int)(x2:List Int)(x3:List Ex)(x4:List St)(x5:List St)(S3:SzF 208 (.l 5 (exs x3)))(S4:SzF 117 (.l 6 (sts x4)))(S5:SzF 117 (.l 6 (sts x5))):SzR 167 (St.mk x0 x1 x2 x3 x4 x5).fl:=by
 intro w vs hv w1 k hb hk hk2;unfold St.fl at hv;obtain⟨y0,_,rfl,rfl,y1,_,rfl,rfl,y2,_,rfl,h2,y3,_,rfl,h3,y4,_,rfl,h4,y5,_,rfl,h5,rfl⟩:=hv;have g2:=(iH x2 w _ h2).on hb;have g3:=(S3 w _ h3).on hb;have g4:=(S4 w _ h4).on hb;have g5:=(S5 w _ h5).on hb;obtain⟨a2,c2,rfl,_⟩:=h2;obtain⟨a3,c3,rfl,_⟩:=h3;obtain⟨a4,c4,rfl,_⟩:=h4;obtain⟨a5,c5,rfl,_⟩:=h5
 have e:aH (St.mk x0 x1 x2 x3 x4 x5).fl=(.b x2:Fl).len+(.l 5 (exs x3):Fl).len+(.l 6 (sts x4):Fl).len+(.l 6 (sts x5):Fl).len:=by simp[St.fl,aH,Fl.len] <;> omega
 rw[e];exact aHh x0 x1 a2 _ c2 a3 _ c3 a4 _ c4 a5 _ c5 _ _ _ _ k w1 hk hk2 g2 g3 g4 g5
theorem aHi (x0:List Int)(x1:Bool)(x2:List Pa)(x3:List (List Int))(x4:List St)(S2:SzF 116 (.l 2 (x2.map Pa.fl)))(S3:SzF 19 (.l 1 (bH x3)))(S4:SzF 117 (.l 6 (sts x4))):SzR 65 (Pr.mk x0 x1 x2 x3 x4).fl:=by
 intro w vs hv w1 k hb hk hk2;obtain⟨y0,_,rfl,h0,y1,_,rfl,rfl,y2,_,rfl,h2,y3,_,rfl,h3,y4,_,rfl,h4,rfl⟩:=hv;have g0:=(iH x0 w _ h0).on hb;have g2:=(S2 w _ h2).on hb;have g3:=(S3 w _ h3).on hb;have g4:=(S4 w _ h4).on hb;obtain⟨a0,c0,rfl,_⟩:=h0;obtain⟨a2,c2,rfl,_⟩:=h2;obtain⟨a3,c3,rfl,_⟩:=h3;obtain⟨a4,c4,rfl,_⟩:=h4
 have e:aH (Pr.mk x0 x1 x2 x3 x4).fl=(.b x0:Fl).len+(.l 2 (x2.map Pa.fl):Fl).len+(.l 1 (bH x3):Fl).len+(.l 6 (sts x4):Fl).len:=by simp[Pr.fl,aH,Fl.len] <;> omega
 rw[e];exact aHj a0 _ c0 x1 a2 _ c2 a3 _ c3 a4 _ c4 _ _ _ _ k w1 hk hk2 g0 g2 g3 g4
theorem tW (x0:List Int)(x1:List Int) :SzR 118 (Fp.mk x0 x1).fl:=by
 intro w vs hv w1 k hb hk hk2;obtain⟨y0,_,rfl,h0,y1,_,rfl,h1,rfl⟩:=hv;have g0:=(iH x0 w _ h0).on hb;have g1:=(aJy x1 w _ h1).on hb;obtain⟨a0,c0,rfl,_⟩:=h0;obtain⟨a1,c1,rfl,_⟩:=h1
 have e:aH (Fp.mk x0 x1).fl=(.b x0:Fl).len+(.i x1:Fl).len:=by simp[Fp.fl,aH,Fl.len]
 rw[e];exact tX a0 _ c0 a1 _ c1 _ _ k w1 hk hk2 g0 g1
theorem aHk (x0:List Int)(x1:List Fp)(S1:SzF 66 (.l 2 (x1.map Fp.fl))):SzR 22 (Fa.mk x0 x1).fl:=by
 intro w vs hv w1 k hb hk hk2;obtain⟨y0,_,rfl,h0,y1,_,rfl,h1,rfl⟩:=hv;have g0:=(iH x0 w _ h0).on hb;have g1:=(S1 w _ h1).on hb;obtain⟨a0,c0,rfl,_⟩:=h0;obtain⟨a1,c1,rfl,_⟩:=h1
 have e:aH (Fa.mk x0 x1).fl=(.b x0:Fl).len+(.l 2 (x1.map Fp.fl):Fl).len:=by simp[Fa.fl,aH,Fl.len]
 rw[e];exact aHl a0 _ c0 a1 _ c1 _ _ k w1 hk hk2 g0 g1
theorem aAy (x0:List Int)(x1:List (List Int))(x2:List Va)(x3:List Pr)(S1:SzF 19 (.l 1 (bH x1)))(S2:SzF 20 (.l 2 (x2.map Va.fl)))(S3:SzF 21 (.l 5 (x3.map Pr.fl))):SzR 5 (Mo.mk x0 x1 x2 x3).fl:=by
 intro w vs hv w1 k hb hk hk2;obtain⟨y0,_,rfl,h0,y1,_,rfl,h1,y2,_,rfl,h2,y3,_,rfl,h3,rfl⟩:=hv;have g0:=(iH x0 w _ h0).on hb;have g1:=(S1 w _ h1).on hb;have g2:=(S2 w _ h2).on hb;have g3:=(S3 w _ h3).on hb;obtain⟨a0,c0,rfl,_⟩:=h0;obtain⟨a1,c1,rfl,_⟩:=h1;obtain⟨a2,c2,rfl,_⟩:=h2;obtain⟨a3,c3,rfl,_⟩:=h3
 have e:aH (Mo.mk x0 x1 x2 x3).fl=(.b x0:Fl).len+(.l 1 (bH x1):Fl).len+(.l 2 (x2.map Va.fl):Fl).len+(.l 5 (x3.map Pr.fl):Fl).len:=by simp[Mo.fl,aH,Fl.len] <;> omega
 rw[e];exact aAz a0 _ c0 a1 _ c1 a2 _ c2 a3 _ c3 _ _ _ _ k w1 hk hk2 g0 g1 g2 g3
mutual
theorem aM8:∀e:Ex,SzR 228 e.fl
 | .mk k n m a ks=>aHn k n m a ks (vQ ks (aHm ks))
theorem aHm:∀(l:List Ex),∀e ∈ l,SzR 228 e.fl
 | [],e,h=>by simp at h
 | x :: l,e,h=>by
  rcases List.mem_cons.1 h with h|h
  .
   rw[h];exact aM8 x
  .
   exact aHm l e h
end
mutual
theorem aM5:∀e:St,SzR 167 e.fl
 | .mk k n a ks bs es=>aHg k n a ks bs es (vQ ks (aHm ks)) (qK bs (aD4 bs)) (qK es (aD4 es))
theorem aD4:∀(l:List St),∀e ∈ l,SzR 167 e.fl
 | [],e,h=>by simp at h
 | x :: l,e,h=>by
  rcases List.mem_cons.1 h with h|h
  .
   rw[h];exact aM5 x
  .
   exact aD4 l e h
end
theorem aM6 (m:Mo):SzR 5 m.fl:=
 aAy m.name m.uses m.vars m.procs (sB m.uses) (aHf m.vars fun v _=>aJv v.name v.size)
  (aD5 m.procs fun q _=>aHi q.name q.opn q.params q.locals q.body (aAx q.params fun v _=>aD6 v.name v.arr) (sB q.locals) (qK q.body (aD4 q.body)))
theorem aM7 (f:Fa):SzR 22 f.fl:=aHk f.name f.procs (sA f.procs fun q _=>tW q.name q.kinds)
theorem aLl (l:List Fa):SzF 6 (.l 2 (l.map Fa.fl)):=aD8 l fun f _=>aM7 f
end Go.Proofs.YtnelibmaancmkaaGreatDoor

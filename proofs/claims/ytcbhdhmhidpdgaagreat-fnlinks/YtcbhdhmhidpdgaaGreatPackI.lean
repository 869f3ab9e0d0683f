import Derived.Test.YtcbhdhmhidpdgaaGreatCpJ
namespace Go.Proofs.YtcbhdhmhidpdgaaGreat
open Go.RowKit
set_option maxHeartbeats 1000000
set_option linter.unusedVariables false
set_option linter.unusedSimpArgs false
set_option maxRecDepth 100000
theorem QA128{p:Prop}(h:p:=by
 clear hd
 go_wp2
 go_ret
 have:j=n:=by omega
 subst this
 exact⟨rfl,rfl⟩):p:=h
def gF (l:List Int):Nat->Int
 | 0=>7| k+1=>(gF l k*257+l[k]?.getD 0+1) % 2147483647
theorem kN (l:List Int)(k:Nat):0<=gF l k/\gF l k<=2147483646:=by
 cases k with
 | zero=>simp[gF]| succ k=>simp only[gF];omega
theorem aK9 (a:Option Addr)(n c:Nat)(l:List Int)(w:World)(h:aV w a n l)(hn:n<=1073741824):
  Calls Tryz.prog 82 #[.slice a n c] w fun e w'=>e=.returned (.int .i64 (gF l n))/\w'=w:=by
 obtain⟨_,Bu,hc⟩:=h;rcases zG0 n with h0|Dj
 .
  subst h0;clear hc;go_enter Tryz.func82,Tryz.ntmps82;go_wp2;refine zH1 1 ?_;rw[zE2];go_wp2;go_ret;exact⟨bZ rfl,rfl⟩
 .
  obtain⟨b,off,rfl,hd⟩:=hc Dj;clear hc;go_enter Tryz.func82,Tryz.ntmps82;go_wp2;go_loop [3,4] (fun s i=>∃j:Nat,j<=n/\i=.int .i64 j/\s=.int .i64 (gF l j)) (fun _ i=>n-(intOf i).toNat)
  case atStart=>exact⟨0,zD1 _,rfl,rfl⟩
  case round=>
   obtain⟨j,hj,rfl,rfl⟩:=hrel;have hs:=kN l j;by_cases Ad:j<n
   .
    have hx:=hd j Ad;have hb:=kM Bu j;have Uq:Hid (gF l (j+1)=(gF l j*257+l[j]?.getD 0+1) % 2147483647):=rfl;clear hd;generalize gF l j=s at *;generalize l[j]?.getD 0=x at *;go_wp2;go_round
    case rel=>exact⟨j+1,by omega,by go_num,by rw[Uq.out]⟩
    case measure=>simp[intOf];omega
   .
    exact QA128
theorem aM5 (a:Option Addr)(n c:Nat)(l:List Int)(w:World)(h:aV w a n l)(hn:n<=1073741824):
  Calls Tryz.prog 39 #[.slice a n c] w fun e w'=>e=.returned (.int .i64 (gF l n))/\w'=w:=by
 obtain⟨_,Bu,hc⟩:=h;rcases zG0 n with h0|Dj
 .
  subst h0;clear hc;go_enter Tryz.func39,Tryz.ntmps39;go_wp2;refine zH1 1 ?_;rw[zE2];go_wp2;go_ret;exact⟨bZ rfl,rfl⟩
 .
  obtain⟨b,off,rfl,hd⟩:=hc Dj;clear hc;go_enter Tryz.func39,Tryz.ntmps39;go_wp2;go_loop [3,8] (fun s i=>∃j:Nat,j<=n/\i=.int .i64 j/\s=.int .i64 (gF l j)) (fun _ i=>n-(intOf i).toNat)
  case atStart=>exact⟨0,zD1 _,rfl,rfl⟩
  case round=>
   obtain⟨j,hj,rfl,rfl⟩:=hrel;have hs:=kN l j;by_cases Ad:j<n
   .
    have hx:=hd j Ad;have hb:=kM Bu j;have Uq:Hid (gF l (j+1)=(gF l j*257+l[j]?.getD 0+1) % 2147483647):=rfl;clear hd;generalize gF l j=s at *;generalize l[j]?.getD 0=x at *;go_wp2;go_round
    case rel=>exact⟨j+1,by omega,by go_num,by rw[Uq.out];go_num⟩
    case measure=>simp[intOf];omega
   .
    exact QA128
theorem A90{p:Prop}(h:p:=by rw[Db];omega):p:=h
theorem aBh {α:Type}(Z X Y:List α)(n1 n2:Nat)(h1:X.length=n1)(h2:Y.length=n2)(hz:Z.length=n1+n2):splice (splice Z 0 X) n1 Y=X++Y:=by
 subst h1;subst h2;have e:splice Z 0 X=X++Z.drop X.length:=by simp[splice]
 rw[e];unfold splice;rw[List.take_left,List.drop_append,List.drop_of_length_le A0,List.nil_append,List.drop_of_length_le A12,List.append_nil]
set_option maxHeartbeats 1000000 in
theorem aMu (a1:Option Addr)(n1 c1:Nat)(l1:List Int)(a2:Option Addr)(n2 c2:Nat)(l2:List Int)(w:World)(h1:aV w a1 n1 l1)(h2:aV w a2 n2 l2)(Jk:n1<=1073741824)(Dl:n2<=1073741824):
  Calls Tryz.prog 40 #[.slice a1 n1 c1,.slice a2 n2 c2] w fun e w'=>e=.returned (.slice (some ⟨w.heap.size,0,none⟩) (n1+n2) (n1+n2))/\Own w' w.heap.size (.slice (some ⟨w.heap.size,0,none⟩) (n1+n2) (n1+n2)) (n1+n2) (l1++l2)/\Below w.heap.size w w':=by
 obtain⟨i0,hi,Dc,De,Db⟩:=info_parts uS;have Bg:(Tryz.prog.info? 5).map (·.size)=some 1:=by kernel_rfl
 have Xl:=h1.1;have Dx:=h2.1;have Ya:=hid Xl;have HL2:=hid Dx;obtain⟨X1,hX1⟩:=zx (l1.map (Value.int .u8));obtain⟨X2,Vn⟩:=zx (l2.map (Value.int .u8));have Gd:X1.length=n1:=by rw[hX1];simpa using Xl
 have Mm:X2.length=n2:=by rw[Vn];simpa using Dx
 have Lb:=hid hX1;have HX2:=hid Vn;have HN1:=hid Gd;have Oi:=hid Mm;have one1:∀v ∈ X1,v.oneCell'=true:=by rw[hX1];exact ints_oneCell _ _
 have one2:∀v ∈ X2,v.oneCell'=true:=by rw[Vn];exact ints_oneCell _ _
 clear hX1 Vn Gd Mm Xl Dx;go_enter Tryz.func40,Tryz.ntmps40;go_wp2_with (at_make;refine wpList_make_full _ rfl _ _ 22 rfl w.heap.size 5 i0 (.int .u8 0) 1 Tryz.underlying22 hi Dc De _ _ _ _ (n1+n2) rfl rfl A0 A0 A90 (by unfold maxLen;omega) (zB0 _) ?_);intro w1 Ak Dy;have hb:Below w.heap.size w w1:=(zD2 _ _).grown Dy (zB0 _) (by intro k hk;cases hk);have hg:=sV Ak;have e:(madeCells #[Value.int IntKind.u8 0] (n1+n2)).toList=List.replicate (n1+n2) (Value.int IntKind.u8 0):=toList_madeCells_one _ _;rw[e]at hg;obtain⟨Z,hZ⟩:=zx (List.replicate (n1+n2) (Value.int IntKind.u8 0));rw[<-hZ]at hg;have hzl:Hid (Z.length=n1+n2):=by show Z.length=n1+n2;rw[hZ];simp
 have HG:=hid hg;clear hZ e Ak Dy hg;have P1:Hid (0<X1.length->∃ad,a1=some ad/\∀j v,X1[j]?=some v->w1.cell? (ad.add j)=some v):=by
  intro hp;rw[Lb.out]at hp ⊢;exact(h1.below hb).pos hp
 have N1:Hid (X1.length=Nat.min n1 (n1+n2)):=by
  show X1.length=Nat.min n1 (n1+n2);rw[HN1.out];exact(Nat.min_eq_left A0).symm
 have F1:Hid (0+X1.length<=Z.length):=by show 0+X1.length<=Z.length;rw[HN1.out,hzl.out];omega
 go_wp2_with (refine wpList_copy_splice rfl (.tmp 12) (.tmp 13) 22 22 rfl 5 Tryz.underlying22 Bg _ _ _ _ _ _ rfl rfl w.heap.size 0 Z 5 HG.out X1 N1.out (fun hp=>⟨rfl,P1.out hp⟩) F1.out one1 w.heap.size w hb (zB0 _) ?_);intro w2 hg2 hb2;clear P1 N1 F1 HG one1;have P2:Hid (0<X2.length->∃ad,a2=some ad/\∀j v,X2[j]?=some v->w2.cell? (ad.add j)=some v):=by
  intro hp;rw[HX2.out]at hp ⊢;exact(h2.below hb2).pos hp
 have N2:Hid (X2.length=Nat.min n2 n2):=by
  show X2.length=Nat.min n2 n2;rw[Oi.out];exact(Nat.min_eq_left A0).symm
 have F2:Hid (n1+X2.length<=(splice Z 0 X1).length):=by
  show n1+X2.length<=(splice Z 0 X1).length;rw[length_splice _ _ _ (by rw[HN1.out,hzl.out];omega),Oi.out,hzl.out];omega
 have fin:∀w':World,Hid (w'.heap[w.heap.size]?=some (.cells (splice (splice Z 0 X1) n1 X2).toArray 5 (0,0)))->Own w' w.heap.size (.slice (some ⟨w.heap.size,0,none⟩) (n1+n2) (n1+n2)) (n1+n2) (l1++l2):=by
  intro w' hg;have hg':=hg.out;rw[aBh Z X1 X2 n1 n2 HN1.out Oi.out hzl.out,Lb.out,HX2.out,<-List.map_append]at hg';have:=iK (base:=w.heap.size) hg' (zB0 _) (by rw[zA1,Ya.out,HL2.out];unfold maxLen;omega) (fun x hx=>(List.mem_append.1 hx).elim (h1.2.1 x) (h2.2.1 x));rwa [zA1,Ya.out,HL2.out]at this
 clear h1 h2 hb Ya HL2 Lb HX2;by_cases hz:n2=0
 .
  subst hz;go_wp2_with (refine wpList_copy_splice rfl (.tmp 18) (.tmp 19) 22 22 rfl 5 Tryz.underlying22 Bg _ _ _ _ _ _ rfl rfl w.heap.size n1 (splice Z 0 X1) 5 hg2.out X2 N2.out (fun hp=>⟨absurd hp (by have:=Oi.out;omega),P2.out hp⟩) F2.out one2 w.heap.size w hb2 (zB0 _) ?_);intro w3 Bn Je;go_wp2;go_ret;exact⟨rfl,fin _ Bn,Je⟩
 .
  go_wp2_with (refine wpList_copy_splice rfl (.tmp 18) (.tmp 19) 22 22 rfl 5 Tryz.underlying22 Bg _ _ _ _ _ _ rfl rfl w.heap.size n1 (splice Z 0 X1) 5 hg2.out X2 N2.out (fun hp=>⟨rfl,P2.out hp⟩) F2.out one2 w.heap.size w hb2 (zB0 _) ?_);intro w3 Bn Je;go_wp2;go_ret;exact⟨rfl,fin _ Bn,Je⟩
theorem aMt (a1:Option Addr)(n1 c1:Nat)(l1:List Int)(a2:Option Addr)(n2 c2:Nat)(l2:List Int)(w:World)(h1:aV w a1 n1 l1)(h2:aV w a2 n2 l2)(Jk:n1<=1073741824)(Dl:n2<=1073741824):
  Calls Tryz.prog 40 #[.slice a1 n1 c1,.slice a2 n2 c2] w fun e w'=>∃v,e=.returned v/\Own w' w.heap.size v (n1+n2) (l1++l2)/\Below w.heap.size w w':=by
 refine(aMu a1 n1 c1 l1 a2 n2 c2 l2 w h1 h2 Jk Dl).mono ?_;rintro e w' ⟨rfl,ho,hb⟩;exact⟨_,rfl,ho,hb⟩
theorem QA43{p:Prop}(h:p:=by
 intro v4 w4 Gk Ah
 have Eu:=hO'.grown Ah Em Ee
 rw[<-HE'.out]at Gk
 have HO4:=hid Gk
 obtain⟨a4,c4,rfl,_⟩:=Gk.made (w:=w) Eu
 clear Gk hO' Gj Em Ah hb
 go_wp2
 go_roundw
 case rel=>exact⟨j+1,by omega,by go_num,⟨_,_,rfl⟩,HO4,Eu⟩
 case measure=>simp[intOf];omega):p:=h
theorem QA132{p:Prop}(h:p:=by
 go_enter Tryz.func38,Tryz.ntmps38
 go_wp2
 go_ret
 exact⟨rfl,rfl⟩):p:=h
def nX (k:Int):Int:=if k=0 then 0 else 1
def cZ (l:List Int):List Int:=l.map nX
theorem aB1 (k:Int):0<=nX k/\nX k<=255:=by unfold nX;split <;> omega
theorem kX (l:List Int):(cZ l).length=l.length:=by simp[cZ]
theorem aEb {l:List Int}{j:Nat}(h:j<l.length):(cZ l)[j]?.getD 0=nX (l[j]?.getD 0):=by simp[cZ,h]
theorem xD (l:List Int):∀x ∈ cZ l,0<=x/\x<=255:=by
 intro x hx;obtain⟨k,_,rfl⟩:=zE1.1 hx;exact aB1 k
theorem aB0 {l k:List Int}{j:Nat}(h:j<k.length):l++(cZ k).take (j+1)=l++((cZ k).take j++[nX (k[j]?.getD 0)]):=by
 rw[zF1 (by rw[kX];exact h)];congr 3;simp[cZ,h]
set_option maxRecDepth 100000 in
theorem kP (a:Option Addr)(n c:Nat)(l:List Int)(a2:Option Addr)(n2 c2:Nat)(k:List Int)(w:World)(h:aV w a n l)(Ej:a=none->c=0)(h2:aF6 w a2 n2 k)(hn:n<=1048576)(Dl:n2<=1048576):
  Calls Tryz.prog 49 #[.slice a n c,.slice a2 n2 c2] w fun e w'=>e=.returned (.int .i64 (gF (l++cZ k) (n+n2)))/\Below w.heap.size w w':=by
 obtain⟨Dx,Hn,Do⟩:=h2;have hE:=lX w;have hBE:=gZ w;have hrE:=h.below hBE;have Hl2:=hid Dx;clear h Dx;go_enter Tryz.func49,Tryz.ntmps49;go_wp2_with (at_builtin;refine cC rfl _ _ rfl w.heap.size _ 0 [] rfl hE a n c l rfl hrE Ej A0 A9 ?_);intro v1 w1 ho1 hg1;have hb1:=hE.grown hg1 hBE A9;have Hw:Own w1 w.heap.size v1 (n+0) (l++(cZ k).take 0):=by simpa using ho1
 have Nf:Own w1 w.heap.size v1 n l:=by simpa using ho1
 clear hE hBE hrE Ej hg1 ho1;obtain⟨a1,c1,rfl,_⟩:=Nf.made (w:=w) hb1;clear Nf;go_wp2;go_loopw [5,6] (fun s i wr=>∃j:Nat,j<=n2/\i=.int .i64 j/\Hid (∃a c,s=.slice a (n+j) c)/\Hid (Own wr w.heap.size s (n+j) (l++(cZ k).take j))/\Below w.heap.size w wr) (fun _ i _=>n2-(intOf i).toNat)
 case atStart=>exact⟨0,zD1 _,rfl,⟨_,_,rfl⟩,Hw,hb1⟩
 case round=>
  obtain⟨j,hj,rfl,hsh,ho,hb⟩:=hrel;obtain⟨a3,c3,rfl⟩:=hsh.out;clear Hw hb1;by_cases Ad:j<n2
  .
   obtain⟨b,off,rfl,hd⟩:=Do A0;have hx:=(hb.cell (zI2 w _ (hd j Ad))).trans (hd j Ad);have hs:=hb.size;have HK:Hid (l++(cZ k).take (j+1)=l++((cZ k).take j++[nX (k[j]?.getD 0)])):=aB0 (by rw[Hl2.out];exact Ad);have HO:=ho.out;clear Do hd ho;by_cases h0:k[j]?.getD 0=0
   .
    have hk:nX (k[j]?.getD 0)=0:=by simp[nX,h0]
    rw[h0]at hx;have HE:=HK.out;rw[hk]at HE;have HE':=hid HE;clear HE hk HK h0;have hO':=HO.alloc (.cells #[.int .u8 0] 5);have Gj:=oY wr 0 A0 A0;have Em:Below w.heap.size w (wr.alloc (.cells #[.int .u8 0] 5)):=hb.alloc hs _;have Ee:=Em.size;clear HO;go_wp2_with (at_builtin;refine cC rfl _ _ rfl w.heap.size _ (n+j) _ rfl hO' _ 1 1 [0] rfl Gj A9 A0 Ee ?_);exact QA43
   .
    have hk:nX (k[j]?.getD 0)=1:=by simp[nX,h0]
    have HE:=HK.out;rw[hk]at HE;have HE':=hid HE;have Ae:(k[j]?.getD 0 != 0)=true:=by simp[h0]
    clear HE hk HK;have hO':=HO.alloc (.cells #[.int .u8 1] 5);have Gj:=oY wr 1 A0 A0;have Em:Below w.heap.size w (wr.alloc (.cells #[.int .u8 1] 5)):=hb.alloc hs _;have Ee:=Em.size;clear HO;generalize k[j]?.getD 0=x at *;go_wp2_with (at_builtin;refine cC rfl _ _ rfl w.heap.size _ (n+j) _ rfl hO' _ 1 1 [1] rfl Gj A9 A0 Ee ?_);exact QA43
  .
   have Ni:j=n2:=A0;subst Ni;have hr:=ho.out.row;rw[zD3 (by rw[kX,Hl2.out];exact zB0 _)]at hr;clear Do ho;go_wp2_with fail;refine(aK9 _ _ _ _ _ hr A0).mono ?_;rintro e w5 ⟨rfl,rfl⟩;go_wp2;go_ret;exact⟨rfl,hb⟩
theorem aK3 (x:Bool)(w:World):Calls Tryz.prog 38 #[.bool x] w fun e w'=>e=.returned (.int .i64 (if x then 1 else 0))/\w'=w:=by
 cases x
 .
  exact QA132
 .
  exact QA132
set_option maxRecDepth 100000 in
theorem aB7 (a:Option Addr)(n c:Nat)(l:List Int)(a2:Option Addr)(n2 c2:Nat)(k:List Int)(w:World)(h:aV w a n l)(h2:aF6 w a2 n2 k)(hn:n<=1048576)(Dl:n2<=1048576):
  Calls Tryz.prog 19 #[.slice a n c,.slice a2 n2 c2] w fun e w'=>e=.returned (.int .i64 (gF (l++cZ k) (n+n2)))/\Below w.heap.size w w':=by
 obtain⟨i0,hi,Dc,De,Db⟩:=info_parts uS;obtain⟨Dx,Hn,Do⟩:=h2;have Hl2:=hid Dx;clear Dx;go_enter Tryz.func19,Tryz.ntmps19;go_wp2_with (at_make;refine wpList_make_full _ rfl _ _ 22 rfl w.heap.size 5 i0 (.int .u8 0) 1 Tryz.underlying22 hi Dc De _ _ _ _ n2 rfl rfl rfl rfl A90 A13 (zB0 _) ?_);intro w1 Ak Dy;have hb:Below w.heap.size w w1:=(zD2 _ _).grown Dy (zB0 _) (by intro k hk;cases hk);have HO:w1.ownsRow w.heap.size 5 1 (.slice (some ⟨w.heap.size,0,none⟩) n2 n2) n2 (((cZ k).take 0++(List.replicate n2 0).drop 0).map (Value.int .u8)):=by
  have e:(madeCells #[Value.int IntKind.u8 0] n2).toList=List.replicate n2 (Value.int IntKind.u8 0):=toList_madeCells_one _ _;rw[e]at Ak;simpa using Ak
 clear Ak Dy;go_wp2;go_loopw [6,7,13] (fun _ _ i wr=>∃j:Nat,j<=n2/\i=.int .i64 j/\Hid (wr.ownsRow w.heap.size 5 1 (.slice (some ⟨w.heap.size,0,none⟩) n2 n2) n2 (((cZ k).take j++(List.replicate n2 0).drop j).map (Value.int .u8)))/\Below w.heap.size w wr) (fun _ _ i _=>n2-(intOf i).toNat)
 case atStart=>exact⟨0,zD1 _,rfl,HO,hb⟩
 case round=>
  obtain⟨j,hj,rfl,Ak,Cg⟩:=hrel;clear HO hb;by_cases Ad:j<n2
  .
   obtain⟨b,off,rfl,hd⟩:=Do A0;have hx:=(Cg.cell (zI2 w _ (hd j Ad))).trans (hd j Ad);have hcy:∃u,wr.cell? ⟨w.heap.size,j,none⟩=some u:=by
    rw[Ak.out.cellAt j A0];exact⟨_,zA0 (by have:=Ak.out.1;omega)⟩
   obtain⟨u,hcy⟩:=hcy;have hfy:=Ak.out.frozenAt j;have R:=aCs (l:=cZ k) (by rw[kX];exact Hl2.out) (List.length_replicate) Ad (zB0 _) Ak.out Cg;rw[aEb (by rw[Hl2.out];exact Ad)]at R;simp only[nX]at R;have R1:=hid R.1;have R2:=hid R.2;clear R Ak Do hd;generalize k[j]?.getD 0=x at *;go_wp2_with fail;refine(aK3 _ _).mono ?_;rintro e w5 ⟨rfl,rfl⟩;go_wp2;go_roundw
   case rel=>
    exact⟨j+1,by omega,by go_num,R1,R2.out⟩
   case measure=>simp[intOf];omega
  .
   have Ni:j=n2:=A0;subst Ni;have An:aV wr (some ⟨w.heap.size,0,none⟩) j (cZ k):=by
    have ho:Own wr w.heap.size (.slice (some ⟨w.heap.size,0,none⟩) j j) j (cZ k):=by
     refine⟨?_,xD k⟩;have:=Ak.out;rwa [zD3 (by rw[kX,Hl2.out];exact zB0 _),List.drop_of_length_le A9,List.append_nil]at this
    exact ho.row
   have hr:=h.below Cg;clear Do Ak h;go_wp2_with fail;refine(aMt _ _ _ _ _ _ _ _ _ hr An A0 A0).mono ?_;rintro e w5 ⟨v,rfl,ho,hb5⟩;have Xt:=Cg.trans (hb5.mono Cg.size);obtain⟨a6,c6,rfl,m6⟩:=ho.made hb5;have hr6:=m6.row;clear m6 ho hb5 Cg An hr;go_wp2_with fail;refine(aM5 _ _ _ _ _ hr6 A0).mono ?_;rintro e w7 ⟨rfl,rfl⟩;go_wp2;go_ret;exact⟨rfl,Xt⟩
section
namespace Cp
theorem aDl {W:World}{m:Mo}{m0 m1 m2 m3:Value}(h:aL W m.fl [m0,m1,m2,m3]):∃a n q,m3=.slice a n q/\m.procs.length=n/\aX W a q 5 (m.procs.map Pr.fl):=by
 obtain⟨y0,_,e0,_,y1,_,e1,_,y2,_,e2,_,y3,_,e3,h3,_⟩:=h;simp only[zJ3]at e0;obtain⟨rfl,rfl⟩:=e0;simp only[zJ3]at e1;obtain⟨rfl,rfl⟩:=e1;simp only[zJ3]at e2;obtain⟨rfl,rfl⟩:=e2;simp only[zJ3]at e3;obtain⟨rfl,_⟩:=e3;obtain⟨a,q,e,hL⟩:=h3.list;exact⟨a,_,q,by rw[e,zB2],rfl,hL⟩
theorem aJp {W:World}{m:Mo}{a:Option Addr}{q i:Nat}{p:Pr}(h:aX W a q 5 (m.procs.map Pr.fl))(hi:m.procs[i]?=some p):∃b off v0 v1 v2 v3 v4,a=some ⟨b,off,none⟩/\aL W p.fl [v0,v1,v2,v3,v4]/\W.cell? ⟨b,off+i*5,none⟩=some v0/\W.cell? ⟨b,off+i*5+1,none⟩=some v1/\W.cell? ⟨b,off+i*5+2,none⟩=some v2/\W.cell? ⟨b,off+i*5+3,none⟩=some v3/\W.cell? ⟨b,off+i*5+4,none⟩=some v4:=by
 obtain⟨b,off,vs,e2,hr,hc⟩:=h.cellsAt (show(m.procs.map Pr.fl)[i]?=some p.fl by rw[zA2,hi];rfl);exact QA56
structure Pc (E:En) (d:GD) (w:World) (c:Nat) (d':GD) (w':World):Prop where
 gs:GS E d' w'
 fr:d'.fr=d.fr
 r1:d'.r 1=d.r 1
 n0:(d.r 0).n<=(d'.r 0).n
 n1:(d'.r 0).n<=(d.r 0).n+c
 n3:(d.r 3).n<=(d'.r 3).n
 x3:∃us,(d'.r 3).xs=(d.r 3).xs++us
 x4:∃us,(d'.r 4).xs=(d.r 4).xs++us
 kt:Kt w w'
 sl:d'.sl=0
 s4:d'.s4=0
section
variable {E:En} {d d1:GD} {w w1 w2:World} {c:Nat} {Q:Ending->World->Prop}
theorem St.pc {c':Nat}{d2 d3:GD}{w3:World}(s:St E d1 w1 c d2 w2)(h:Pc E d2 w2 c' d3 w3)(e0:d1.r=d.r)(e1:d1.fr=d.fr)(kt:Kt w w1):Pc E d w (c+c') d3 w3:=by
 obtain⟨u3,h3⟩:=s.up.x3;obtain⟨u4,h4⟩:=s.up.x4;obtain⟨v3,k3⟩:=h.x3;obtain⟨v4,k4⟩:=h.x4;have a1:=s.up.n0;have a2:=s.up.n1;have a3:=s.up.n3;have a4:=s.up.r1;rw[e0]at h3 h4 a1 a2 a3 a4;exact⟨h.gs,h.fr.trans (s.up.fr.trans e1),h.r1.trans a4,zF2 a1 h.n0,by have:=h.n1;omega,zF2 a3 h.n3,⟨u3++v3,by rw[k3,h3,zD0]⟩,⟨u4++v4,by rw[k4,h4,zD0]⟩,kt.trans (s.kt.trans h.kt),h.sl,h.s4⟩
theorem St.toPc {d2:GD}(s:St E d1 w1 c d2 w2)(e0:d1.r 0=d.r 0)(e1:d1.r 1=d.r 1)(e3:d1.r 3=d.r 3)(e4:d1.r 4=d.r 4)(ef:d1.fr=d.fr)(kt:Kt w w1):Pc E d w c d2 w2:=by
 have a1:=s.up.n0;have a2:=s.up.n1;have a3:=s.up.n3;have a4:=s.up.r1;have x3:=s.up.x3;have x4:=s.up.x4;rw[e0]at a1 a2;rw[e3]at a3 x3;rw[e4]at x4;exact⟨s.gs,s.up.fr.trans ef,a4.trans e1,a1,a2,a3,x3,x4,kt.trans s.kt,s.sl,s.s4⟩
theorem GS.proc5 (h:GS E d w)(hE:eA E){p:Pr}{v0 v1 v2 v3 v4:Value}(hr:aL E.w0 p.fl [v0,v1,v2,v3,v4])(hl:p.params.length<=4/\p.locals.length<=8):GS E { d with p:=p,p0:=v0,p1:=v1,p2:=v2,p3:=v3,p4:=v4 } (w.setCells E.g 5 [v0,v1,v2,v3,v4])/\Kt w (w.setCells E.g 5 [v0,v1,v2,v3,v4]):=by
 have e:=h.el;refine⟨h.own hE (d':={ d with p:=p,p0:=v0,p1:=v1,p2:=v2,p3:=v3,p4:=v4 }) rfl ?_ ⟨e.e0,e.e1,e.e2,e.n2,e.e3,e.m3,e.e4,e.n4,hr,hl⟩,h.kto _ _⟩;exact((((h.blk.set (i:=5) v0).set (i:=6) v1).set (i:=7) v2).set (i:=8) v3).set (i:=9) v4
end
end Cp
end
end Go.Proofs.YtcbhdhmhidpdgaaGreat

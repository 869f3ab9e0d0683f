import Derived.Test.YtcbhdhmhidpdgaaGreatDoorCpJ
namespace Go.Proofs.YtcbhdhmhidpdgaaGreatDoor
open Go.RowKit
set_option maxHeartbeats 1000000
set_option linter.unusedVariables false
set_option linter.unusedSimpArgs false
set_option maxRecDepth 100000
theorem QA128{p:Prop}(h:p:=by
 clear hd
 go_wp2
 go_ret
 have:j=n:=by omega
 subst this
 exact⟨rfl,rfl⟩):p:=h
def fZ (l:List Int):Nat->Int
 | 0=>7| k+1=>(fZ l k*257+l[k]?.getD 0+1) % 2147483647
theorem kE (l:List Int)(k:Nat):0<=fZ l k/\fZ l k<=2147483646:=by
 cases k with
 | zero=>simp[fZ]| succ k=>simp only[fZ];omega
theorem aKg (a:Option Addr)(n c:Nat)(l:List Int)(w:World)(h:aV w a n l)(hn:n<=1073741824):
  Calls Tryz.prog 113 #[.slice a n c] w fun e w'=>e=.returned (.int .i64 (fZ l n))/\w'=w:=by
 obtain⟨_,Bv,hc⟩:=h;rcases zG0 n with h0|Dq
 .
  subst h0;clear hc;go_enter Tryz.func113,Tryz.ntmps113;go_wp2;refine zH1 1 ?_;rw[zE2];go_wp2;go_ret;exact⟨bY rfl,rfl⟩
 .
  obtain⟨b,off,rfl,hd⟩:=hc Dq;clear hc;go_enter Tryz.func113,Tryz.ntmps113;go_wp2;go_loop [3,4] (fun s i=>∃j:Nat,j<=n/\i=.int .i64 j/\s=.int .i64 (fZ l j)) (fun _ i=>n-(intOf i).toNat)
  case atStart=>exact⟨0,zD1 _,rfl,rfl⟩
  case round=>
   obtain⟨j,hj,rfl,rfl⟩:=hrel;have hs:=kE l j;by_cases Ad:j<n
   .
    have hx:=hd j Ad;have hb:=kD Bv j;have Uf:Hid (fZ l (j+1)=(fZ l j*257+l[j]?.getD 0+1) % 2147483647):=rfl;clear hd;generalize fZ l j=s at *;generalize l[j]?.getD 0=x at *;go_wp2;go_round
    case rel=>exact⟨j+1,by omega,by go_num,by rw[Uf.out]⟩
    case measure=>simp[intOf];omega
   .
    exact QA128
theorem aMd (a:Option Addr)(n c:Nat)(l:List Int)(w:World)(h:aV w a n l)(hn:n<=1073741824):
  Calls Tryz.prog 42 #[.slice a n c] w fun e w'=>e=.returned (.int .i64 (fZ l n))/\w'=w:=by
 obtain⟨_,Bv,hc⟩:=h;rcases zG0 n with h0|Dq
 .
  subst h0;clear hc;go_enter Tryz.func42,Tryz.ntmps42;go_wp2;refine zH1 1 ?_;rw[zE2];go_wp2;go_ret;exact⟨bY rfl,rfl⟩
 .
  obtain⟨b,off,rfl,hd⟩:=hc Dq;clear hc;go_enter Tryz.func42,Tryz.ntmps42;go_wp2;go_loop [3,8] (fun s i=>∃j:Nat,j<=n/\i=.int .i64 j/\s=.int .i64 (fZ l j)) (fun _ i=>n-(intOf i).toNat)
  case atStart=>exact⟨0,zD1 _,rfl,rfl⟩
  case round=>
   obtain⟨j,hj,rfl,rfl⟩:=hrel;have hs:=kE l j;by_cases Ad:j<n
   .
    have hx:=hd j Ad;have hb:=kD Bv j;have Uf:Hid (fZ l (j+1)=(fZ l j*257+l[j]?.getD 0+1) % 2147483647):=rfl;clear hd;generalize fZ l j=s at *;generalize l[j]?.getD 0=x at *;go_wp2;go_round
    case rel=>exact⟨j+1,by omega,by go_num,by rw[Uf.out];go_num⟩
    case measure=>simp[intOf];omega
   .
    exact QA128
theorem A86{p:Prop}(h:p:=by rw[Cz];omega):p:=h
theorem aA5 {α:Type}(Z X Y:List α)(n1 n2:Nat)(h1:X.length=n1)(h2:Y.length=n2)(hz:Z.length=n1+n2):splice (splice Z 0 X) n1 Y=X++Y:=by
 subst h1;subst h2;have e:splice Z 0 X=X++Z.drop X.length:=by simp[splice]
 rw[e];unfold splice;rw[List.take_left,List.drop_append,List.drop_of_length_le A0,List.nil_append,List.drop_of_length_le A10,List.append_nil]
set_option maxHeartbeats 1000000 in
theorem aL1 (a1:Option Addr)(n1 c1:Nat)(l1:List Int)(a2:Option Addr)(n2 c2:Nat)(l2:List Int)(w:World)(h1:aV w a1 n1 l1)(h2:aV w a2 n2 l2)(hn1:n1<=1073741824)(hn2:n2<=1073741824):
  Calls Tryz.prog 43 #[.slice a1 n1 c1,.slice a2 n2 c2] w fun e w'=>e=.returned (.slice (some ⟨w.heap.size,0,none⟩) (n1+n2) (n1+n2))/\Own w' w.heap.size (.slice (some ⟨w.heap.size,0,none⟩) (n1+n2) (n1+n2)) (n1+n2) (l1++l2)/\Below w.heap.size w w':=by
 obtain⟨i0,hi,Dd,Db,Cz⟩:=info_parts uI;have Bg:(Tryz.prog.info? 5).map (·.size)=some 1:=by kernel_rfl
 have Wj:=h1.1;have Dv:=h2.1;have HL1:=hid Wj;have HL2:=hid Dv;obtain⟨X1,hX1⟩:=zx (l1.map (Value.int .u8));obtain⟨X2,Vd⟩:=zx (l2.map (Value.int .u8));have Fi:X1.length=n1:=by rw[hX1];simpa using Wj
 have Tu:X2.length=n2:=by rw[Vd];simpa using Dv
 have Kq:=hid hX1;have HX2:=hid Vd;have HN1:=hid Fi;have Nr:=hid Tu;have one1:∀v ∈ X1,v.oneCell'=true:=by rw[hX1];exact ints_oneCell _ _
 have one2:∀v ∈ X2,v.oneCell'=true:=by rw[Vd];exact ints_oneCell _ _
 clear hX1 Vd Fi Tu Wj Dv;go_enter Tryz.func43,Tryz.ntmps43;go_wp2_with (at_make;refine wpList_make_full _ rfl _ _ 22 rfl w.heap.size 5 i0 (.int .u8 0) 1 Tryz.underlying22 hi Dd Db _ _ _ _ (n1+n2) rfl rfl A0 A0 A86 (by unfold maxLen;omega) (zB0 _) ?_);intro w1 Aj Dw;have hb:Below w.heap.size w w1:=(zD2 _ _).grown Dw (zB0 _) (by intro k hk;cases hk);have hg:=sO Aj;have e:(madeCells #[Value.int IntKind.u8 0] (n1+n2)).toList=List.replicate (n1+n2) (Value.int IntKind.u8 0):=toList_madeCells_one _ _;rw[e]at hg;obtain⟨Z,hZ⟩:=zx (List.replicate (n1+n2) (Value.int IntKind.u8 0));rw[<-hZ]at hg;have hzl:Hid (Z.length=n1+n2):=by show Z.length=n1+n2;rw[hZ];simp
 have HG:=hid hg;clear hZ e Aj Dw hg;have P1:Hid (0<X1.length->∃ad,a1=some ad/\∀j v,X1[j]?=some v->w1.cell? (ad.add j)=some v):=by
  intro hp;rw[Kq.out]at hp ⊢;exact(h1.below hb).pos hp
 have N1:Hid (X1.length=Nat.min n1 (n1+n2)):=by
  show X1.length=Nat.min n1 (n1+n2);rw[HN1.out];exact(Nat.min_eq_left A0).symm
 have F1:Hid (0+X1.length<=Z.length):=by show 0+X1.length<=Z.length;rw[HN1.out,hzl.out];omega
 go_wp2_with (refine wpList_copy_splice rfl (.tmp 12) (.tmp 13) 22 22 rfl 5 Tryz.underlying22 Bg _ _ _ _ _ _ rfl rfl w.heap.size 0 Z 5 HG.out X1 N1.out (fun hp=>⟨rfl,P1.out hp⟩) F1.out one1 w.heap.size w hb (zB0 _) ?_);intro w2 hg2 hb2;clear P1 N1 F1 HG one1;have P2:Hid (0<X2.length->∃ad,a2=some ad/\∀j v,X2[j]?=some v->w2.cell? (ad.add j)=some v):=by
  intro hp;rw[HX2.out]at hp ⊢;exact(h2.below hb2).pos hp
 have N2:Hid (X2.length=Nat.min n2 n2):=by
  show X2.length=Nat.min n2 n2;rw[Nr.out];exact(Nat.min_eq_left A0).symm
 have F2:Hid (n1+X2.length<=(splice Z 0 X1).length):=by
  show n1+X2.length<=(splice Z 0 X1).length;rw[length_splice _ _ _ (by rw[HN1.out,hzl.out];omega),Nr.out,hzl.out];omega
 have fin:∀w':World,Hid (w'.heap[w.heap.size]?=some (.cells (splice (splice Z 0 X1) n1 X2).toArray 5 (0,0)))->Own w' w.heap.size (.slice (some ⟨w.heap.size,0,none⟩) (n1+n2) (n1+n2)) (n1+n2) (l1++l2):=by
  intro w' hg;have hg':=hg.out;rw[aA5 Z X1 X2 n1 n2 HN1.out Nr.out hzl.out,Kq.out,HX2.out,<-List.map_append]at hg';have:=iF (base:=w.heap.size) hg' (zB0 _) (by rw[zA1,HL1.out,HL2.out];unfold maxLen;omega) (fun x hx=>(List.mem_append.1 hx).elim (h1.2.1 x) (h2.2.1 x));rwa [zA1,HL1.out,HL2.out]at this
 clear h1 h2 hb HL1 HL2 Kq HX2;by_cases hz:n2=0
 .
  subst hz;go_wp2_with (refine wpList_copy_splice rfl (.tmp 18) (.tmp 19) 22 22 rfl 5 Tryz.underlying22 Bg _ _ _ _ _ _ rfl rfl w.heap.size n1 (splice Z 0 X1) 5 hg2.out X2 N2.out (fun hp=>⟨absurd hp (by have:=Nr.out;omega),P2.out hp⟩) F2.out one2 w.heap.size w hb2 (zB0 _) ?_);intro w3 Bm Iz;go_wp2;go_ret;exact⟨rfl,fin _ Bm,Iz⟩
 .
  go_wp2_with (refine wpList_copy_splice rfl (.tmp 18) (.tmp 19) 22 22 rfl 5 Tryz.underlying22 Bg _ _ _ _ _ _ rfl rfl w.heap.size n1 (splice Z 0 X1) 5 hg2.out X2 N2.out (fun hp=>⟨rfl,P2.out hp⟩) F2.out one2 w.heap.size w hb2 (zB0 _) ?_);intro w3 Bm Iz;go_wp2;go_ret;exact⟨rfl,fin _ Bm,Iz⟩
theorem aL0 (a1:Option Addr)(n1 c1:Nat)(l1:List Int)(a2:Option Addr)(n2 c2:Nat)(l2:List Int)(w:World)(h1:aV w a1 n1 l1)(h2:aV w a2 n2 l2)(hn1:n1<=1073741824)(hn2:n2<=1073741824):
  Calls Tryz.prog 43 #[.slice a1 n1 c1,.slice a2 n2 c2] w fun e w'=>∃v,e=.returned v/\Own w' w.heap.size v (n1+n2) (l1++l2)/\Below w.heap.size w w':=by
 refine(aL1 a1 n1 c1 l1 a2 n2 c2 l2 w h1 h2 hn1 hn2).mono ?_;rintro e w' ⟨rfl,ho,hb⟩;exact⟨_,rfl,ho,hb⟩
theorem QA43{p:Prop}(h:p:=by
 intro v4 w4 Gf Af
 have Eo:=hO'.grown Af Dy Ee
 rw[<-HE'.out]at Gf
 have HO4:=hid Gf
 obtain⟨a4,c4,rfl,_⟩:=Gf.made (w:=w) Eo
 clear Gf hO' Ge Dy Af hb
 go_wp2
 go_roundw
 case rel=>exact⟨j+1,by omega,by go_num,⟨_,_,rfl⟩,HO4,Eo⟩
 case measure=>simp[intOf];omega):p:=h
theorem QA132{p:Prop}(h:p:=by
 go_enter Tryz.func41,Tryz.ntmps41
 go_wp2
 go_ret
 exact⟨rfl,rfl⟩):p:=h
def nN (k:Int):Int:=if k=0 then 0 else 1
def cW (l:List Int):List Int:=l.map nN
theorem aBp (k:Int):0<=nN k/\nN k<=255:=by unfold nN;split <;> omega
theorem kL (l:List Int):(cW l).length=l.length:=by simp[cW]
theorem aDv {l:List Int}{j:Nat}(h:j<l.length):(cW l)[j]?.getD 0=nN (l[j]?.getD 0):=by simp[cW,h]
theorem wL (l:List Int):∀x ∈ cW l,0<=x/\x<=255:=by
 intro x hx;obtain⟨k,_,rfl⟩:=zE1.1 hx;exact aBp k
theorem aBo {l k:List Int}{j:Nat}(h:j<k.length):l++(cW k).take (j+1)=l++((cW k).take j++[nN (k[j]?.getD 0)]):=by
 rw[zF1 (by rw[kL];exact h)];congr 3;simp[cW,h]
set_option maxRecDepth 100000 in
theorem kF (a:Option Addr)(n c:Nat)(l:List Int)(a2:Option Addr)(n2 c2:Nat)(k:List Int)(w:World)(h:aV w a n l)(Ek:a=none->c=0)(h2:aFq w a2 n2 k)(hn:n<=1048576)(hn2:n2<=1048576):
  Calls Tryz.prog 56 #[.slice a n c,.slice a2 n2 c2] w fun e w'=>e=.returned (.int .i64 (fZ (l++cW k) (n+n2)))/\Below w.heap.size w w':=by
 obtain⟨Dv,Ha,Dl⟩:=h2;have hE:=lP w;have hBE:=gV w;have hrE:=h.below hBE;have Hl2:=hid Dv;clear h Dv;go_enter Tryz.func56,Tryz.ntmps56;go_wp2_with (at_builtin;refine cC rfl _ _ rfl w.heap.size _ 0 [] rfl hE a n c l rfl hrE Ek A0 A8 ?_);intro v1 w1 ho1 hg1;have hb1:=hE.grown hg1 hBE A8;have Hr:Own w1 w.heap.size v1 (n+0) (l++(cW k).take 0):=by simpa using ho1
 have Mu:Own w1 w.heap.size v1 n l:=by simpa using ho1
 clear hE hBE hrE Ek hg1 ho1;obtain⟨a1,c1,rfl,_⟩:=Mu.made (w:=w) hb1;clear Mu;go_wp2;go_loopw [5,6] (fun s i wr=>∃j:Nat,j<=n2/\i=.int .i64 j/\Hid (∃a c,s=.slice a (n+j) c)/\Hid (Own wr w.heap.size s (n+j) (l++(cW k).take j))/\Below w.heap.size w wr) (fun _ i _=>n2-(intOf i).toNat)
 case atStart=>exact⟨0,zD1 _,rfl,⟨_,_,rfl⟩,Hr,hb1⟩
 case round=>
  obtain⟨j,hj,rfl,hsh,ho,hb⟩:=hrel;obtain⟨a3,c3,rfl⟩:=hsh.out;clear Hr hb1;by_cases Ad:j<n2
  .
   obtain⟨b,off,rfl,hd⟩:=Dl A0;have hx:=(hb.cell (zI2 w _ (hd j Ad))).trans (hd j Ad);have hs:=hb.size;have HK:Hid (l++(cW k).take (j+1)=l++((cW k).take j++[nN (k[j]?.getD 0)])):=aBo (by rw[Hl2.out];exact Ad);have HO:=ho.out;clear Dl hd ho;by_cases h0:k[j]?.getD 0=0
   .
    have hk:nN (k[j]?.getD 0)=0:=by simp[nN,h0]
    rw[h0]at hx;have HE:=HK.out;rw[hk]at HE;have HE':=hid HE;clear HE hk HK h0;have hO':=HO.alloc (.cells #[.int .u8 0] 5);have Ge:=oO wr 0 A0 A0;have Dy:Below w.heap.size w (wr.alloc (.cells #[.int .u8 0] 5)):=hb.alloc hs _;have Ee:=Dy.size;clear HO;go_wp2_with (at_builtin;refine cC rfl _ _ rfl w.heap.size _ (n+j) _ rfl hO' _ 1 1 [0] rfl Ge A8 A0 Ee ?_);exact QA43
   .
    have hk:nN (k[j]?.getD 0)=1:=by simp[nN,h0]
    have HE:=HK.out;rw[hk]at HE;have HE':=hid HE;have Ae:(k[j]?.getD 0 != 0)=true:=by simp[h0]
    clear HE hk HK;have hO':=HO.alloc (.cells #[.int .u8 1] 5);have Ge:=oO wr 1 A0 A0;have Dy:Below w.heap.size w (wr.alloc (.cells #[.int .u8 1] 5)):=hb.alloc hs _;have Ee:=Dy.size;clear HO;generalize k[j]?.getD 0=x at *;go_wp2_with (at_builtin;refine cC rfl _ _ rfl w.heap.size _ (n+j) _ rfl hO' _ 1 1 [1] rfl Ge A8 A0 Ee ?_);exact QA43
  .
   have Mz:j=n2:=A0;subst Mz;have hr:=ho.out.row;rw[zD3 (by rw[kL,Hl2.out];exact zB0 _)]at hr;clear Dl ho;go_wp2_with fail;refine(aKg _ _ _ _ _ hr A0).mono ?_;rintro e w5 ⟨rfl,rfl⟩;go_wp2;go_ret;exact⟨rfl,hb⟩
theorem aKa (x:Bool)(w:World):Calls Tryz.prog 41 #[.bool x] w fun e w'=>e=.returned (.int .i64 (if x then 1 else 0))/\w'=w:=by
 cases x
 .
  exact QA132
 .
  exact QA132
set_option maxRecDepth 100000 in
theorem aBv (a:Option Addr)(n c:Nat)(l:List Int)(a2:Option Addr)(n2 c2:Nat)(k:List Int)(w:World)(h:aV w a n l)(h2:aFq w a2 n2 k)(hn:n<=1048576)(hn2:n2<=1048576):
  Calls Tryz.prog 19 #[.slice a n c,.slice a2 n2 c2] w fun e w'=>e=.returned (.int .i64 (fZ (l++cW k) (n+n2)))/\Below w.heap.size w w':=by
 obtain⟨i0,hi,Dd,Db,Cz⟩:=info_parts uI;obtain⟨Dv,Ha,Dl⟩:=h2;have Hl2:=hid Dv;clear Dv;go_enter Tryz.func19,Tryz.ntmps19;go_wp2_with (at_make;refine wpList_make_full _ rfl _ _ 22 rfl w.heap.size 5 i0 (.int .u8 0) 1 Tryz.underlying22 hi Dd Db _ _ _ _ n2 rfl rfl rfl rfl A86 A11 (zB0 _) ?_);intro w1 Aj Dw;have hb:Below w.heap.size w w1:=(zD2 _ _).grown Dw (zB0 _) (by intro k hk;cases hk);have HO:w1.ownsRow w.heap.size 5 1 (.slice (some ⟨w.heap.size,0,none⟩) n2 n2) n2 (((cW k).take 0++(List.replicate n2 0).drop 0).map (Value.int .u8)):=by
  have e:(madeCells #[Value.int IntKind.u8 0] n2).toList=List.replicate n2 (Value.int IntKind.u8 0):=toList_madeCells_one _ _;rw[e]at Aj;simpa using Aj
 clear Aj Dw;go_wp2;go_loopw [6,7,13] (fun _ _ i wr=>∃j:Nat,j<=n2/\i=.int .i64 j/\Hid (wr.ownsRow w.heap.size 5 1 (.slice (some ⟨w.heap.size,0,none⟩) n2 n2) n2 (((cW k).take j++(List.replicate n2 0).drop j).map (Value.int .u8)))/\Below w.heap.size w wr) (fun _ _ i _=>n2-(intOf i).toNat)
 case atStart=>exact⟨0,zD1 _,rfl,HO,hb⟩
 case round=>
  obtain⟨j,hj,rfl,Aj,Cv⟩:=hrel;clear HO hb;by_cases Ad:j<n2
  .
   obtain⟨b,off,rfl,hd⟩:=Dl A0;have hx:=(Cv.cell (zI2 w _ (hd j Ad))).trans (hd j Ad);have hcy:∃u,wr.cell? ⟨w.heap.size,j,none⟩=some u:=by
    rw[Aj.out.cellAt j A0];exact⟨_,zA0 (by have:=Aj.out.1;omega)⟩
   obtain⟨u,hcy⟩:=hcy;have hfy:=Aj.out.frozenAt j;have R:=aCg (l:=cW k) (by rw[kL];exact Hl2.out) (List.length_replicate) Ad (zB0 _) Aj.out Cv;rw[aDv (by rw[Hl2.out];exact Ad)]at R;simp only[nN]at R;have R1:=hid R.1;have R2:=hid R.2;clear R Aj Dl hd;generalize k[j]?.getD 0=x at *;go_wp2_with fail;refine(aKa _ _).mono ?_;rintro e w5 ⟨rfl,rfl⟩;go_wp2;go_roundw
   case rel=>
    exact⟨j+1,by omega,by go_num,R1,R2.out⟩
   case measure=>simp[intOf];omega
  .
   have Mz:j=n2:=A0;subst Mz;have Au:aV wr (some ⟨w.heap.size,0,none⟩) j (cW k):=by
    have ho:Own wr w.heap.size (.slice (some ⟨w.heap.size,0,none⟩) j j) j (cW k):=by
     refine⟨?_,wL k⟩;have:=Aj.out;rwa [zD3 (by rw[kL,Hl2.out];exact zB0 _),List.drop_of_length_le A8,List.append_nil]at this
    exact ho.row
   have hr:=h.below Cv;clear Dl Aj h;go_wp2_with fail;refine(aL0 _ _ _ _ _ _ _ _ _ hr Au A0 A0).mono ?_;rintro e w5 ⟨v,rfl,ho,hb5⟩;have Wq:=Cv.trans (hb5.mono Cv.size);obtain⟨a6,c6,rfl,m6⟩:=ho.made hb5;have hr6:=m6.row;clear m6 ho hb5 Cv Au hr;go_wp2_with fail;refine(aMd _ _ _ _ _ hr6 A0).mono ?_;rintro e w7 ⟨rfl,rfl⟩;go_wp2;go_ret;exact⟨rfl,Wq⟩
section
namespace Cp
theorem aC6 {W:World}{m:Mo}{m0 m1 m2 m3:Value}(h:aL W m.fl [m0,m1,m2,m3]):∃a n q,m3=.slice a n q/\m.procs.length=n/\aW W a q 5 (m.procs.map Pr.fl):=by
 obtain⟨y0,_,e0,_,y1,_,e1,_,y2,_,e2,_,y3,_,e3,h3,_⟩:=h;simp only[zJ2]at e0;obtain⟨rfl,rfl⟩:=e0;simp only[zJ2]at e1;obtain⟨rfl,rfl⟩:=e1;simp only[zJ2]at e2;obtain⟨rfl,rfl⟩:=e2;simp only[zJ2]at e3;obtain⟨rfl,_⟩:=e3;obtain⟨a,q,e,hL⟩:=h3.list;exact⟨a,_,q,by rw[e,zB2],rfl,hL⟩
theorem aI5 {W:World}{m:Mo}{a:Option Addr}{q i:Nat}{p:Pr}(h:aW W a q 5 (m.procs.map Pr.fl))(hi:m.procs[i]?=some p):∃b off v0 v1 v2 v3 v4,a=some ⟨b,off,none⟩/\aL W p.fl [v0,v1,v2,v3,v4]/\W.cell? ⟨b,off+i*5,none⟩=some v0/\W.cell? ⟨b,off+i*5+1,none⟩=some v1/\W.cell? ⟨b,off+i*5+2,none⟩=some v2/\W.cell? ⟨b,off+i*5+3,none⟩=some v3/\W.cell? ⟨b,off+i*5+4,none⟩=some v4:=by
 obtain⟨b,off,vs,e2,hr,hc⟩:=h.cellsAt (show(m.procs.map Pr.fl)[i]?=some p.fl by rw[zA2,hi];rfl);exact QA57
structure Pc (E:En) (d:GD) (w:World) (c:Nat) (d':GD) (w':World):Prop where
 gs:GS E d' w'
 fr:d'.fr=d.fr
 r1:d'.r 1=d.r 1
 n0:(d.r 0).n<=(d'.r 0).n
 n1:(d'.r 0).n<=(d.r 0).n+c
 n3:(d.r 3).n<=(d'.r 3).n
 x3:∃us,(d'.r 3).xs=(d.r 3).xs++us
 x4:∃us,(d'.r 4).xs=(d.r 4).xs++us
 kt:Kt w w'
 sl:d'.sl=0
 s4:d'.s4=0
section
variable {E:En} {d d1:GD} {w w1 w2:World} {c:Nat} {Q:Ending->World->Prop}
theorem St.pc {c':Nat}{d2 d3:GD}{w3:World}(s:St E d1 w1 c d2 w2)(h:Pc E d2 w2 c' d3 w3)(e0:d1.r=d.r)(e1:d1.fr=d.fr)(kt:Kt w w1):Pc E d w (c+c') d3 w3:=by
 obtain⟨u3,h3⟩:=s.up.x3;obtain⟨u4,h4⟩:=s.up.x4;obtain⟨v3,k3⟩:=h.x3;obtain⟨v4,k4⟩:=h.x4;have a1:=s.up.n0;have a2:=s.up.n1;have a3:=s.up.n3;have a4:=s.up.r1;rw[e0]at h3 h4 a1 a2 a3 a4;exact⟨h.gs,h.fr.trans (s.up.fr.trans e1),h.r1.trans a4,zF2 a1 h.n0,by have:=h.n1;omega,zF2 a3 h.n3,⟨u3++v3,by rw[k3,h3,zD0]⟩,⟨u4++v4,by rw[k4,h4,zD0]⟩,kt.trans (s.kt.trans h.kt),h.sl,h.s4⟩
theorem St.toPc {d2:GD}(s:St E d1 w1 c d2 w2)(e0:d1.r 0=d.r 0)(e1:d1.r 1=d.r 1)(e3:d1.r 3=d.r 3)(e4:d1.r 4=d.r 4)(ef:d1.fr=d.fr)(kt:Kt w w1):Pc E d w c d2 w2:=by
 have a1:=s.up.n0;have a2:=s.up.n1;have a3:=s.up.n3;have a4:=s.up.r1;have x3:=s.up.x3;have x4:=s.up.x4;rw[e0]at a1 a2;rw[e3]at a3 x3;rw[e4]at x4;exact⟨s.gs,s.up.fr.trans ef,a4.trans e1,a1,a2,a3,x3,x4,kt.trans s.kt,s.sl,s.s4⟩
theorem GS.proc5 (h:GS E d w)(hE:dX E){p:Pr}{v0 v1 v2 v3 v4:Value}(hr:aL E.w0 p.fl [v0,v1,v2,v3,v4])(hl:p.params.length<=4/\p.locals.length<=8):GS E { d with p:=p,p0:=v0,p1:=v1,p2:=v2,p3:=v3,p4:=v4 } (w.setCells E.g 5 [v0,v1,v2,v3,v4])/\Kt w (w.setCells E.g 5 [v0,v1,v2,v3,v4]):=by
 have e:=h.el;refine⟨h.own hE (d':={ d with p:=p,p0:=v0,p1:=v1,p2:=v2,p3:=v3,p4:=v4 }) rfl ?_ ⟨e.e0,e.e1,e.e2,e.n2,e.e3,e.m3,e.e4,e.n4,hr,hl⟩,h.kto _ _⟩;exact((((h.blk.set (i:=5) v0).set (i:=6) v1).set (i:=7) v2).set (i:=8) v3).set (i:=9) v4
end
end Cp
end
section
theorem A30{p:Prop}(h:p:=by have:=Gm.out;omega):p:=h
theorem A35{p:Prop}(h:p:=by have:=Gn.out;omega):p:=h
theorem QA5{p:Prop}(h:p:=by
 have S20:=St.start Nv.out.1 (Du.out.2.2.2.2.2.2.1.trans HQ.out.sl) (Du.out.2.2.2.2.2.2.2.trans HQ.out.s4)
 have Vu:Hid (Gl.p=p):=Du.out.2.2.2.2.2.1.trans (HQ.out.up.p.1.trans HER.out.2.2)
 have Gm:Hid ((Gl.r 0).n+5900<=1000000):=by
  have:=Gn.out
  have:=HQ.out.up.n1
  show _<=_
  rw[Du.out.1]
  omega
 have Nm:Hid (Blk Xa gx 135 [.slice a0 p.name.length k0,.bool p.opn,.slice a2 n2 k2,.slice a3 n3 k3,.slice a4 n4 k4]):=Nv.out.2.2
 have HNS':=HNS.out
 have Pu:=S20.gs.blk.cell (i:=11) (v:=.int .i64 Gl.fr) rfl
 go_wp2_with fail
 clear Pu
 refine eO HE.out S20 A30 (fun d21 w21 q21=>?_)
 go_wp2_with fail
 refine eO HE.out q21 A30 (fun d22 w22 q22=>?_)
 clear q21 S20
 go_wp2_with fail
 go_loopw [9] (fun i wr=>∃(z:Nat) (d':GD),z<=n3/\i=.int .i64 z/\Hid (St E Gl Xa (2+z) d' wr)) (fun i _=>n3-(intOf i).toNat)
 case atStart=>exact⟨0,d22,zD1 _,rfl,q22⟩
 case round=>
  obtain⟨z,d23,hz,rfl,Hs⟩:=hrel
  have Xl:(z:Int)<=8:=A0
  have x3:=(Hs.out.b Nm.out).k 3
  by_cases Ad:z<n3
  .
   have Xm:(z:Int)<(n3:Int):=A0
   have x2:=(Hs.out.b Nm.out).k 2
   clear q22
   go_wp2_with fail
   clear x2 x3
   refine eO HE.out Hs.out A30 (fun d24 w24 Xf=>?_)
   go_wp2
   go_roundw
   case rel=>exact⟨z+1,d24,by omega,by go_num,Xf.wide A0⟩
   case measure=>simp[intOf];omega
  .
   have:n3=z:=A0
   subst this
   have Ku:=Hs.out
   clear q22 Hs
   have x4:=(Ku.b Nm.out).k 4
   go_wp2_with fail
   clear x3 x4
   have Kf:=aJw p.body E d23 wr
   rw[HN4.out]at Kf
   refine Kf _ a4 k4 HE.out Ku.gs Ku.sl Ku.s4 (by have:=Ku.up.n1;have:=Gm.out;omega) (by rw[Ku.up.p.1,Vu.out];exact Do.out) Ds.out (fun d24 w24 Kg=>?_)
   have Xf:=Ku.trans Kg
   clear Ku Kg Kf
   go_wp2_with fail
   refine eO HE.out Xf A30 (fun d25 w25 q25=>?_)
   clear Xf
   go_wp2_with fail
   refine vT HE.out q25 A30 (fun d26 w26 q26=>?_)
   clear q25
   go_wp2_with fail
   have HZ:Pc E d w 5100 d26 w26:=(HQ.out.pc (q26.toPc Du.out.1 Du.out.2.1 Du.out.2.2.1 Du.out.2.2.2.1 Du.out.2.2.2.2.1 Nv.out.2.1) HER.out.1 HER.out.2.1 HKT.out).wide A0
   have Nw:=HK.out _ _ HZ (q26.up.p.1.trans Vu.out)
   rw[<-HER.out.1,HCN.out]at Nw
   exact Nw):p:=h
theorem QA42{p:Prop}(h:p:=by
 rw[hax]at r1
 go_wp2_with fail
 clear r1 x2
 refine eO HE.out Hs.out A35 (fun d5 w5 q5=>?_)
 go_wp2_with fail
 refine eO HE.out q5 A35 (fun d6 w6 q6=>?_)
 clear q5
 go_wp2
 go_roundw
 case rel=>exact⟨z+1,d6,by omega,by go_num,q6.wide A0⟩
 case measure=>simp[intOf];omega):p:=h
namespace Cp
variable{E:En}{w:World}
theorem Pc.wide{d d':GD}{w':World}{c c':Nat}(h:Pc E d w c d' w')(hc:c<=c'):Pc E d w c' d' w':=⟨h.gs,h.fr,h.r1,h.n0,by have:=h.n1;omega,h.n3,h.x3,h.x4,h.kt,h.sl,h.s4⟩
theorem aKt{W:World}{ps:List Pa}{a:Option Addr}{q i:Nat}{x:Pa}(h:aW W a q 2 (ps.map Pa.fl))(hi:ps[i]?=some x):∃b off,a=some ⟨b,off,none⟩/\W.cell? ⟨b,off+i*2+1,none⟩=some (.bool x.arr):=by
 obtain⟨b,off,vs,e2,hr,hc⟩:=h.cellsAt (show(ps.map Pa.fl)[i]?=some x.fl by rw[zA2,hi];rfl);obtain⟨v0,_,rfl,_,v1,_,rfl,rfl,rfl⟩:=hr;exact⟨b,off,e2,hc 1 _ rfl⟩
theorem GS.bodyS{d:GD}(h:GS E d w)(hE:dX E){a:Nat}(ha:a<E.m.procs.length)(x:Int):∃b n q,E.m.procs.length=n/\w.cell? ⟨E.g,14,none⟩=some (.slice (some ⟨b,0,none⟩) n q)/\(∃y,w.cell? ⟨b,a,none⟩=some y)/\w.frozen? ⟨b,a,none⟩=false ∧
  ∃d':GD,(d'.r 0=d.r 0/\d'.r 1=d.r 1/\d'.r 3=d.r 3/\d'.r 4=d.r 4/\d'.fr=d.fr/\d'.p=d.p/\d'.sl=d.sl/\d'.s4=d.s4)/\GS E d' (w.setCell ⟨b,a,none⟩ (.int .i64 x))/\Kt w (w.setCell ⟨b,a,none⟩ (.int .i64 x)):=by
 have hr:=h.row 2 A0;obtain⟨a0,q,e,_,_,_,ha0⟩:=aH hr;have hn:=h.el.n2;obtain⟨b,rfl⟩:=ha0 A0;have Di:=hr;rw[e]at Di;have Ah:(d.r 2).xs.length=(d.r 2).n*1:=hr.1;obtain⟨y,hy⟩:∃y,(d.r 2).xs[a]?=some y:=⟨_,zA0 A0⟩
 have el:=h.el;have hs:=h.cell hE (i:=2) A0 e a (.int .i64 x) ⟨el.e0,el.e1,fun u hu=>(List.mem_or_eq_of_mem_set hu).elim (el.e2 u) (fun e=>⟨x,e⟩),el.n2,el.e3,el.m3,el.e4,el.n4,el.rp,el.hl⟩;exact⟨b,_,q,hn.symm,h.blk.cell (i:=14) A88,⟨y,dL Di _ _ hy⟩,Di.frozenAt _,d.put 2 ⟨(d.r 2).v,(d.r 2).n,(d.r 2).xs.set a (.int .i64 x)⟩,⟨rfl,rfl,rfl,rfl,rfl,rfl,rfl,rfl⟩,hs.1,hs.2⟩
set_option maxHeartbeats 40000000 in
theorem aN4{d:GD}{Q:Ending->World->Prop}(hE:dX E)(hG:GS E d w)(h1:d.sl=0)(h2:d.s4=0){j:Nat}{p:Pr}(hj:E.m.procs[j]?=some p)(hn:(d.r 0).n+6000<=1000000)(k:∀d' w',Pc E d w 5100 d' w'->d'.p=p->Q (.returned (.int .i64 ((d.r 0).n:Int))) w'):
  Calls Tryz.prog 55 #[.pointer (some ⟨E.g,0,none⟩),.int .i64 j] w Q:=by
 have HE:Hid (dX E):=hE;have HK:Hid (∀d' w',Pc E d w 5100 d' w'->d'.p=p->Q (.returned (.int .i64 ((d.r 0).n:Int))) w'):=k;obtain⟨ap,np,qp,em,Eu,hL⟩:=aC6 hE.rm;have hp8:np<=8:=by rw[<-Eu];exact hE.ok.procs
 have hjp:(j:Int)<(np:Int):=by
  have:=(zC1.1 hj).1;omega
 have hd:=hE.ok.head p (zA3 hj);have Do:Hid (eE E.m E.fs p p.body=true):=hE.ok.gd p (zA3 hj);have HNS:Hid (aK p.body<=250):=hE.ok.nd p (zA3 hj);obtain⟨b,off,v0,v1,v2,v3,v4,rfl,hr,r0,r1,r2,r3,r4⟩:=aI5 hL hj;obtain⟨_,_,q0,⟨a0,k0,rfl,_⟩,_,_,q1,rfl,_,_,q2,Dv,_,_,q3,Tc,_,_,q4,Tb,_⟩:=id hr;cases q0;cases q1;cases q2;cases q3;cases q4;obtain⟨a2,k2,rfl,Av⟩:=Dv.list;obtain⟨a3,k3,rfl,hL3⟩:=Tc.list;obtain⟨a4,k4,rfl,Bd⟩:=Tb.list;have e2:(p.params.map Pa.fl).length=p.params.length:=zB2 _;have e3:(dI p.locals).length=p.locals.length:=by simp[dI]
 have e4:(sts p.body).length=p.body.length:=by rw[bA,zB2]
 rw[e2]at hr r2;rw[e3]at hr r3;rw[e4]at hr r4;have HL2:Hid (aW E.w0 a2 k2 2 (p.params.map Pa.fl)):=Av;have Ds:Hid (aW E.w0 a4 k4 6 (sts p.body)):=Bd;have hd':=hd;obtain⟨n2,hn2⟩:=zx (p.params.length);obtain⟨n3,hn3⟩:=zx (p.locals.length);obtain⟨n4,hn4⟩:=zx (p.body.length);have Nr:Hid (p.params.length=n2):=hn2.symm;have HN4:Hid (p.body.length=n4):=hn4.symm;rw[<-hn2]at hr r2 hd';rw[<-hn3]at hr r3 hd';rw[<-hn4]at hr r4;clear Dv Tc Tb Av hL3 Bd e2 e3 e4 hn2 hn3 hn4;have c3:w.cell? ⟨E.g,3,none⟩=some (.slice (some ⟨b,off,none⟩) np qp):=hG.blk.cell (i:=3) (by rw[<-em];rfl);have Bf:=hG.bel;refine M945 ?_;intro r0 r1 r2 r3 r4;clear Bf;have B0:Blk (w.alloc (.cells #[.slice a0 p.name.length k0,.bool p.opn,.slice a2 n2 k2,.slice a3 n3 k3,.slice a4 n4 k4] 135 (0,0))) w.heap.size 135 [.slice a0 p.name.length k0,.bool p.opn,.slice a2 n2 k2,.slice a3 n3 k3,.slice a4 n4 k4]:=Blk.new w 135 [.slice a0 p.name.length k0,.bool p.opn,.slice a2 n2 k2,.slice a3 n3 k3,.slice a4 n4 k4];have HW1:Below w.heap.size w (w.alloc (.cells #[.slice a0 p.name.length k0,.bool p.opn,.slice a2 n2 k2,.slice a3 n3 k3,.slice a4 n4 k4] 135 (0,0))):=(zD2 _ _).alloc (zB0 _) _;have Wz:=hG.on hE HW1;have HR:Hid (aL E.w0 p.fl [.slice a0 p.name.length k0,.bool p.opn,.slice a2 n2 k2,.slice a3 n3 k3,.slice a4 n4 k4]):=hr;have HD:Hid (p.params.length<=4/\p.locals.length<=8):=hd;clear hG hr hd hE k;go_enter Tryz.func55,Tryz.ntmps55;go_upto_region 2 with fail;clear r0 r1 r2 r3 r4 c3;generalize w.alloc (.cells #[.slice a0 p.name.length k0,.bool p.opn,.slice a2 n2 k2,.slice a3 n3 k3,.slice a4 n4 k4] 135 (0,0))=w1 at *;generalize Ar:w.heap.size=gx at *;have GQ:=Wz.proc5 HE.out HR.out HD.out;simp only[World.setCells]at GQ;have y0:=B0.cell (i:=0) (v:=.slice a0 p.name.length k0) rfl;have y1:=B0.cell (i:=1) (v:=.bool p.opn) rfl;have y2:=B0.cell (i:=2) (v:=.slice a2 n2 k2) rfl;have y3:=B0.cell (i:=3) (v:=.slice a3 n3 k3) rfl;have y4:=B0.cell (i:=4) (v:=.slice a4 n4 k4) rfl;have C0:=Wz.blk;have C1:=C0.set (i:=5) (.slice a0 p.name.length k0);have C2:=C1.set (i:=6) (.bool p.opn);have C3:=C2.set (i:=7) (.slice a2 n2 k2);have C4:=C3.set (i:=8) (.slice a3 n3 k3);have C5:=C4.set (i:=9) (.slice a4 n4 k4);have u0:=C0.k 5;have e0:=C0.free 5;have u1:=C1.k 6;have e1:=C1.free 6;have u2:=C2.k 7;have e2:=C2.free 7;have u3:=C3.k 8;have e3:=C3.free 8;have u4:=C4.k 9;have e4:=C4.free 9;have Et:Hid (∃d2:GD,GS E d2 (((((w1.setCell ⟨E.g,5,none⟩ (.slice a0 p.name.length k0)).setCell ⟨E.g,6,none⟩ (.bool p.opn)).setCell ⟨E.g,7,none⟩ (.slice a2 n2 k2)).setCell ⟨E.g,8,none⟩ (.slice a3 n3 k3)).setCell ⟨E.g,9,none⟩ (.slice a4 n4 k4))/\d2.r=d.r/\d2.fr=d.fr/\d2.sl=0/\d2.s4=0/\d2.p=p):=⟨_,GQ.1,rfl,rfl,h1,h2,rfl⟩
 have HKT:Hid (Kt w (((((w1.setCell ⟨E.g,5,none⟩ (.slice a0 p.name.length k0)).setCell ⟨E.g,6,none⟩ (.bool p.opn)).setCell ⟨E.g,7,none⟩ (.slice a2 n2 k2)).setCell ⟨E.g,8,none⟩ (.slice a3 n3 k3)).setCell ⟨E.g,9,none⟩ (.slice a4 n4 k4))):=(Kt.below (by rw[Ar];exact HW1)).trans GQ.2;have HX:Hid (Blk (((((w1.setCell ⟨E.g,5,none⟩ (.slice a0 p.name.length k0)).setCell ⟨E.g,6,none⟩ (.bool p.opn)).setCell ⟨E.g,7,none⟩ (.slice a2 n2 k2)).setCell ⟨E.g,8,none⟩ (.slice a3 n3 k3)).setCell ⟨E.g,9,none⟩ (.slice a4 n4 k4)) gx 135 [.slice a0 p.name.length k0,.bool p.opn,.slice a2 n2 k2,.slice a3 n3 k3,.slice a4 n4 k4]):=GQ.2.b A6 B0;clear GQ B0 C0 C1 C2 C3 C4 C5 Wz Ar HW1;go_upto_region 3 with fail;clear y0 y1 y2 y3 y4 u0 u1 u2 u3 u4 e0 e1 e2 e3 e4;generalize (((((w1.setCell ⟨E.g,5,none⟩ (.slice a0 p.name.length k0)).setCell ⟨E.g,6,none⟩ (.bool p.opn)).setCell ⟨E.g,7,none⟩ (.slice a2 n2 k2)).setCell ⟨E.g,8,none⟩ (.slice a3 n3 k3)).setCell ⟨E.g,9,none⟩ (.slice a4 n4 k4))=w2 at *;obtain⟨d2,G2,er,ef,es,e4,ep⟩:=Et.out;have HER:Hid (d2.r=d.r/\d2.fr=d.fr/\d2.p=p):=⟨er,ef,ep⟩
 have S0:=St.start G2 es e4;have Gn:Hid ((d2.r 0).n+6000<=1000000):=by rw[er];exact hn
 have Qn:j<E.m.procs.length:=(zC1.1 hj).1;have HJ:Hid (j<E.m.procs.length):=Qn;clear Et G2 er ef es e4 ep hn hj Qn hL em Eu;obtain⟨ca,cn,cq,_,en,_,_,Hx⟩:=S0.code;have HCN:Hid ((d2.r 0).n=cn):=en;have x1:=HX.out.cell (i:=1) (v:=.bool p.opn) rfl;clear en;by_cases hop:p.opn=true
 .
  rw[hop]at x1;have Pu:=S0.gs.blk.cell (i:=11) (v:=.int .i64 d2.fr) rfl;go_wp2_with fail;clear x1 Pu Hx;refine eO HE.out S0 A35 (fun d3 w3 q3=>?_);clear S0;go_wp2_with fail;go_loopw [7] (fun i wr=>∃(z:Nat) (d':GD),z<=n2/\i=.int .i64 z/\Hid (St E d2 w2 (1+2*z) d' wr)) (fun i _=>n2-(intOf i).toNat)
  case atStart=>exact⟨0,d3,zD1 _,rfl,q3⟩
  case round=>
   obtain⟨z,d4,hz,rfl,Hs⟩:=hrel;have Xl:(z:Int)<=4:=A0;have x2:=(Hs.out.b HX.out).k 2;by_cases Ad:z<n2
   .
    have Xm:(z:Int)<(n2:Int):=A0;obtain⟨x,hx⟩:∃x,p.params[z]?=some x:=⟨_,zA0 (by rw[Nr.out];exact Ad)⟩
    obtain⟨b2,o2,rfl,r1⟩:=aKt HL2.out hx;have r1:=aB r1 Hs.out.bel;clear hx q3;by_cases hax:x.arr=true
    .
     exact QA42
    .
     rw[Bool.not_eq_true]at hax;exact QA42
   .
    have:n2=z:=A0;subst this;have q4:=Hs.out;clear q3 Hs;go_wp2_with fail;clear x2;refine eO HE.out q4 A35 (fun d5 w5 q5=>?_);clear q4;go_wp2_with fail;refine eO HE.out q5 A35 (fun d6 w6 q6=>?_);clear q5;go_wp2_with fail;refine eO HE.out q6 A35 (fun d7 w7 q7=>?_);clear q6;go_wp2_with fail;refine eO HE.out q7 A35 (fun d8 w8 q8=>?_);clear q7;go_wp2_with fail;have HQ:Hid (St E d2 w2 (1+2*n2+1+1+1+1) d8 w8):=q8;obtain⟨bb,nb,qb,enb,c14,⟨ob,cob⟩,fob,Gl,Uq,g20,Jq⟩:=q8.gs.bodyS HE.out HJ.out ((d8.r 0).n:Int);have Mz:(j:Int)<(nb:Int):=by have:=HJ.out;omega
    obtain⟨cb,cm,cqb,_,em2,Ce,_,Fo⟩:=q8.code;have hm9:cm<=1000000:=by have:=Gn.out;omega
    have Jp:Hid ((d8.r 0).n=cm):=em2;rw[em2]at g20 Jq;have Du:Hid (Gl.r 0=d8.r 0/\Gl.r 1=d8.r 1/\Gl.r 3=d8.r 3/\Gl.r 4=d8.r 4/\Gl.fr=d8.fr/\Gl.p=d8.p/\Gl.sl=d8.sl/\Gl.s4=d8.s4):=Uq;have Nv:Hid (GS E Gl (w8.setCell ⟨bb,j,none⟩ (.int .i64 (cm:Int))).drew/\Kt w8 (w8.setCell ⟨bb,j,none⟩ (.int .i64 (cm:Int))).drew/\Blk (w8.setCell ⟨bb,j,none⟩ (.int .i64 (cm:Int))).drew gx 135 [.slice a0 p.name.length k0,.bool p.opn,.slice a2 n2 k2,.slice a3 n3 k3,.slice a4 n4 k4]):=⟨g20.drew HE.out,Jq.trans (Kt.below (zD2 _ _).drew),(Jq.trans (Kt.below (zD2 _ _).drew)).b A6 (q8.b HX.out)⟩
    clear q8 Uq g20 Jq em2 enb Ce;refine rl 11 (S:=fun wl=>wl.cell? ⟨E.g,14,none⟩=some (.slice (some ⟨bb,0,none⟩) nb qb)/\wl.cell? ⟨E.g,10,none⟩=some (.slice cb cm cqb)) A1 ⟨c14,Fo⟩ (fun Aa=>?_);refine M99 ?_;try simp only[nrm]
    refine da 10 fun K hK=>?_;go_simp;refine hK.out _ _ (⟨c14,Fo⟩) (fun Aa=>?_);clear hK K;try simp only[nrm]
    refine ea fun K hK=>?_;go_simp;refine hK.out _ _ ?_;clear hK K Aa Fo c14 cob fob;generalize (w8.setCell ⟨bb,j,none⟩ (.int .i64 (cm:Int))).drew=Xa at *;exact QA5
 .
  rw[Bool.not_eq_true]at hop;rw[hop]at x1;go_wp2_with fail;clear x1 Hx;have HQ:Hid (St E d2 w2 (0) d2 w2):=S0;obtain⟨bb,nb,qb,enb,c14,⟨ob,cob⟩,fob,Gl,Uq,g20,Jq⟩:=S0.gs.bodyS HE.out HJ.out ((d2.r 0).n:Int);have Mz:(j:Int)<(nb:Int):=by have:=HJ.out;omega
  obtain⟨cb,cm,cqb,_,em2,Ce,_,Fo⟩:=S0.code;have hm9:cm<=1000000:=by have:=Gn.out;omega
  have Jp:Hid ((d2.r 0).n=cm):=em2;rw[em2]at g20 Jq;have Du:Hid (Gl.r 0=d2.r 0/\Gl.r 1=d2.r 1/\Gl.r 3=d2.r 3/\Gl.r 4=d2.r 4/\Gl.fr=d2.fr/\Gl.p=d2.p/\Gl.sl=d2.sl/\Gl.s4=d2.s4):=Uq;have Nv:Hid (GS E Gl (w2.setCell ⟨bb,j,none⟩ (.int .i64 (cm:Int))).drew/\Kt w2 (w2.setCell ⟨bb,j,none⟩ (.int .i64 (cm:Int))).drew/\Blk (w2.setCell ⟨bb,j,none⟩ (.int .i64 (cm:Int))).drew gx 135 [.slice a0 p.name.length k0,.bool p.opn,.slice a2 n2 k2,.slice a3 n3 k3,.slice a4 n4 k4]):=⟨g20.drew HE.out,Jq.trans (Kt.below (zD2 _ _).drew),(Jq.trans (Kt.below (zD2 _ _).drew)).b A6 (S0.b HX.out)⟩
  clear S0 Uq g20 Jq em2 enb Ce;refine rl 11 (S:=fun wl=>wl.cell? ⟨E.g,14,none⟩=some (.slice (some ⟨bb,0,none⟩) nb qb)/\wl.cell? ⟨E.g,10,none⟩=some (.slice cb cm cqb)) A1 ⟨c14,Fo⟩ (fun Aa=>?_);refine M99 ?_;try simp only[nrm]
  refine da 10 fun K hK=>?_;go_simp;refine hK.out _ _ (⟨c14,Fo⟩) (fun Aa=>?_);clear hK K;try simp only[nrm]
  refine ea fun K hK=>?_;go_simp;refine hK.out _ _ ?_;clear hK K Aa Fo c14 cob fob;generalize (w2.setCell ⟨bb,j,none⟩ (.int .i64 (cm:Int))).drew=Xa at *;exact QA5
end Cp
end
section
theorem QA127{p:Prop}(h:p:=by
 rcases this with rfl|rfl|rfl <;> rfl):p:=h
namespace Cp
structure Us (E:En) (d:GD) (w:World) (c:Nat) (d':GD) (w':World):Prop where
 gs:GS E d' w'
 r:∀i,i ≠ 1->d'.r i=d.r i
 fr:d'.fr=d.fr
 p:d'.p=d.p
 n:(d'.r 1).n<=(d.r 1).n+c
 kt:Kt w w'
 sl:d'.sl=d.sl
 s4:d'.s4=d.s4
section
variable {E:En} {d d1 d2:GD} {w w1 w2:World} {c c':Nat}
theorem Us.start (h:GS E d w):Us E d w 0 d w:=⟨h,fun _ _=>rfl,rfl,rfl,zB0 _,Kt.refl w,rfl,rfl⟩
theorem Us.trans (s:Us E d w c d1 w1)(t:Us E d1 w1 c' d2 w2):Us E d w (c+c') d2 w2:=⟨t.gs,fun i hi=>(t.r i hi).trans (s.r i hi),t.fr.trans s.fr,t.p.trans s.p,by have:=s.n;have:=t.n;omega,s.kt.trans t.kt,t.sl.trans s.sl,t.s4.trans s.s4⟩
theorem Us.on (s:Us E d w c d1 w1)(hE:dX E)(hb:Below w1.heap.size w1 w2):Us E d w c d1 w2:=⟨s.gs.on hE hb,s.r,s.fr,s.p,s.n,s.kt.trans (Kt.below hb),s.sl,s.s4⟩
theorem Us.wide (s:Us E d w c d1 w1)(hc:c<=c'):Us E d w c' d1 w1:=⟨s.gs,s.r,s.fr,s.p,by have:=s.n;omega,s.kt,s.sl,s.s4⟩
theorem Us.b {g:Nat}{T:TypeId}{vs:List Value}(s:Us E d w c d1 w1)(hb:Blk w g T vs)(hm:aGx T=false:=by decide):Blk w1 g T vs:=s.kt.b hm hb
end
def XF:Nat->List Eg.Fd
 | 0=>[.n,.n,.b 4,.b 4,.l 0 0 0]| n+1=>[.n,.n,.b 4,.b 4,.l (5+n) 0 3]
theorem aQg {n:Nat}(hn:n<=3)(q:Bool):(if q then Eg.Lt (5+n) else (Eg.Dt (5+n)).2)=XF n:=by
 have:n=0\/n=1\/n=2\/n=3:=A0;rcases this with rfl|rfl|rfl|rfl <;> cases q <;> rfl
theorem aR5 {τ:Eg.Sm}{W:World}(hT:Eg.TH τ W){n nk ck i:Nat}{ak:Option Addr}{v0 v1 v2 v3:Value}(hn:n<=3)(h:Eg.RV τ (XF n) [v0,v1,v2,v3,.slice ak nk ck])(hi:i<nk):
  ∃m b off us,m<=3/\ak=some ⟨b,off,none⟩/\Eg.RV τ (XF m) us/\us.length=5/\∀z u,us[z]?=some u->W.cell? ⟨b,off+i*5+z,none⟩=some u:=by
 match n,h with
 | 0,h=>
  obtain⟨_,_,e0,_,_,_,e1,_,_,_,e2,_,_,_,e3,_,_,_,e4,⟨k,hk,hs⟩,_⟩:=h;cases e0;cases e1;cases e2;cases e3;cases e4;obtain⟨a,c,e,_⟩:=hs.sh hT;cases e;omega
 | n+1,h=>
  obtain⟨_,_,e0,_,_,_,e1,_,_,_,e2,_,_,_,e3,_,_,_,e4,⟨k,hk,hs⟩,_⟩:=h;cases e0;cases e1;cases e2;cases e3;cases e4;obtain⟨a,c,e,_⟩:=hs.sh hT;cases e;obtain⟨b,j,c',s,e,_,_,_,_,_,_,hg⟩:=hs.get hT A0;simp only[Value.slice.injEq,true_and]at e;obtain⟨rfl,rfl⟩:=e;have My:(Eg.Rs.rc (5+n)).k=5:=by
   have:n=0\/n=1\/n=2:=A0;exact QA127
  rw[My]at hg ⊢;obtain⟨us,hu,hc⟩:=hg i hi;have Ik:Eg.RV τ (XF n) us:=by
   have:=aQg (n:=n) A0 s.q;rw[<-this];exact hu
  refine⟨n,b,j*5,us,by omega,rfl,Ik, ?_,fun z u hz=>?_⟩
  .
   rw[Eg.RV.length Ik];have:n=0\/n=1\/n=2:=A0;exact QA127
  .
   rw[<-Nat.add_mul];exact hc z u hz
theorem aOm {τ:Eg.Sm}{W:World}(hT:Eg.TH τ W){ks:List Ex}{a:Option Addr}{q i n:Nat}{e:Ex}{v0 v1 v2 v3:Value}(h:aW W a q 5 (exs ks))(hn:n<=3)(ht:Eg.RV τ (XF n) [v0,v1,v2,v3,.slice a ks.length q])(hi:ks[i]?=some e):∃b off u0 u1 u2 u3 u4,a=some ⟨b,off,none⟩/\aL W e.fl [u0,u1,u2,u3,u4]/\(∃m,m<=3/\Eg.RV τ (XF m) [u0,u1,u2,u3,u4])/\W.cell? ⟨b,off+i*5,none⟩=some u0/\W.cell? ⟨b,off+i*5+1,none⟩=some u1/\W.cell? ⟨b,off+i*5+2,none⟩=some u2/\W.cell? ⟨b,off+i*5+3,none⟩=some u3/\W.cell? ⟨b,off+i*5+4,none⟩=some u4:=by
 obtain⟨b,off,u0,u1,u2,u3,u4,rfl,hr,r0,r1,r2,r3,r4⟩:=lS h hi;obtain⟨m,b',Kw,us,hm,e9,hu,hl,hc⟩:=aR5 hT hn ht (i:=i) (zC1.1 hi).1;cases e9
 match us,hl with
 | [x0,x1,x2,x3,x4],_=>
  have q0:=hc 0 _ rfl;have q1:=hc 1 _ rfl;have q2:=hc 2 _ rfl;have q3:=hc 3 _ rfl;have q4:=hc 4 _ rfl;rw[zG1,r0]at q0;rw[r1]at q1;rw[r2]at q2;rw[r3]at q3;rw[r4]at q4;cases q0;cases q1;cases q2;cases q3;cases q4;exact⟨b,off,_,_,_,_,_,rfl,hr,⟨m,hm,hu⟩,r0,r1,r2,r3,r4⟩
theorem El.imp {E:En}{d:GD}(h:El E d){v v0 v1 v2:Value}(hv:Eg.RV E.τ0 [.b 4,.b 4,.n] [v0,v1,v2]):El E ((d.at d.sl d.s4).put 1 ⟨v,(d.r 1).n+1,(d.r 1).xs++[v0,v1,v2]⟩):=
 ⟨h.e0,by
  obtain⟨xss,e,hx⟩:=h.e1;refine⟨xss++[[v0,v1,v2]],by show(d.r 1).xs++_=_;rw[e,List.flatten_append];simp,fun us hu=>?_⟩;rcases List.mem_append.1 hu with hu|hu
  .
   exact hx us hu
  .
   rw[List.mem_singleton.1 hu];exact hv,h.e2,h.n2,h.e3,h.m3,h.e4,h.n4,h.rp,h.hl⟩
end Cp
end
end Go.Proofs.YtcbhdhmhidpdgaaGreatDoor

import Derived.Test.YtnelibmaancmkaaGreatDoorPackK
namespace Go.Proofs.YtnelibmaancmkaaGreatDoor
open Go.RowKit
theorem V68{p:Prop}(h:p:=by rw[Hl.out];omega):p:=h
theorem U157{p:Prop}(h:p:=by
 go_enter Tryz.func119,Tryz.ntmps119
 go_wp2
 go_ret
 exact⟨aE hd.out.symm,rfl⟩):p:=h
def tO (x:Int):Bool:=decide (97<=x) && decide (x<=122)
def upB (x:Int):Bool:=decide (65<=x) && decide (x<=90)
def aFk (x:Int):Bool:=decide (48<=x) && decide (x<=57)
def oO (l:List Int)(g:Bool)(j:Nat):Bool:=
  if j=0 then (if g then upB (l[0]?.getD 0) else tO (l[0]?.getD 0)) else (tO (l[j]?.getD 0) || aFk (l[j]?.getD 0))
def aK (l:List Int)(g:Bool):Bool:=decide (1<=l.length) && decide (l.length<=8) && (List.range l.length).all (oO l g)
theorem dF {l:List Int}{g:Bool}(h:l.length<1):aK l g=false:=by
  unfold aK;rw[decide_eq_false (by omega:¬1<=l.length)];rfl
theorem oP {l:List Int}{g:Bool}(h:8<l.length):aK l g=false:=by
  unfold aK;rw[decide_eq_false (by omega:¬l.length<=8)];simp
theorem kE {l:List Int}{g:Bool}{j:Nat}(h:j<l.length)(hb:oO l g j=false):aK l g=false:=by
  have:(List.range l.length).all (oO l g)=false:=by
    rw[List.all_eq_false]
    exact⟨j,List.mem_range.2 h,by simp[hb]⟩
  unfold aK;rw[this];simp
theorem mM {l:List Int}{g:Bool}(h1:1<=l.length)(h8:l.length<=8)(h:∀j<l.length,oO l g j=true):aK l g=true:=by
  have:(List.range l.length).all (oO l g)=true:=List.all_eq_true.2 fun j hj=>h j (List.mem_range.1 hj)
  unfold aK;rw[this,decide_eq_true h1,decide_eq_true h8];rfl
theorem aDe (x:Int):x<48\/(48<=x/\x<=57)\/(57<x/\x<65)\/(65<=x/\x<=90)\/(90<x/\x<97)\/(97<=x/\x<=122)\/122<x:=V6
theorem iZ {P:Nat->Prop}{k:Nat}(h:∀j<k,P j)(hk:P k):∀j<k+1,P j:=by
  intro j hj
  rcases Nat.lt_or_ge j k with h1|h1
  . exact h j h1
  . have:j=k:=V6
    subst this;exact hk
set_option maxRecDepth 4000 in
set_option maxHeartbeats 4000000 in
theorem bI (a:Option Addr)(n c:Nat)(l:List Int)(g:Bool)(w:World)(h:bW w a n l)(hn:n<=1073741824):
    Calls Tryz.prog 119 #[.slice a n c,.bool g] w fun e w'=>e=.returned (.bool (aK l g))/\w'=w:=by
  obtain⟨hl,hby,hc⟩:=h
  by_cases h0:n<1
  . have hd:Hid (aK l g=false):=dF V6
    clear hc hl hby;exact U157
  by_cases h8:8<n
  . have hd:Hid (aK l g=false):=oP V6
    clear hc hl hby;exact U157
  obtain⟨b,off,rfl,hd⟩:=hc V6;clear hc
  have Hl:Hid (l.length=n):=hl
  clear hl;go_enter Tryz.func119,Tryz.ntmps119;go_wp2
  go_loop [5,6,7,8] (fun i _ _ _=>∃j:Nat,j<=n/\i=.int .i64 j/\Hid (∀m<j,oO l g m=true)) (fun i _ _ _=>n-(intOf i).toNat)
  case atStart=>exact⟨0,Nat.zero_le _,rfl,by intro m hm;omega⟩
  case round=>
    obtain⟨j,hj,rfl,Af⟩:=hrel
    by_cases Ai:j<n
    . have hx:=hd j Ai
      have hb:=oZ hby j;clear hd hby
      have HL:Hid (j<l.length):=by show j<l.length;rw[Hl.out];exact Ai
      generalize hxx:l[j]?.getD 0=x at hx hb
      have HX:Hid (l[j]?.getD 0=x):=hxx
      clear hxx
      by_cases hj0:j=0
      . subst hj0
        have hx0:w.cell? ⟨b,off,none⟩=some (.int .u8 x):=by simpa using hx
        clear hx
        rcases g with _|_ <;> rcases aDe x with hc|⟨hc,hc'⟩|⟨hc,hc'⟩|⟨hc,hc'⟩|⟨hc,hc'⟩|⟨hc,hc'⟩|hc
        all_goals go_wp2
        all_goals
          first
            | (go_ret
               refine⟨aE (kE HL.out ?_).symm,rfl⟩;simp only[oO,if_true,HX.out,tO,upB]
               simp
               omega)
            | (go_round
               case rel=>
                 refine⟨0+1,by omega,by go_num,iZ Af.out ?_⟩
                 simp only[oO,if_true,HX.out,tO,upB]
                 simp
                 omega
               case measure=>simp[intOf];omega)
            | (exfalso
               simp only[Bool.not_eq_eq_eq_not,Bool.not_false,decide_eq_true_eq]at *
               omega)
      . have HJ:Hid (j ≠ 0):=hj0
        have hji:0<(j:Int):=V6
        rcases aDe x with hc|⟨hc,hc'⟩|⟨hc,hc'⟩|⟨hc,hc'⟩|⟨hc,hc'⟩|⟨hc,hc'⟩|hc
        all_goals go_wp2
        all_goals
          first
            | (go_ret
               refine⟨aE (kE HL.out ?_).symm,rfl⟩;simp only[oO,if_neg HJ.out,HX.out,tO,aFk]
               simp
               omega)
            | (go_round
               case rel=>
                 refine⟨j+1,by omega,by go_num,iZ Af.out ?_⟩
                 simp only[oO,if_neg HJ.out,HX.out,tO,aFk]
                 simp
                 omega
               case measure=>simp[intOf];omega)
            | (exfalso
               simp only[Bool.not_eq_eq_eq_not,Bool.not_false,decide_eq_true_eq]at *
               omega)
    . clear hd
      go_wp2;go_ret;have hjn:j=n:=V6;subst hjn
      exact⟨aE (mM V68 V68 (by rw[Hl.out];exact Af.out)).symm,rfl⟩
theorem U77{p:Prop}(h:p:=by
 have hr:(decide ((1:Int)<=(n:Int)) && decide ((n:Int)<=8))=false:=by simp;omega
 clear hc hl hby
 go_enter Tryz.func131,Tryz.ntmps131
 go_wp2_with fail
 refine(gL _ _ _ _).mono ?_
 rintro e w ⟨rfl,rfl⟩
 rw[hr]
 go_wp2
 go_ret
 exact⟨aE hd.out.symm,rfl⟩):p:=h
theorem U129{p:Prop}(h:p:=by
 go_wp2
 go_round
 case rel=>exact⟨j+1,by omega,by go_num,iZ Af.out HN.out⟩
 case measure=>simp[intOf];omega):p:=h
theorem U154{p:Prop}(h:p:=by
 go_wp2
 go_ret
 exact⟨aE HD.out.symm,rfl⟩):p:=h
theorem gL (n lo hi:Int)(w:World):
  Calls Tryz.prog 57 #[.int .i64 n,.int .i64 lo,.int .i64 hi] w fun e w'=>e=.returned (.bool (decide (lo<=n) && decide (n<=hi)))/\w'=w:=by
 by_cases h1:lo<=n
 .
  go_enter Tryz.func57,Tryz.ntmps57;go_wp2;go_ret
  exact⟨aE (by simp[h1]),rfl⟩
 .
  go_enter Tryz.func57,Tryz.ntmps57;go_wp2;go_ret;exact⟨aE V52,rfl⟩
theorem wK (x:Int)(w:World):Calls Tryz.prog 183 #[.int .u8 x] w fun e w'=>e=.returned (.bool (tO x))/\w'=w:=by
 by_cases h1:97<=x
 .
  go_enter Tryz.func183,Tryz.ntmps183;go_wp2;go_ret
  exact⟨aE (by simp[tO,h1]),rfl⟩
 .
  go_enter Tryz.func183,Tryz.ntmps183;go_wp2;go_ret
  exact⟨aE (by simp[tO];omega),rfl⟩
theorem aEw (x:Int)(w:World):Calls Tryz.prog 184 #[.int .u8 x] w fun e w'=>e=.returned (.bool (aFk x))/\w'=w:=by
 by_cases h1:48<=x
 .
  go_enter Tryz.func184,Tryz.ntmps184;go_wp2;go_ret
  exact⟨aE (by simp[aFk,h1]),rfl⟩
 .
  go_enter Tryz.func184,Tryz.ntmps184;go_wp2;go_ret
  exact⟨aE (by simp[aFk];omega),rfl⟩
theorem aEv (x:Int)(g:Bool)(w:World):Calls Tryz.prog 182 #[.int .u8 x,.bool g] w fun e w'=>e=.returned (.bool (if g then upB x else tO x))/\w'=w:=by
 cases g
 .
  go_enter Tryz.func182,Tryz.ntmps182;go_wp2_with fail;refine(wK _ _).mono ?_;rintro e w ⟨rfl,rfl⟩;go_wp2;go_ret;exact⟨rfl,rfl⟩
 .
  by_cases h1:65<=x
  .
   go_enter Tryz.func182,Tryz.ntmps182;go_wp2;go_ret
   exact⟨aE (by simp[upB,h1]),rfl⟩
  .
   go_enter Tryz.func182,Tryz.ntmps182;go_wp2;go_ret
   exact⟨aE (by simp[upB];omega),rfl⟩
set_option maxHeartbeats 4000000 in
theorem dX (a:Option Addr)(n c:Nat)(l:List Int)(g:Bool)(w:World)(h:bW w a n l)(hn:n<=1073741824)(hnc:n<=c):
  Calls Tryz.prog 131 #[.slice a n c,.bool g] w fun e w'=>e=.returned (.bool (aK l g))/\w'=w:=by
 obtain⟨hl,hby,hc⟩:=h
 by_cases h0:n<1
 .
  have hd:Hid (aK l g=false):=dF V6
  exact U77
 by_cases h8:8<n
 .
  have hd:Hid (aK l g=false):=oP V6
  exact U77
 obtain⟨b,off,rfl,hd⟩:=hc V6;clear hc
 have hr:(decide ((1:Int)<=(n:Int)) && decide ((n:Int)<=8))=true:=by simp;omega
 have Hl:Hid (l.length=n):=hl
 clear hl
 have hx0:w.cell? ⟨b,off,none⟩=some (.int .u8 (l[0]?.getD 0)):=by simpa using hd 0 V6
 have Ar:=oZ hby 0
 have H0:Hid (oO l g 0=(if g then upB (l[0]?.getD 0) else tO (l[0]?.getD 0))):=by show oO l g 0=_;simp[oO]
 generalize hxx:l[0]?.getD 0=x at *;clear hxx;go_enter Tryz.func131,Tryz.ntmps131;go_wp2_with fail;refine(gL _ _ _ _).mono ?_;rintro e w ⟨rfl,rfl⟩;rw[hr];go_wp2_with fail;refine(aEv _ _ _).mono ?_;rintro e w ⟨rfl,rfl⟩
 cases hf:(if g then upB x else tO x)
 .
  have HD:Hid (aK l g=false):=kE V68 (H0.out.trans hf)
  clear hf hd;exact U154
 have HF:Hid (oO l g 0=true):=H0.out.trans hf
 clear hf H0 hr hx0
 by_cases hn1:n=1
 .
  have HD:Hid (aK l g=true):=mM V68 V68 (by
   rw[Hl.out,hn1];intro m hm;have:m=0:=V6
   subst this;exact HF.out)
  subst hn1;clear hd HF Hl hby;go_wp2
  all_goals
   refine wp_loop_rounds 1 ?_;rw[rounds_succ];exact U154
 have hc1:¬c=1:=V6;go_wp2
 go_loop [6,22] (fun _ i=>∃j:Nat,j+1<=n/\i=.int .i64 j/\Hid (∀m<j+1,oO l g m=true)) (fun _ i=>n-(intOf i).toNat)
 case atStart=>exact⟨0,by omega,rfl,by intro m hm;(have:m=0:=by omega);subst this;exact HF.out⟩
 case round=>
  obtain⟨j,hj,rfl,Af⟩:=hrel
  by_cases Ai:j+1<n
  .
   have hx:=hd (j+1) Ai
   have hx1:w.cell? ⟨b,off+1+j,none⟩=some (.int .u8 (l[j+1]?.getD 0)):=by rw[<-hx];congr 2;omega
   have hb:=oZ hby (j+1);clear hd hby hx
   have HL:Hid (j+1<l.length):=by show j+1<l.length;rw[Hl.out];exact Ai
   generalize hxx:l[j+1]?.getD 0=y at *
   have HX:Hid (oO l g (j+1)=(tO y || aFk y)):=by show oO l g (j+1)=_;simp[oO,hxx]
   clear hxx;go_wp2_with fail;refine(wK _ _).mono ?_;rintro e w ⟨rfl,rfl⟩
   cases h1:tO y
   .
    go_wp2_with fail;refine(aEw _ _).mono ?_;rintro e w ⟨rfl,rfl⟩
    cases h2:aFk y
    .
     have HD:Hid (aK l g=false):=kE HL.out (by rw[HX.out,h1,h2];rfl)
     clear h1 h2;exact U154
    .
     have HN:Hid (oO l g (j+1)=true):=by show oO l g (j+1)=true;rw[HX.out,h1,h2];rfl
     clear h1 h2;exact U129
   .
    have HN:Hid (oO l g (j+1)=true):=by show oO l g (j+1)=true;rw[HX.out,h1];rfl
    clear h1;exact U129
  .
   clear hd;go_wp2;go_ret;have hjn:j+1=n:=V6;subst hjn
   exact⟨aE (mM V68 V68 (by rw[Hl.out];exact Af.out)).symm,rfl⟩
end Go.Proofs.YtnelibmaancmkaaGreatDoor

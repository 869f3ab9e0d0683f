import Derived.Test.YtffphdacgblaoaaGreatDoorPackA
namespace Go.Proofs.YtffphdacgblaoaaGreatDoor
open Go.RowKit
theorem Q53{p:Prop}(h:p:=by rw[Hl.out];omega):p:=h
theorem U107{p:Prop}(h:p:=by
 go_enter Tryz.func53,Tryz.ntmps53
 go_wp2
 go_ret
 exact⟨aE hd.out.symm,rfl⟩):p:=h
def wJ (x:Int):Bool:=decide (97<=x) && decide (x<=122)
def upB (x:Int):Bool:=decide (65<=x) && decide (x<=90)
def aI6 (x:Int):Bool:=decide (48<=x) && decide (x<=57)
def pU (l:List Int)(g:Bool)(j:Nat):Bool:=
  if j=0 then (if g then upB (l[0]?.getD 0) else wJ (l[0]?.getD 0)) else (wJ (l[j]?.getD 0) || aI6 (l[j]?.getD 0))
def aK (l:List Int)(g:Bool):Bool:=decide (1<=l.length) && decide (l.length<=8) && (List.range l.length).all (pU l g)
theorem dI {l:List Int}{g:Bool}(h:l.length<1):aK l g=false:=by
  unfold aK;rw[zC2 (by omega:¬1<=l.length)];rfl
theorem pW {l:List Int}{g:Bool}(h:8<l.length):aK l g=false:=by
  unfold aK;rw[zC2 (by omega:¬l.length<=8)];simp
theorem lH {l:List Int}{g:Bool}{j:Nat}(h:j<l.length)(hb:pU l g j=false):aK l g=false:=by
  have:(List.range l.length).all (pU l g)=false:=by
    rw[List.all_eq_false]
    exact⟨j,List.mem_range.2 h,by simp[hb]⟩
  unfold aK;rw[this];simp
theorem nM {l:List Int}{g:Bool}(h1:1<=l.length)(h8:l.length<=8)(h:∀j<l.length,pU l g j=true):aK l g=true:=by
  have:(List.range l.length).all (pU l g)=true:=zF3.2 fun j hj=>h j (List.mem_range.1 hj)
  unfold aK;rw[this,zB3 h1,zB3 h8];rfl
theorem aGe (x:Int):x<48\/(48<=x/\x<=57)\/(57<x/\x<65)\/(65<=x/\x<=90)\/(90<x/\x<97)\/(97<=x/\x<=122)\/122<x:=Q0
theorem kC {P:Nat->Prop}{k:Nat}(h:∀j<k,P j)(hk:P k):∀j<k+1,P j:=by
  intro j hj
  rcases zJ3 j k with h1|h1
  . exact h j h1
  . have:j=k:=Q0
    subst this;exact hk
set_option maxRecDepth 4000 in
set_option maxHeartbeats 4000000 in
theorem bH (a:Option Addr)(n c:Nat)(l:List Int)(g:Bool)(w:World)(h:eG w a n l)(hn:n<=1073741824):
    Calls Tryz.prog 53 #[.slice a n c,.bool g] w fun e w'=>e=.returned (.bool (aK l g))/\w'=w:=by
  obtain⟨hl,hby,hc⟩:=h
  by_cases h0:n<1
  . have hd:Hid (aK l g=false):=dI Q0
    clear hc hl hby;exact U107
  by_cases h8:8<n
  . have hd:Hid (aK l g=false):=pW Q0
    clear hc hl hby;exact U107
  obtain⟨b,off,rfl,hd⟩:=hc Q0;clear hc
  have Hl:Hid (l.length=n):=hl
  clear hl;go_enter Tryz.func53,Tryz.ntmps53;go_wp2
  go_loop [5,6,7,8] (fun i _ _ _=>∃j:Nat,j<=n/\i=.int .i64 j/\Hid (∀m<j,pU l g m=true)) (fun i _ _ _=>n-(intOf i).toNat)
  case atStart=>exact⟨0,zD1 _,rfl,by intro m hm;omega⟩
  case round=>
    obtain⟨j,hj,rfl,Ah⟩:=hrel
    by_cases Aj:j<n
    . have hx:=hd j Aj
      have hb:=qJ hby j;clear hd hby
      have HL:Hid (j<l.length):=by show j<l.length;rw[Hl.out];exact Aj
      generalize hxx:l[j]?.getD 0=x at hx hb
      have HX:Hid (l[j]?.getD 0=x):=hxx
      clear hxx
      by_cases hj0:j=0
      . subst hj0
        have hx0:w.cell? ⟨b,off,none⟩=some (.int .u8 x):=by simpa using hx
        clear hx
        rcases g with _|_ <;> rcases aGe x with hc|⟨hc,hc'⟩|⟨hc,hc'⟩|⟨hc,hc'⟩|⟨hc,hc'⟩|⟨hc,hc'⟩|hc
        all_goals go_wp2
        all_goals
          first
            | (go_ret
               refine⟨aE (lH HL.out ?_).symm,rfl⟩;simp only[pU,if_true,HX.out,wJ,upB]
               simp
               omega)
            | (go_round
               case rel=>
                 refine⟨0+1,by omega,by go_num,kC Ah.out ?_⟩
                 simp only[pU,if_true,HX.out,wJ,upB]
                 simp
                 omega
               case measure=>simp[intOf];omega)
            | (exfalso
               simp only[Bool.not_eq_eq_eq_not,Bool.not_false,zE3]at *
               omega)
      . have HJ:Hid (j ≠ 0):=hj0
        have hji:0<(j:Int):=Q0
        rcases aGe x with hc|⟨hc,hc'⟩|⟨hc,hc'⟩|⟨hc,hc'⟩|⟨hc,hc'⟩|⟨hc,hc'⟩|hc
        all_goals go_wp2
        all_goals
          first
            | (go_ret
               refine⟨aE (lH HL.out ?_).symm,rfl⟩;simp only[pU,if_neg HJ.out,HX.out,wJ,aI6]
               simp
               omega)
            | (go_round
               case rel=>
                 refine⟨j+1,by omega,by go_num,kC Ah.out ?_⟩
                 simp only[pU,if_neg HJ.out,HX.out,wJ,aI6]
                 simp
                 omega
               case measure=>simp[intOf];omega)
            | (exfalso
               simp only[Bool.not_eq_eq_eq_not,Bool.not_false,zE3]at *
               omega)
    . clear hd
      go_wp2;go_ret;have hjn:j=n:=Q0;subst hjn
      exact⟨aE (nM Q53 Q53 (by rw[Hl.out];exact Ah.out)).symm,rfl⟩
end Go.Proofs.YtffphdacgblaoaaGreatDoor

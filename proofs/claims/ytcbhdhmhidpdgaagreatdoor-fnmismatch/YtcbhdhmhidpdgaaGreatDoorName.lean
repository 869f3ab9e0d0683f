import Derived.Test.YtcbhdhmhidpdgaaGreatDoorPackA
namespace Go.Proofs.YtcbhdhmhidpdgaaGreatDoor
open Go.RowKit
theorem A46{p:Prop}(h:p:=by rw[Hl.out];omega):p:=h
theorem QA120{p:Prop}(h:p:=by
 go_enter Tryz.func115,Tryz.ntmps115
 go_wp2
 go_ret
 exact⟨aF hd.out.symm,rfl⟩):p:=h
theorem QA125{p:Prop}(h:p:=by
 subst Mz
 exact⟨aF (mS A46 A46 (by rw[Hl.out];exact Bj.out)).symm,rfl⟩):p:=h
theorem QA133{p:Prop}(h:p:=by
 rw[List.all_eq_false]
 exact⟨j,List.mem_range.2 h,by simp[hb]⟩):p:=h
variable{g:Bool}{l:List Int}
def zG (x:Int):Bool:=decide (97<=x) && decide (x<=122)
def upB (x:Int):Bool:=decide (65<=x) && decide (x<=90)
def aJs (x:Int):Bool:=decide (48<=x) && decide (x<=57)
def pY (l:List Int)(g:Bool)(j:Nat):Bool:=
  if j=0 then (if g then upB (l[0]?.getD 0) else zG (l[0]?.getD 0)) else (zG (l[j]?.getD 0) || aJs (l[j]?.getD 0))
def aN (l:List Int)(g:Bool):Bool:=decide (1<=l.length) && decide (l.length<=8) && (List.range l.length).all (pY l g)
theorem cY(h:l.length<1):aN l g=false:=by
  unfold aN;rw[zC2 (by omega:¬1<=l.length)];rfl
theorem oT(h:8<l.length):aN l g=false:=by
  unfold aN;rw[zC2 (by omega:¬l.length<=8)];simp
theorem kK{j:Nat}(h:j<l.length)(hb:pY l g j=false):aN l g=false:=by
  have:(List.range l.length).all (pY l g)=false:=by
    exact QA133
  unfold aN;rw[this];simp
theorem mS(h1:1<=l.length)(h8:l.length<=8)(h:∀j<l.length,pY l g j=true):aN l g=true:=by
  have:(List.range l.length).all (pY l g)=true:=zF3.2 fun j hj=>h j (List.mem_range.1 hj);unfold aN;rw[this,zB3 h1,zB3 h8];rfl
theorem aE3 (x:Int):x<48\/(48<=x/\x<=57)\/(57<x/\x<65)\/(65<=x/\x<=90)\/(90<x/\x<97)\/(97<=x/\x<=122)\/122<x:=A0
theorem dV{P:Nat->Prop}{k:Nat}(h:∀j<k,P j)(hk:P k):∀j<k+1,P j:=by
  intro j hj;rcases zJ1 j k with h1|h1
  . exact h j h1
  . have:j=k:=A0
    subst this;exact hk
set_option maxRecDepth 4000 in
set_option maxHeartbeats 4000000 in
theorem aQ (a:Option Addr)(n c:Nat)(l:List Int)(g:Bool)(w:World)(h:aV w a n l)(hn:n<=1073741824):
    Calls Tryz.prog 115 #[.slice a n c,.bool g] w fun e w'=>e=.returned (.bool (aN l g))/\w'=w:=by
  obtain⟨hl,Bv,hc⟩:=h;by_cases h0:n<1
  . have hd:Hid (aN l g=false):=cY A0
    clear hc hl Bv;exact QA120
  by_cases h8:8<n
  . have hd:Hid (aN l g=false):=oT A0
    clear hc hl Bv;exact QA120
  obtain⟨b,off,rfl,hd⟩:=hc A0;clear hc;have Hl:=hid hl;clear hl;go_enter Tryz.func115,Tryz.ntmps115;go_wp2;go_loop [5,6,7,8] (fun i _ _ _=>∃j:Nat,j<=n/\i=.int .i64 j/\Hid (∀m<j,pY l g m=true)) (fun i _ _ _=>n-(intOf i).toNat)
  case atStart=>exact⟨0,zD1 _,rfl,by intro m hm;omega⟩
  case round=>
    obtain⟨j,hj,rfl,Bj⟩:=hrel;by_cases Ad:j<n
    . have hx:=hd j Ad
      have hb:=kD Bv j;clear hd Bv;have HL:Hid (j<l.length):=by show j<l.length;rw[Hl.out];exact Ad
      generalize hxx:l[j]?.getD 0=x at hx hb;have HX:=hid hxx;clear hxx;by_cases hj0:j=0
      . subst hj0
        have Fj:w.cell? ⟨b,off,none⟩=some (.int .u8 x):=by simpa using hx
        clear hx;rcases g with _|_ <;> rcases aE3 x with hc|⟨hc,Dc⟩|⟨hc,Dc⟩|⟨hc,Dc⟩|⟨hc,Dc⟩|⟨hc,Dc⟩|hc
        all_goals go_wp2
        all_goals
          first
            | (go_ret
               refine⟨aF (kK HL.out ?_).symm,rfl⟩;simp only[pY,if_true,HX.out,zG,upB];simp;omega)
            | (go_round
               case rel=>
                 refine⟨0+1,by omega,by go_num,dV Bj.out ?_⟩;simp only[pY,if_true,HX.out,zG,upB];simp;omega
               case measure=>simp[intOf];omega)
            | (exfalso
               simp only[Bool.not_eq_eq_eq_not,Bool.not_false,zE3]at *;omega)
      . have HJ:=hid hj0
        have Jv:0<(j:Int):=A0;rcases aE3 x with hc|⟨hc,Dc⟩|⟨hc,Dc⟩|⟨hc,Dc⟩|⟨hc,Dc⟩|⟨hc,Dc⟩|hc
        all_goals go_wp2
        all_goals
          first
            | (go_ret
               refine⟨aF (kK HL.out ?_).symm,rfl⟩;simp only[pY,if_neg HJ.out,HX.out,zG,aJs];simp;omega)
            | (go_round
               case rel=>
                 refine⟨j+1,by omega,by go_num,dV Bj.out ?_⟩;simp only[pY,if_neg HJ.out,HX.out,zG,aJs];simp;omega
               case measure=>simp[intOf];omega)
            | (exfalso
               simp only[Bool.not_eq_eq_eq_not,Bool.not_false,zE3]at *;omega)
    . clear hd
      go_wp2;go_ret;have Mz:j=n:=A0;exact QA125
end Go.Proofs.YtcbhdhmhidpdgaaGreatDoor

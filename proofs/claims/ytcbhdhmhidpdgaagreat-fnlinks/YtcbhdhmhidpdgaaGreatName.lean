import Derived.Test.YtcbhdhmhidpdgaaGreatPackA
namespace Go.Proofs.YtcbhdhmhidpdgaaGreat
open Go.RowKit
theorem A50{p:Prop}(h:p:=by rw[Hl.out];omega):p:=h
theorem QA122{p:Prop}(h:p:=by
 go_enter Tryz.func84,Tryz.ntmps84
 go_wp2
 go_ret
 exact⟨aF hd.out.symm,rfl⟩):p:=h
theorem QA125{p:Prop}(h:p:=by
 subst Ni
 exact⟨aF (nB A50 A50 (by rw[Hl.out];exact Bl.out)).symm,rfl⟩):p:=h
theorem QA133{p:Prop}(h:p:=by
 rw[List.all_eq_false]
 exact⟨j,List.mem_range.2 h,by simp[hb]⟩):p:=h
variable{g:Bool}{l:List Int}
def zV (x:Int):Bool:=decide (97<=x) && decide (x<=122)
def upB (x:Int):Bool:=decide (65<=x) && decide (x<=90)
def aKk (x:Int):Bool:=decide (48<=x) && decide (x<=57)
def qG (l:List Int)(g:Bool)(j:Nat):Bool:=
  if j=0 then (if g then upB (l[0]?.getD 0) else zV (l[0]?.getD 0)) else (zV (l[j]?.getD 0) || aKk (l[j]?.getD 0))
def aO (l:List Int)(g:Bool):Bool:=decide (1<=l.length) && decide (l.length<=8) && (List.range l.length).all (qG l g)
theorem dB(h:l.length<1):aO l g=false:=by
  unfold aO;rw[zC2 (by omega:¬1<=l.length)];rfl
theorem pD(h:8<l.length):aO l g=false:=by
  unfold aO;rw[zC2 (by omega:¬l.length<=8)];simp
theorem kW{j:Nat}(h:j<l.length)(hb:qG l g j=false):aO l g=false:=by
  have:(List.range l.length).all (qG l g)=false:=by
    exact QA133
  unfold aO;rw[this];simp
theorem nB(h1:1<=l.length)(h8:l.length<=8)(h:∀j<l.length,qG l g j=true):aO l g=true:=by
  have:(List.range l.length).all (qG l g)=true:=zF3.2 fun j hj=>h j (List.mem_range.1 hj);unfold aO;rw[this,zB3 h1,zB3 h8];rfl
theorem aFk (x:Int):x<48\/(48<=x/\x<=57)\/(57<x/\x<65)\/(65<=x/\x<=90)\/(90<x/\x<97)\/(97<=x/\x<=122)\/122<x:=A0
theorem dY{P:Nat->Prop}{k:Nat}(h:∀j<k,P j)(hk:P k):∀j<k+1,P j:=by
  intro j hj;rcases zJ2 j k with h1|h1
  . exact h j h1
  . have:j=k:=A0
    subst this;exact hk
set_option maxRecDepth 4000 in
set_option maxHeartbeats 4000000 in
theorem aR (a:Option Addr)(n c:Nat)(l:List Int)(g:Bool)(w:World)(h:aV w a n l)(hn:n<=1073741824):
    Calls Tryz.prog 84 #[.slice a n c,.bool g] w fun e w'=>e=.returned (.bool (aO l g))/\w'=w:=by
  obtain⟨hl,Bu,hc⟩:=h;by_cases h0:n<1
  . have hd:Hid (aO l g=false):=dB A0
    clear hc hl Bu;exact QA122
  by_cases h8:8<n
  . have hd:Hid (aO l g=false):=pD A0
    clear hc hl Bu;exact QA122
  obtain⟨b,off,rfl,hd⟩:=hc A0;clear hc;have Hl:=hid hl;clear hl;go_enter Tryz.func84,Tryz.ntmps84;go_wp2;go_loop [5,6,7,8] (fun i _ _ _=>∃j:Nat,j<=n/\i=.int .i64 j/\Hid (∀m<j,qG l g m=true)) (fun i _ _ _=>n-(intOf i).toNat)
  case atStart=>exact⟨0,zD1 _,rfl,by intro m hm;omega⟩
  case round=>
    obtain⟨j,hj,rfl,Bl⟩:=hrel;by_cases Ad:j<n
    . have hx:=hd j Ad
      have hb:=kM Bu j;clear hd Bu;have HL:Hid (j<l.length):=by show j<l.length;rw[Hl.out];exact Ad
      generalize hxx:l[j]?.getD 0=x at hx hb;have HX:=hid hxx;clear hxx;by_cases hj0:j=0
      . subst hj0
        have Gg:w.cell? ⟨b,off,none⟩=some (.int .u8 x):=by simpa using hx
        clear hx;rcases g with _|_ <;> rcases aFk x with hc|⟨hc,Dg⟩|⟨hc,Dg⟩|⟨hc,Dg⟩|⟨hc,Dg⟩|⟨hc,Dg⟩|hc
        all_goals go_wp2
        all_goals
          first
            | (go_ret
               refine⟨aF (kW HL.out ?_).symm,rfl⟩;simp only[qG,if_true,HX.out,zV,upB];simp;omega)
            | (go_round
               case rel=>
                 refine⟨0+1,by omega,by go_num,dY Bl.out ?_⟩;simp only[qG,if_true,HX.out,zV,upB];simp;omega
               case measure=>simp[intOf];omega)
            | (exfalso
               simp only[Bool.not_eq_eq_eq_not,Bool.not_false,zE3]at *;omega)
      . have HJ:=hid hj0
        have Kb:0<(j:Int):=A0;rcases aFk x with hc|⟨hc,Dg⟩|⟨hc,Dg⟩|⟨hc,Dg⟩|⟨hc,Dg⟩|⟨hc,Dg⟩|hc
        all_goals go_wp2
        all_goals
          first
            | (go_ret
               refine⟨aF (kW HL.out ?_).symm,rfl⟩;simp only[qG,if_neg HJ.out,HX.out,zV,aKk];simp;omega)
            | (go_round
               case rel=>
                 refine⟨j+1,by omega,by go_num,dY Bl.out ?_⟩;simp only[qG,if_neg HJ.out,HX.out,zV,aKk];simp;omega
               case measure=>simp[intOf];omega)
            | (exfalso
               simp only[Bool.not_eq_eq_eq_not,Bool.not_false,zE3]at *;omega)
    . clear hd
      go_wp2;go_ret;have Ni:j=n:=A0;exact QA125
end Go.Proofs.YtcbhdhmhidpdgaaGreat

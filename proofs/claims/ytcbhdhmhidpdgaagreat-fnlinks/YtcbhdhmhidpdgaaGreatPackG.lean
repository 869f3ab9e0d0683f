import Derived.Test.YtcbhdhmhidpdgaaGreatPackF
namespace Go.Proofs.YtcbhdhmhidpdgaaGreat
open Go.RowKit
set_option linter.unusedVariables false
set_option linter.unusedSimpArgs false
set_option maxRecDepth 100000
theorem QA28{p:Prop}(h:p:=by
 simp only[zA1,zB1,zC3];omega):p:=h
def yR:List (List Int)->Nat
 | []=>0| t :: l=>t.length+yR l
theorem aJi (ts:List (List Int)):(ts[0]?.getD []).length<=yR ts:=by
 cases ts with
 | nil=>simp| cons a l=>simp[yR]
theorem aC5 (ts:List (List Int)):(ts[0]?.getD []).length+(ts[1]?.getD []).length<=yR ts:=by
 match ts with
 | []=>simp| [a]=>simp[yR]| a :: b :: l=>simp[yR]
theorem aMv (s:List Int):∀ts:List (List Int),(xF s ts).length<=yR ts+s.length*ts.length:=by
 intro ts;induction ts with
 | nil=>simp[xF]| cons a l ih=>
  cases l with
  | nil=>simp[xF,yR]| cons b l=>
   simp only[xF,yR,zA1,zB1]at ih ⊢;rw[Nat.mul_add];omega
theorem aLz (m:List Int):(if m.length=0 then [] else m++[32]++[46,32]:List Int).length<=m.length+3:=by split <;> simp
theorem zJ (n:Int):(opI n).length<=1:=by
 unfold opI;split
 .
  simp
 split
 .
  simp
 split
 .
  simp
 split
 .
  simp
 split <;> simp
theorem aE9 {k n:Int}{mod name:List Int}{nk:Nat}{ts:List (List Int)}(h:iF k n mod name nk=true):(aFa k n mod name ts).length<=40+mod.length+name.length+yR ts+2*ts.length:=by
 have h1:=aJi ts;have h2:=aC5 ts;have h3:=aMv [44,32] ts;have h4:=aLz mod;have h5:=zJ n;simp only[zB1,zC3]at h3;unfold aFa;split
 .
  rename_i h0;subst h0;have hb:-9223372036854775808<=n/\n<=9223372036854775807:=by simp[iF,inB,gD,dM]at h;omega
  have:=lL hb.1 hb.2;exact QA28
 split
 .
  exact QA28
 split
 .
  exact QA28
 split
 .
  exact QA28
 split
 .
  exact QA28
 split
 .
  exact QA28
 split
 .
  simp only[zA1,zB1,zC3]at h4 ⊢;omega
 .
  exact QA28
mutual
theorem aO1:∀x:Ex,uI x=true->(prE x).length<=40+50*aP x.fl
 | .mk k n m a ks,h=>by
  obtain⟨h1,h2⟩:=zN h;have h3:=wO ks h2;have h4:=aE9 (ts:=aDm ks) h1;have e:aP (Ex.mk k n m a ks).fl=m.length+a.length+((exs ks).length+aG (exs ks)):=by simp[Ex.fl,aP,Fl.len] <;> omega
  have e2:(exs ks).length=ks.length:=by simp[aY]
  have e3:(aDm ks).length=ks.length:=by simp[aG7]
  rw[e,e2];rw[prE];rw[e3]at h4;omega
theorem wO:∀l:List Ex,jW l=true->yR (aDm l)<=40*l.length+50*aG (exs l)
 | [],_=>by simp[aDm,yR]
 | x :: l,h=>by
  simp only[jW,zC0]at h;have h1:=aO1 x h.1;have h2:=wO l h.2;simp only[aDm,yR,exs,aG,zB1];omega
end
theorem aC6 {k n:Int}{name:List Int}{ks:List Ex}{nb ne:Nat}{ts:List (List Int)}{b e:List Int}(h:oU k n name ks nb ne=true):(aC7 k n name ts b e).length<=60+name.length+yR ts+b.length+e.length:=by
 have h1:=aJi ts;have h2:=aC5 ts;unfold aC7;split
 .
  exact QA28
 split
 .
  exact QA28
 split
 .
  exact QA28
 split
 .
  exact QA28
 split
 .
  exact QA28
 split
 .
  exact QA28
 split
 .
  rename_i h0;subst h0;have hb:=yV h;simp[cX]at hb;have:=lL (n:=n) A0 A0;exact QA28
 .
  exact QA28
mutual
theorem aOz:∀x:St,aF9 x=true->(prS x).length<=60+60*aP x.fl
 | .mk k n a ks bs es,h=>by
  obtain⟨h1,h2,h3,h4⟩:=qS h;have h5:=wO ks h2;have h6:=aDn bs h3;have h7:=aDn es h4;have h8:=aC6 (ts:=aDm ks) (b:=prB bs) (e:=prB es) h1;have e:aP (St.mk k n a ks bs es).fl=a.length+((exs ks).length+aG (exs ks))+((sts bs).length+aG (sts bs))+((sts es).length+aG (sts es)):=by simp[St.fl,aP,Fl.len] <;> omega
  have e2:(exs ks).length=ks.length:=by simp[aY]
  have e3:(sts bs).length=bs.length:=by simp[bE]
  have e4:(sts es).length=es.length:=by simp[bE]
  rw[e,e2,e3,e4,prS];omega
theorem aDn:∀l:List St,iY l=true->(prB l).length<=60*l.length+60*aG (sts l)
 | [],_=>by simp[prB]
 | x :: l,h=>by
  simp only[iY,zC0]at h;have h1:=aOz x h.1;have h2:=aDn l h.2;simp only[prB,sts,aG,zB1,zA1];omega
end
def aU6 (m:Mo):Bool:=cI m && decide ((prM m).length<=3000)
theorem aE5 {l:List Pr}{left:Int}(h:pT l left=true):∀x ∈ l,iY x.body=true:=by
 intro x hx;obtain⟨j,hj⟩:=List.getElem?_of_mem hx;unfold pT at h;rw[zF3]at h;have:=h j (by have:=(zC1.1 hj).1;simpa using this);rw[hj]at this;unfold cJ at this;simp only[zI0,zC0]at this;exact this.1.1
theorem vD {m:Mo}(h:cI m=true):aO m.name true=true/\(∀x ∈ m.uses,sK x=true)/\(∀x ∈ m.vars,yM x=true)/\(∀x ∈ m.procs,qH x=true/\iY x.body=true):=by
 unfold cI at h;simp only[zC0,zF3]at h;exact⟨h.1.1.1.1.1.1.1,h.1.1.1.1.1.2,h.1.1.1.2,fun x hx=>⟨h.1.2 x hx,aE5 h.2 x hx⟩⟩
theorem xQ {α:Type}{l:List α}(h:l.length=4):∃a b c d,l=[a,b,c,d]:=by
 match l,h with
 | [a,b,c,d],_=>exact⟨a,b,c,d,rfl⟩
structure aUx (w w':World) (m:Mo) (v:Value):Prop where
 no:aU6 m=false->v=.slice none 0 0
 yes:aU6 m=true->Own w' w.heap.size v (prM m).length (prM m)
 grown:w.grownBy w' none
end Go.Proofs.YtcbhdhmhidpdgaaGreat

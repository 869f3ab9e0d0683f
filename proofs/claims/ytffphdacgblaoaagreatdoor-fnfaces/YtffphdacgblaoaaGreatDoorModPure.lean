import Derived.Test.YtffphdacgblaoaaGreatDoorAll
namespace Go.Proofs.YtffphdacgblaoaaGreatDoor
open Go.RowKit
set_option linter.unusedVariables false
set_option linter.unusedSimpArgs false
theorem U54{p:Prop}(h:p:=by
 simp only[zC0,zE3]at this
 omega):p:=h
def Ex.kind:Ex->Int|.mk k _ _ _ _=>k
def Ex.n:Ex->Int|.mk _ n _ _ _=>n
def Ex.mod:Ex->List Int|.mk _ _ m _ _=>m
def Ex.name:Ex->List Int|.mk _ _ _ a _=>a
def Ex.kids:Ex->List Ex|.mk _ _ _ _ l=>l
def dM (k:Int):Int:=if k=2 then 1 else if k=3 then 2 else 0
def fJ (k:Int):Int:=if k=2 then 1 else if k=3 then 2 else if k=6 then 4 else 0
def fD (k:Int):Int:=if k=0 then -2147483648 else 0
def dF (k:Int):Int:=if k=0 then 2147483647 else if k=3 then 5 else 0
def dP (k:Int):Bool:=decide (k=1) || decide (k=2) || decide (k=5) || decide (k=6) || decide (k=7)
def inB (x lo hi:Int):Bool:=decide (lo<=x) && decide (x<=hi)
def iW (k n:Int)(mod name:List Int)(nk:Nat):Bool:=
 inB k 0 7 && (inB n (fD k) (dF k) && inB nk (dM k) (fJ k) && (if dP k then aK name false else decide (name.length=0))) && (decide (mod.length=0) || decide (k=6) && aK mod true)
def lP (e:Ex):Bool:=decide (e.kind=7)
def jE (e:Ex):Bool:=decide (e.kind=6)
mutual
def qN:Ex->Bool
 | .mk k n m a ks=>iW k n m a ks.length && (decide (k=6) || !ks.any lP) && eI ks
def eI:List Ex->Bool
 | []=>true
 | e :: l=>qN e && eI l
end
mutual
def iF:Ex->Nat
 | .mk _ _ _ _ ks=>1+aF ks
def aF:List Ex->Nat
 | []=>0
 | e :: l=>iF e+aF l
end
mutual
def aI4:Ex->Nat
 | .mk _ _ _ _ ks=>1+nB ks
def nB:List Ex->Nat
 | []=>0
 | e :: l=>max (aI4 e) (nB l)
end
def cO (k:Int):Int:=if k=1 then 2 else if k=6 then 0 else 1
def dE (k:Int):Int:=if k=6 then 99 else 0
def dO (k:Int):Bool:=decide (k=0) || decide (k=1)
def fE (k:Int):Bool:=decide (k=2) || decide (k=3)
def pK (k n:Int)(name:List Int)(ks:List Ex)(nb ne:Nat):Bool:=
 inB k 0 7 && (inB n 0 (dE k) && inB ks.length (cO k) (cO k) && (if dO k then aK name false else decide (name.length=0))) && (decide (nb=0) || fE k) && (decide (ne=0) || decide (k=2)) && !ks.any lP && (!decide (k=7) || ks.any jE)
mutual
def xD:St->Bool
 | .mk k n a ks bs es=>pK k n a ks bs.length es.length && eI ks && gJ bs && gJ es
def gJ:List St->Bool
 | []=>true
 | s :: l=>xD s && gJ l
end
mutual
def mT:St->Nat
 | .mk _ _ _ ks bs es=>1+(aF ks+aU bs+aU es)
def aU:List St->Nat
 | []=>0
 | s :: l=>mT s+aU l
end
mutual
def aKk:St->Nat
 | .mk _ _ _ ks bs es=>1+max (nB ks) (max (nA bs) (nA es))
def nA:List St->Nat
 | []=>0
 | s :: l=>max (aKk s) (nA l)
end
theorem mS (l:List Ex):eI l=l.all qN:=by
 induction l with
 | nil=>rfl
 | cons x l ih=>simp[eI,ih]
theorem mR (l:List St):gJ l=l.all xD:=by
 induction l with
 | nil=>rfl
 | cons x l ih=>simp[gJ,ih]
theorem vB (l m:List Ex):aF (l++m)=aF l+aF m:=by
 induction l with
 | nil=>simp[aF]
 | cons x l ih=>simp[aF,ih];omega
theorem vA (l m:List St):aU (l++m)=aU l+aU m:=by
 induction l with
 | nil=>simp[aU]
 | cons x l ih=>simp[aU,ih];omega
theorem dA {l:List Ex}{j:Nat}{x:Ex}(h:l[j]?=some x):aF (l.take (j+1))=aF (l.take j)+iF x:=by
 obtain⟨hk,rfl⟩:=zC1.1 h;rw[zF1 hk,vB];simp[aF]
theorem lG {l:List St}{j:Nat}{x:St}(h:l[j]?=some x):aU (l.take (j+1))=aU (l.take j)+mT x:=by
 obtain⟨hk,rfl⟩:=zC1.1 h;rw[zF1 hk,vA];simp[aU]
theorem aCm (l:List Ex)(j:Nat):aF (l.take j)<=aF l:=by
 have:=vB (l.take j) (l.drop j);rw[List.take_append_drop]at this;omega
theorem aCl (l:List St)(j:Nat):aU (l.take j)<=aU l:=by
 have:=vA (l.take j) (l.drop j);rw[List.take_append_drop]at this;omega
theorem aMm {l:List Ex}{x:Ex}(h:x ∈ l):aI4 x<=nB l:=by
 induction l with
 | nil=>simp at h
 | cons y l ih=>
  rcases zG3.1 h with rfl|h
  .
   simp[nB];omega
  .
   have:=ih h;simp[nB];omega
theorem aMl {l:List St}{x:St}(h:x ∈ l):aKk x<=nA l:=by
 induction l with
 | nil=>simp at h
 | cons y l ih=>
  rcases zG3.1 h with rfl|h
  .
   simp[nA];omega
  .
   have:=ih h;simp[nA];omega
theorem aI3 {l:List Ex}{d:Nat}(h:∀x ∈ l,aI4 x<=d):nB l<=d:=by
 induction l with
 | nil=>simp[nB]
 | cons y l ih=>
  have h1:=h y Q9
  have h2:=ih fun x hx=>h x (by simp[hx])
  simp[nB];omega
theorem aI2 {l:List St}{d:Nat}(h:∀x ∈ l,aKk x<=d):nA l<=d:=by
 induction l with
 | nil=>simp[nA]
 | cons y l ih=>
  have h1:=h y Q9
  have h2:=ih fun x hx=>h x (by simp[hx])
  simp[nA];omega
def iU (e:Ex)(d left:Int):Bool:=qN e && decide ((iF e:Int)<=left) && decide (d+(aI4 e:Int)<=17)
def eJ (l:List Ex)(d left:Int):Bool:=eI l && decide ((aF l:Int)<=left) && (decide (l.length=0) || decide (d+(nB l:Int)<=17))
def bI (e:St)(d left:Int):Bool:=xD e && decide ((mT e:Int)<=left) && decide (d+(aKk e:Int)<=17)
def cI (l:List St)(d left:Int):Bool:=gJ l && decide ((aU l:Int)<=left) && (decide (l.length=0) || decide (d+(nA l:Int)<=17))
theorem vQ {l:List Ex}{d left:Int}{j:Nat}{x:Ex}(h:l[j]?=some x)(hx:iU x d (left-(aF (l.take j):Int))=false):eJ l d left=false:=by
 unfold iU at hx;have hm:=zA3 h;have h1:=dA h;have h2:=aCm l (j+1);have h3:=aMm hm
 have h4:l.length ≠ 0:=by intro h0;have:=zE0 h0;subst this;simp at hm
 unfold eJ;simp only[zI0,zH0,Bool.or_eq_false_iff]at hx ⊢
 rcases hx with (hx|hx)|hx
 .
  left;left
  rw[mS,List.all_eq_false]
  exact⟨x,hm,by simp[hx]⟩
 .
  left;right;omega
 .
  right;exact⟨h4,by omega⟩
theorem rP {l:List Ex}{d left:Int}(h:∀j x,l[j]?=some x->iU x d (left-(aF (l.take j):Int))=true)(hl:0<=left):eJ l d left=true:=by
 unfold eJ;simp only[zC0,zE3,Bool.or_eq_true]
 have h1:eI l=true:=by
  rw[mS,zF3];intro x hx;obtain⟨j,hj⟩:=zH3 hx
  have:=h j x hj
  unfold iU at this;simp only[zC0]at this;exact this.1.1
 refine⟨⟨h1, ?_⟩, ?_⟩
 .
  rcases zG0 l.length with h0|hp
  .
   have:=zE0 h0;subst this;simpa [aF] using hl
  .
   have hj:l[l.length-1]?=some (l[l.length-1]' Q0):=zA0 _
   have:=h _ _ hj
   have h2:=dA hj
   rw[show l.length-1+1=l.length by omega,List.take_length]at h2
   unfold iU at this;exact U54
 .
  by_cases h0:l.length=0
  .
   exact .inl h0
  .
   right
   have:nB l<=(17-d).toNat:=aI3 fun x hx=>by
    obtain⟨j,hj⟩:=zH3 hx
    have:=h j x hj
    unfold iU at this;exact U54
   have h3:0<=17-d:=by
    have hj:l[0]?=some (l[0]' Q0):=zA0 _
    have:=h _ _ hj
    unfold iU at this;exact U54
   omega
theorem vP {l:List St}{d left:Int}{j:Nat}{x:St}(h:l[j]?=some x)(hx:bI x d (left-(aU (l.take j):Int))=false):cI l d left=false:=by
 unfold bI at hx;have hm:=zA3 h;have h1:=lG h;have h2:=aCl l (j+1);have h3:=aMl hm
 have h4:l.length ≠ 0:=by intro h0;have:=zE0 h0;subst this;simp at hm
 unfold cI;simp only[zI0,zH0,Bool.or_eq_false_iff]at hx ⊢
 rcases hx with (hx|hx)|hx
 .
  left;left
  rw[mR,List.all_eq_false]
  exact⟨x,hm,by simp[hx]⟩
 .
  left;right;omega
 .
  right;exact⟨h4,by omega⟩
theorem rN {l:List St}{d left:Int}(h:∀j x,l[j]?=some x->bI x d (left-(aU (l.take j):Int))=true)(hl:0<=left):cI l d left=true:=by
 unfold cI;simp only[zC0,zE3,Bool.or_eq_true]
 have h1:gJ l=true:=by
  rw[mR,zF3];intro x hx;obtain⟨j,hj⟩:=zH3 hx
  have:=h j x hj
  unfold bI at this;simp only[zC0]at this;exact this.1.1
 refine⟨⟨h1, ?_⟩, ?_⟩
 .
  rcases zG0 l.length with h0|hp
  .
   have:=zE0 h0;subst this;simpa [aU] using hl
  .
   have hj:l[l.length-1]?=some (l[l.length-1]' Q0):=zA0 _
   have:=h _ _ hj
   have h2:=lG hj
   rw[show l.length-1+1=l.length by omega,List.take_length]at h2
   unfold bI at this;exact U54
 .
  by_cases h0:l.length=0
  .
   exact .inl h0
  .
   right
   have:nA l<=(17-d).toNat:=aI2 fun x hx=>by
    obtain⟨j,hj⟩:=zH3 hx
    have:=h j x hj
    unfold bI at this;exact U54
   have h3:0<=17-d:=by
    have hj:l[0]?=some (l[0]' Q0):=zA0 _
    have:=h _ _ hj
    unfold bI at this;exact U54
   omega
end Go.Proofs.YtffphdacgblaoaaGreatDoor

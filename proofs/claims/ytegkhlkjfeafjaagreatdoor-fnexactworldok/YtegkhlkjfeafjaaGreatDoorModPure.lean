import Derived.Test.YtegkhlkjfeafjaaGreatDoorAll
namespace Go.Proofs.YtegkhlkjfeafjaaGreatDoor
open Go.RowKit
set_option linter.unusedVariables false
set_option linter.unusedSimpArgs false
theorem U331{p:Prop}(h:p:=by
 simp only[zC0,zE3]at this
 omega):p:=h
def Ex.kind:Ex->Int|.mk k _ _ _ _=>k
def Ex.n:Ex->Int|.mk _ n _ _ _=>n
def Ex.mod:Ex->List Int|.mk _ _ m _ _=>m
def Ex.name:Ex->List Int|.mk _ _ _ a _=>a
def Ex.kids:Ex->List Ex|.mk _ _ _ _ l=>l
def dL (k:Int):Int:=if k=2 then 1 else if k=3 then 2 else 0
def eX (k:Int):Int:=if k=2 then 1 else if k=3 then 2 else if k=6 then 4 else 0
def eT (k:Int):Int:=if k=0 then -2147483648 else 0
def dB (k:Int):Int:=if k=0 then 2147483647 else if k=3 then 5 else 0
def dK (k:Int):Bool:=decide (k=1) || decide (k=2) || decide (k=5) || decide (k=6) || decide (k=7)
def inB (x lo hi:Int):Bool:=decide (lo<=x) && decide (x<=hi)
def gE (k n:Int)(mod name:List Int)(nk:Nat):Bool:=
 inB k 0 7 && (inB n (eT k) (dB k) && inB nk (dL k) (eX k) && (if dK k then aK name false else decide (name.length=0))) && (decide (mod.length=0) || decide (k=6) && aK mod true)
def kK (e:Ex):Bool:=decide (e.kind=7)
def iE (e:Ex):Bool:=decide (e.kind=6)
mutual
def nQ:Ex->Bool
 | .mk k n m a ks=>gE k n m a ks.length && (decide (k=6) || !ks.any kK) && dR ks
def dR:List Ex->Bool
 | []=>true
 | e :: l=>nQ e && dR l
end
mutual
def fA:Ex->Nat
 | .mk _ _ _ _ ks=>1+aG ks
def aG:List Ex->Nat
 | []=>0
 | e :: l=>fA e+aG l
end
mutual
def aFi:Ex->Nat
 | .mk _ _ _ _ ks=>1+mA ks
def mA:List Ex->Nat
 | []=>0
 | e :: l=>max (aFi e) (mA l)
end
def bS (k:Int):Int:=if k=1 then 2 else if k=6 then 0 else 1
def dA (k:Int):Int:=if k=6 then 99 else 0
def dH (k:Int):Bool:=decide (k=0) || decide (k=1)
def eV (k:Int):Bool:=decide (k=2) || decide (k=3)
def mI (k n:Int)(name:List Int)(ks:List Ex)(nb ne:Nat):Bool:=
 inB k 0 7 && (inB n 0 (dA k) && inB ks.length (bS k) (bS k) && (if dH k then aK name false else decide (name.length=0))) && (decide (nb=0) || eV k) && (decide (ne=0) || decide (k=2)) && !ks.any kK && (!decide (k=7) || ks.any iE)
mutual
def sM:St->Bool
 | .mk k n a ks bs es=>mI k n a ks bs.length es.length && dR ks && fC bs && fC es
def fC:List St->Bool
 | []=>true
 | s :: l=>sM s && fC l
end
mutual
def kX:St->Nat
 | .mk _ _ _ ks bs es=>1+(aG ks+aW bs+aW es)
def aW:List St->Nat
 | []=>0
 | s :: l=>kX s+aW l
end
mutual
def aGm:St->Nat
 | .mk _ _ _ ks bs es=>1+max (mA ks) (max (lZ bs) (lZ es))
def lZ:List St->Nat
 | []=>0
 | s :: l=>max (aGm s) (lZ l)
end
theorem lR (l:List Ex):dR l=l.all nQ:=by
 induction l with
 | nil=>rfl
 | cons x l ih=>simp[dR,ih]
theorem lQ (l:List St):fC l=l.all sM:=by
 induction l with
 | nil=>rfl
 | cons x l ih=>simp[fC,ih]
theorem sO (l m:List Ex):aG (l++m)=aG l+aG m:=by
 induction l with
 | nil=>simp[aG]
 | cons x l ih=>simp[aG,ih];omega
theorem sN (l m:List St):aW (l++m)=aW l+aW m:=by
 induction l with
 | nil=>simp[aW]
 | cons x l ih=>simp[aW,ih];omega
theorem cQ {l:List Ex}{j:Nat}{x:Ex}(h:l[j]?=some x):aG (l.take (j+1))=aG (l.take j)+fA x:=by
 obtain⟨hk,rfl⟩:=zC1.1 h;rw[zF1 hk,sO];simp[aG]
theorem kD {l:List St}{j:Nat}{x:St}(h:l[j]?=some x):aW (l.take (j+1))=aW (l.take j)+kX x:=by
 obtain⟨hk,rfl⟩:=zC1.1 h;rw[zF1 hk,sN];simp[aW]
theorem zB (l:List Ex)(j:Nat):aG (l.take j)<=aG l:=by
 have:=sO (l.take j) (l.drop j);rw[List.take_append_drop]at this;omega
theorem zA (l:List St)(j:Nat):aW (l.take j)<=aW l:=by
 have:=sN (l.take j) (l.drop j);rw[List.take_append_drop]at this;omega
theorem aI6 {l:List Ex}{x:Ex}(h:x ∈ l):aFi x<=mA l:=by
 induction l with
 | nil=>simp at h
 | cons y l ih=>
  rcases zH0.1 h with rfl|h
  .
   simp[mA];omega
  .
   have:=ih h;simp[mA];omega
theorem aI5 {l:List St}{x:St}(h:x ∈ l):aGm x<=lZ l:=by
 induction l with
 | nil=>simp at h
 | cons y l ih=>
  rcases zH0.1 h with rfl|h
  .
   simp[lZ];omega
  .
   have:=ih h;simp[lZ];omega
theorem aFh {l:List Ex}{d:Nat}(h:∀x ∈ l,aFi x<=d):mA l<=d:=by
 induction l with
 | nil=>simp[mA]
 | cons y l ih=>
  have h1:=h y V15
  have h2:=ih fun x hx=>h x (by simp[hx])
  simp[mA];omega
theorem aFg {l:List St}{d:Nat}(h:∀x ∈ l,aGm x<=d):lZ l<=d:=by
 induction l with
 | nil=>simp[lZ]
 | cons y l ih=>
  have h1:=h y V15
  have h2:=ih fun x hx=>h x (by simp[hx])
  simp[lZ];omega
def gW (e:Ex)(d left:Int):Bool:=nQ e && decide ((fA e:Int)<=left) && decide (d+(aFi e:Int)<=17)
def dZ (l:List Ex)(d left:Int):Bool:=dR l && decide ((aG l:Int)<=left) && (decide (l.length=0) || decide (d+(mA l:Int)<=17))
def bL (e:St)(d left:Int):Bool:=sM e && decide ((kX e:Int)<=left) && decide (d+(aGm e:Int)<=17)
def bP (l:List St)(d left:Int):Bool:=fC l && decide ((aW l:Int)<=left) && (decide (l.length=0) || decide (d+(lZ l:Int)<=17))
theorem sY {l:List Ex}{d left:Int}{j:Nat}{x:Ex}(h:l[j]?=some x)(hx:gW x d (left-(aG (l.take j):Int))=false):dZ l d left=false:=by
 unfold gW at hx;have hm:=zA3 h;have h1:=cQ h;have h2:=zB l (j+1);have h3:=aI6 hm
 have h4:l.length ≠ 0:=by intro h0;have:=zE0 h0;subst this;simp at hm
 unfold dZ;simp only[zI2,zH1,Bool.or_eq_false_iff]at hx ⊢
 rcases hx with (hx|hx)|hx
 .
  left;left
  rw[lR,zH3]
  exact⟨x,hm,by simp[hx]⟩
 .
  left;right;omega
 .
  right;exact⟨h4,by omega⟩
theorem pX {l:List Ex}{d left:Int}(h:∀j x,l[j]?=some x->gW x d (left-(aG (l.take j):Int))=true)(hl:0<=left):dZ l d left=true:=by
 unfold dZ;simp only[zC0,zE3,Bool.or_eq_true]
 have h1:dR l=true:=by
  rw[lR,zF3];intro x hx;obtain⟨j,hj⟩:=zI1 hx
  have:=h j x hj
  unfold gW at this;simp only[zC0]at this;exact this.1.1
 refine⟨⟨h1, ?_⟩, ?_⟩
 .
  rcases zG0 l.length with h0|hp
  .
   have:=zE0 h0;subst this;simpa [aG] using hl
  .
   have hj:l[l.length-1]?=some (l[l.length-1]' V6):=zA0 _
   have:=h _ _ hj
   have h2:=cQ hj
   rw[show l.length-1+1=l.length by omega,List.take_length]at h2
   unfold gW at this;exact U331
 .
  by_cases h0:l.length=0
  .
   exact .inl h0
  .
   right
   have:mA l<=(17-d).toNat:=aFh fun x hx=>by
    obtain⟨j,hj⟩:=zI1 hx
    have:=h j x hj
    unfold gW at this;exact U331
   have h3:0<=17-d:=by
    have hj:l[0]?=some (l[0]' V6):=zA0 _
    have:=h _ _ hj
    unfold gW at this;exact U331
   omega
theorem sX {l:List St}{d left:Int}{j:Nat}{x:St}(h:l[j]?=some x)(hx:bL x d (left-(aW (l.take j):Int))=false):bP l d left=false:=by
 unfold bL at hx;have hm:=zA3 h;have h1:=kD h;have h2:=zA l (j+1);have h3:=aI5 hm
 have h4:l.length ≠ 0:=by intro h0;have:=zE0 h0;subst this;simp at hm
 unfold bP;simp only[zI2,zH1,Bool.or_eq_false_iff]at hx ⊢
 rcases hx with (hx|hx)|hx
 .
  left;left
  rw[lQ,zH3]
  exact⟨x,hm,by simp[hx]⟩
 .
  left;right;omega
 .
  right;exact⟨h4,by omega⟩
theorem pV {l:List St}{d left:Int}(h:∀j x,l[j]?=some x->bL x d (left-(aW (l.take j):Int))=true)(hl:0<=left):bP l d left=true:=by
 unfold bP;simp only[zC0,zE3,Bool.or_eq_true]
 have h1:fC l=true:=by
  rw[lQ,zF3];intro x hx;obtain⟨j,hj⟩:=zI1 hx
  have:=h j x hj
  unfold bL at this;simp only[zC0]at this;exact this.1.1
 refine⟨⟨h1, ?_⟩, ?_⟩
 .
  rcases zG0 l.length with h0|hp
  .
   have:=zE0 h0;subst this;simpa [aW] using hl
  .
   have hj:l[l.length-1]?=some (l[l.length-1]' V6):=zA0 _
   have:=h _ _ hj
   have h2:=kD hj
   rw[show l.length-1+1=l.length by omega,List.take_length]at h2
   unfold bL at this;exact U331
 .
  by_cases h0:l.length=0
  .
   exact .inl h0
  .
   right
   have:lZ l<=(17-d).toNat:=aFg fun x hx=>by
    obtain⟨j,hj⟩:=zI1 hx
    have:=h j x hj
    unfold bL at this;exact U331
   have h3:0<=17-d:=by
    have hj:l[0]?=some (l[0]' V6):=zA0 _
    have:=h _ _ hj
    unfold bL at this;exact U331
   omega
end Go.Proofs.YtegkhlkjfeafjaaGreatDoor

import Derived.Test.YtnelibmaancmkaaGreatDoorPackA
namespace Go.Proofs.YtnelibmaancmkaaGreatDoor
open Go.RowKit
set_option linter.unusedVariables false
set_option linter.unusedSimpArgs false
set_option maxRecDepth 100000
def fQ (k:Int)(nk:Nat):Int:=if k=0 then 0 else if k=1 then 0 else if k=4 then 0 else if k=5 then 0 else if k=7 then 0 else if k=2 then 1 else if k=3 then 2 else if k=6 then (if nk<=4 then nk else -1) else -1
theorem sE (k:Int)(nk:Nat):fQ k nk=nk ↔ (inB k 0 7=true/\dL k<=nk/\(nk:Int)<=eX k):=by
 unfold fQ dL eX inB;simp only[Bool.and_eq_true,decide_eq_true_eq]
 constructor
 .
  intro h
  split at h
  .
   rename_i h0;subst h0;simp;omega
  split at h
  .
   rename_i h0;subst h0;simp;omega
  split at h
  .
   rename_i h0;subst h0;simp;omega
  split at h
  .
   rename_i h0;subst h0;simp;omega
  split at h
  .
   rename_i h0;subst h0;simp;omega
  split at h
  .
   rename_i h0;subst h0;simp;omega
  split at h
  .
   rename_i h0;subst h0;simp;omega
  split at h
  .
   rename_i h0;subst h0
   split at h
   .
    simp;omega
   .
    omega
  .
   omega
 .
  rintro⟨⟨h1,h2⟩,h3,h4⟩
  have h8:k=0\/k=1\/k=2\/k=3\/k=4\/k=5\/k=6\/k=7:=by omega
  rcases h8 with rfl|rfl|rfl|rfl|rfl|rfl|rfl|rfl <;> simp at h3 h4 ⊢ <;> omega
theorem dD {k n:Int}{mod name:List Int}{nk:Nat}(h:inB k 0 7=false\/inB nk (dL k) (eX k)=false\/inB n (eT k) (dB k)=false\/(dK k=true/\aK name false=false)\/(dK k=false/\¬name.length=0)\/(¬mod.length=0/\¬k=6)\/(¬mod.length=0/\aK mod true=false)):gE k n mod name nk=false:=by
 unfold gE
 rcases h with h|h|h|⟨h1,h2⟩|⟨h1,h2⟩|⟨h1,h2⟩|⟨h1,h2⟩
 .
  rw[h];rfl
 .
  rw[h];simp
 .
  rw[h];simp
 .
  rw[h1,if_pos rfl,h2];simp
 .
  rw[h1,decide_eq_false h2];simp
 .
  rw[decide_eq_false h1,decide_eq_false h2];simp
 .
  rw[decide_eq_false h1,h2];simp
theorem iT {k n:Int}{mod name:List Int}{nk:Nat}(h1:inB k 0 7=true)(h2:inB nk (dL k) (eX k)=true)(h3:inB n (eT k) (dB k)=true)(h4:(if dK k then aK name false else decide (name.length=0))=true)(h5:(decide (mod.length=0) || decide (k=6) && aK mod true)=true):gE k n mod name nk=true:=by
 unfold gE;rw[h1,h2,h3,h4,h5];rfl
def cW (x:Ex)(d:Int)(arg:Bool)(left:Int):Bool:=(!kK x || arg) && gW x d left
def eR (l:List Ex)(d:Int)(arg:Bool)(left:Int):Bool:=(arg || !l.any kK) && dZ l d left
theorem fF {l:List Ex}{d left:Int}{arg:Bool}{j:Nat}{x:Ex}(h:l[j]?=some x)(hx:cW x d arg (left-(aG (l.take j):Int))=false):eR l d arg left=false:=by
 unfold cW at hx;unfold eR;rw[Bool.and_eq_false_iff]at hx ⊢
 rcases hx with hx|hx
 .
  left
  rw[Bool.or_eq_false_iff]at hx ⊢;refine⟨hx.2, ?_⟩
  have h1:kK x=true:=by simpa using hx.1
  have:l.any kK=true:=by rw[List.any_eq_true];exact⟨x,List.mem_of_getElem? h,h1⟩
  rw[this];rfl
 .
  right;exact sY h hx
theorem dW {l:List Ex}{d left:Int}{arg:Bool}(h:∀j x,l[j]?=some x->cW x d arg (left-(aG (l.take j):Int))=true)(hl:0<=left):eR l d arg left=true:=by
 unfold eR;rw[Bool.and_eq_true]
 refine⟨?_,pX (fun j x hx=>by have:=h j x hx;unfold cW at this;rw[Bool.and_eq_true]at this;exact this.2) hl⟩
 cases arg
 .
  rw[Bool.false_or]
  have:l.any kK=false:=by
   rw[List.any_eq_false];intro x hx;obtain⟨j,hj⟩:=List.getElem?_of_mem hx
   have:=h j x hj
   unfold cW at this;simp only[Bool.and_eq_true,Bool.or_eq_true,Bool.not_eq_true',Bool.false_eq_true,or_false]at this
   simpa using this.1
  rw[this];rfl
 .
  rfl
theorem gD {x:Ex}{d left:Int}{arg:Bool}(h:cW x d arg left=true):(fA x:Int)<=left:=by
 unfold cW at h;rw[Bool.and_eq_true]at h;exact wR h.2
theorem sD {x:Ex}{d left:Int}{arg:Bool}(h:left<1\/16<d):cW x d arg left=false:=by
 unfold cW;rw[pY h];simp
theorem cC {k n:Int}{mod name:List Int}{ks:List Ex}{d left:Int}{arg:Bool}(h:gE k n mod name ks.length=false):cW (.mk k n mod name ks) d arg left=false:=by
 unfold cW gW nQ;rw[h];simp
theorem aEc {n:Int}{mod name:List Int}{ks:List Ex}{d left:Int}:cW (.mk 7 n mod name ks) d false left=false:=by
 unfold cW kK Ex.kind;simp
theorem fL {k n:Int}{mod name:List Int}{ks:List Ex}{d left:Int}{arg:Bool}(h:gE k n mod name ks.length=true)(ha:¬k=7\/arg=true)(hl:1<=left)(hd:d<=16):cW (.mk k n mod name ks) d arg left=eR ks (d+1) (decide (k=6)) (left-1):=by
 have h1:(!kK (.mk k n mod name ks) || arg)=true:=by
  rcases ha with ha|ha
  .
   simp[kK,Ex.kind,ha]
  .
   rw[ha];simp
 unfold cW eR;rw[h1,Bool.true_and]
 cases hx:(decide (k=6) || !ks.any kK)
 .
  rw[Bool.false_and];refine qA ?_;rw[wT,hx];simp
 .
  rw[Bool.true_and]
  exact pZ (by rw[wT,h,hx];rfl) hl hd
theorem jT {k:Int}{ks:List Ex}(h:inB (ks.length:Int) (dL k) (eX k)=true)(hk:eX k=0):ks.length=0:=by
 unfold inB at h;rw[hk]at h;simp only[Bool.and_eq_true,decide_eq_true_eq]at h
 omega
theorem jH {d m:Int}{arg:Bool}(h:0<=m):eR [] d arg m=true:=by
 simp[eR,dZ,dR,aG,h]
theorem U46{p:Prop}(h:p:=by
 go_wp2_with fail
 go_ret
 exact⟨hz.out _ hv.out,y0⟩):p:=h
set_option maxHeartbeats 1000000 in
theorem aIg (k n:Int)(v2 v3:Value)(a:Option Addr)(nk c:Nat)(w:World)(hk:nk<=9223372036854775807):
  Calls Tryz.prog 229 #[.agg #[.int .i64 k,.int .i64 n,v2,v3,.slice a nk c]] w fun e w'=>e=.returned (.int .i64 (fQ k nk))/\w.grownBy w' none:=by
 have y0:=aC w (.cells #[.int .i64 k,.int .i64 n,v2,v3,.slice a nk c] 135 (0,0)) none;have q0:=aN w 135 #[.int .i64 k,.int .i64 n,v2,v3,.slice a nk c] 0 _ rfl;have q4:=aN w 135 #[.int .i64 k,.int .i64 n,v2,v3,.slice a nk c] 4 _ rfl
 have hz:Hid (∀x:Int,fQ k nk=x->Ending.returned (.int .i64 x)=.returned (.int .i64 (fQ k nk))):=fun x h=>by rw[h]
 go_enter Tryz.func229,Tryz.ntmps229;go_upto_region 1 with fail;generalize w.alloc (.cells #[.int .i64 k,.int .i64 n,v2,v3,.slice a nk c] 135 (0,0))=w1 at *
 by_cases k0:k=0
 .
  subst k0
  have hv:Hid (fQ 0 nk=0):=by show _=_;simp[fQ]
  exact U46
 have g0:(k == 0)=false:=by simpa using k0
 by_cases k1:k=1
 .
  subst k1
  have hv:Hid (fQ 1 nk=0):=by show _=_;simp[fQ]
  exact U46
 have g1:(k == 1)=false:=by simpa using k1
 by_cases k4:k=4
 .
  subst k4
  have hv:Hid (fQ 4 nk=0):=by show _=_;simp[fQ]
  exact U46
 have g4:(k == 4)=false:=by simpa using k4
 by_cases k5:k=5
 .
  subst k5
  have hv:Hid (fQ 5 nk=0):=by show _=_;simp[fQ]
  exact U46
 have g5:(k == 5)=false:=by simpa using k5
 by_cases k7:k=7
 .
  subst k7
  have hv:Hid (fQ 7 nk=0):=by show _=_;simp[fQ]
  exact U46
 have g7:(k == 7)=false:=by simpa using k7
 by_cases k2:k=2
 .
  subst k2
  have hv:Hid (fQ 2 nk=1):=by show _=_;simp[fQ]
  exact U46
 have g2:(k == 2)=false:=by simpa using k2
 by_cases k3:k=3
 .
  subst k3
  have hv:Hid (fQ 3 nk=2):=by show _=_;simp[fQ]
  exact U46
 have g3:(k == 3)=false:=by simpa using k3
 by_cases k6:k=6
 .
  subst k6
  by_cases h4:nk<=4
  .
   have Bl:(nk:Int)<=4:=by omega
   have hv:Hid (fQ 6 nk=nk):=by show _=_;simp[fQ,h4]
   exact U46
  .
   have Bl:¬(nk:Int)<=4:=by omega
   have hv:Hid (fQ 6 nk = -1):=by show _=_;simp[fQ,h4]
   exact U46
 have g6:(k == 6)=false:=by simpa using k6
 have hv:Hid (fQ k nk = -1):=by show _=_;simp[fQ,k0,k1,k2,k3,k4,k5,k6,k7]
 clear k0 k1 k2 k3 k4 k5 k6 k7;exact U46
end Go.Proofs.YtnelibmaancmkaaGreatDoor

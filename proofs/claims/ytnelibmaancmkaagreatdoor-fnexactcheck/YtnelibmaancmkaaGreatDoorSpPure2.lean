import Derived.Test.YtnelibmaancmkaaGreatDoorPackE
namespace Go.Proofs.YtnelibmaancmkaaGreatDoor
open Go.RowKit
set_option linter.unusedVariables false
set_option linter.unusedSimpArgs false
def gH (k n:Int)(name:List Int)(nk nb ne:Nat):Bool:=
 inB k 0 7 && (inB n 0 (dA k) && inB nk (bS k) (bS k) && (if dH k then aK name false else decide (name.length=0))) && (decide (nb=0) || eV k) && (decide (ne=0) || decide (k=2))
theorem nK (k n:Int)(name:List Int)(ks:List Ex)(nb ne:Nat):mI k n name ks nb ne=(gH k n name ks.length nb ne && !ks.any kK && (!decide (k=7) || ks.any iE)):=rfl
theorem cA {k n:Int}{name:List Int}{nk nb ne:Nat}(h:inB k 0 7=false\/¬(nk:Int)=bS k\/inB n 0 (dA k)=false\/(dH k=true/\aK name false=false)\/(dH k=false/\¬name.length=0)\/(¬nb=0/\eV k=false)\/(¬ne=0/\¬k=2)):gH k n name nk nb ne=false:=by
 unfold gH
 rcases h with h|h|h|⟨h1,h2⟩|⟨h1,h2⟩|⟨h1,h2⟩|⟨h1,h2⟩
 .
  rw[h];rfl
 .
  have:inB (nk:Int) (bS k) (bS k)=false:=by simp[inB];omega
  rw[this];simp
 .
  rw[h];simp
 .
  rw[h1,if_pos rfl,h2];simp
 .
  rw[h1,decide_eq_false h2];simp
 .
  rw[decide_eq_false h1,h2];simp
 .
  rw[decide_eq_false h1,decide_eq_false h2];simp
theorem iD {k n:Int}{name:List Int}{nk nb ne:Nat}(h1:inB k 0 7=true)(h2:(nk:Int)=bS k)(h3:inB n 0 (dA k)=true)(h4:(if dH k then aK name false else decide (name.length=0))=true)(h5:(decide (nb=0) || eV k)=true)(h6:(decide (ne=0) || decide (k=2))=true):gH k n name nk nb ne=true:=by
 have:inB (nk:Int) (bS k) (bS k)=true:=by simp[inB];omega
 unfold gH;rw[h1,this,h3,h4,h5,h6];rfl
def kA (ks:List Ex)(bs es:List St)(d left:Int):Bool:=eR ks d false left && bP bs d (left-(aG ks:Int)) && bP es d (left-(aG ks:Int)-(aW bs:Int))
theorem zW {k n:Int}{name:List Int}{ks:List Ex}{bs es:List St}{d left:Int}(h:gH k n name ks.length bs.length es.length=false):bL (.mk k n name ks bs es) d left=false:=by
 refine kH ?_;rw[sC,nK,h];rfl
theorem zX {n:Int}{name:List Int}{x:Ex}{bs es:List St}{d left:Int}(h:¬x.kind=6):bL (.mk 7 n name [x] bs es) d left=false:=by
 refine kH ?_;rw[sC,nK]
 simp[iE,h]
theorem iF {k n:Int}{name:List Int}{ks:List Ex}{bs es:List St}{d left:Int}(h:gH k n name ks.length bs.length es.length=true)(hc:(!decide (k=7) || ks.any iE)=true)(hl:1<=left)(hd:d<=16):bL (.mk k n name ks bs es) d left=kA ks bs es (d+1) (left-1):=by
 unfold kA eR
 cases ha:ks.any kK
 .
  simp only[Bool.not_false,Bool.or_true,Bool.true_and]
  exact pW (by rw[sC,nK,h,ha,hc];rfl) hl hd
 .
  simp only[Bool.not_true,Bool.or_self,Bool.false_and];refine kH ?_;rw[sC,nK,ha];simp
theorem hH {l:List Ex}{d left:Int}{arg:Bool}(h:eR l d arg left=true):(aG l:Int)<=left:=by
 unfold eR at h;rw[Bool.and_eq_true]at h;exact sZ h.2
end Go.Proofs.YtnelibmaancmkaaGreatDoor

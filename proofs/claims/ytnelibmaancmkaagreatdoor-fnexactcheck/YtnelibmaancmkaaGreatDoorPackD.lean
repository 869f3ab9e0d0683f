import Derived.Test.YtnelibmaancmkaaGreatDoorPage
import Derived.Lib.AppendIntMem
namespace Go.Proofs.YtnelibmaancmkaaGreatDoor
open Go.RowKit
set_option linter.unusedVariables false
set_option linter.unusedSimpArgs false
set_option maxRecDepth 100000
def fI (n:Int):List Int:=(Lib.itoa n).map fun b=>(b.toNat:Int)
def opI (n:Int):List Int:=if n=0 then [43] else if n=1 then [45] else if n=2 then [42] else if n=3 then [47] else if n=4 then [60] else [61]
def aV (s:List Int):List (List Int)->List Int
 | []=>[]
 | [x]=>x
 | x :: y :: l=>x++s++aV s (y :: l)
def iO (k n:Int)(mod name:List Int)(ts:List (List Int)):List Int:=
 if k=0 then fI n++[32]
 else if k=1 then name++[32]
 else if k=2 then name++[32]++[91,32]++ts[0]?.getD []++[93,32]
 else if k=3 then [40,32]++ts[0]?.getD []++(opI n++[32])++ts[1]?.getD []++[41,32]
 else if k=4 then [73,78,32]
 else if k=5 then [76,69,78,32]++(name++[32])
 else if k=6 then (if mod.length=0 then [] else mod++[32]++[46,32])++(name++[32])++([40,32]++aV [44,32] ts++[41,32])
 else [64,32]++(name++[32])
mutual
def prE:Ex->List Int
 | .mk k n m a ks=>iO k n m a (kC ks)
def kC:List Ex->List (List Int)
 | []=>[]
 | e :: l=>prE e :: kC l
end
theorem kB (l:List Ex):kC l=l.map prE:=by
 induction l with
 | nil=>rfl
 | cons x l ih=>simp[kC,ih]
def fK (k n:Int)(name:List Int)(ts:List (List Int))(body els:List Int):List Int:=
 if k=0 then name++[32]++[58,61,32]++ts[0]?.getD []++[59,10]
 else if k=1 then name++[32]++[91,32]++ts[0]?.getD []++[93,32]++[58,61,32]++ts[1]?.getD []++[59,10]
 else if k=2 then [73,70,32]++ts[0]?.getD []++[84,72,69,78,10]++body++[69,76,83,69,10]++els++[69,78,68,32]++[59,10]
 else if k=3 then [87,72,73,76,69,32]++ts[0]?.getD []++[68,79,10]++body++[69,78,68,32]++[59,10]
 else if k=4 then [82,69,84,85,82,78,32]++ts[0]?.getD []++[59,10]
 else if k=5 then [79,85,84,32]++ts[0]?.getD []++[59,10]
 else if k=6 then [84,82,65,80,32]++(fI n++[32])++[59,10]
 else [67,65,76,76,32]++ts[0]?.getD []++[59,10]
mutual
def prS:St->List Int
 | .mk k n a ks bs es=>fK k n a (kC ks) (prB bs) (prB es)
def prB:List St->List Int
 | []=>[]
 | s :: l=>prS s++prB l
end
def dG (v:Va):List Int:=[86,65,82,32]++(v.name++[32])++(if 0<v.size then [91,32]++(fI v.size++[32])++[93,32] else [])++[59,10]
def nN (a:Pa):List Int:=(if a.arr then [64,32] else [])++(a.name++[32])
def aX (x:List Int):List Int:=[86,65,82,32]++(x++[32])++[59,10]
def fG (x:List Int):List Int:=[73,77,80,79,82,84,32]++(x++[32])++[59,10]
def cG (q:Pr):List Int:=[80,82,79,67,32]++(q.name++[32])++(if q.opn then [42,32] else [])++([40,32]++aV [44,32] (q.params.map nN)++[41,32])++[59,10]++q.locals.flatMap aX++[66,69,71,73,78,10]++prB q.body++([69,78,68,32]++[59,10])
def prM (m:Mo):List Int:=[77,79,68,85,76,69,32]++(m.name++[32])++[59,10]++m.uses.flatMap fG++m.vars.flatMap dG++m.procs.flatMap cG++[69,78,68,32]++[46,10]
theorem aBf {l:List Int}(h:∀x ∈ l,0<=x/\x<=255):sI (strOfNums l)=l:=by
 unfold sI;rw[strOfNums_data];simp only[List.map_map]
 apply List.ext_getElem
 .
  simp
 .
  intro i h1 h2;have hb:=h _ (List.getElem_mem h2);simp only[List.getElem_map,Function.comp_apply,UInt8.toNat_ofNat']
  omega
theorem aLc {l:List Int}(h:∀x ∈ l,0<=x/\x<=255)(hn:l ∉ jB.map fun t=>t.map fun b=>((b.toNat:Nat):Int)):eH (strOfNums l)=32:=by
 unfold eH;rw[if_neg];intro hm
 apply hn
 have:=List.mem_map_of_mem (f:=fun t:List UInt8=>t.map fun b=>((b.toNat:Nat):Int)) hm
 rw[ByteArray.toList_eq]at this;have e:=aBf h;unfold sI at e;rw[e]at this;exact this
theorem aFo {l:List Int}{g:Bool}(hb:∀x ∈ l,0<=x/\x<=255)(h:aK l g=true):eH (strOfNums l)=32:=by
 refine aLc hb fun hm=>?_
 simp only[jB,List.map_cons,List.map_nil,List.mem_cons,List.not_mem_nil,or_false]at hm
 have key:∀x:List Int,aK x true=false->aK x false=false->l=x->False:=fun x h1 h2 e=>by
  subst e;cases g
  .
   rw[h2]at h;cases h
  .
   rw[h1]at h;cases h
 rcases hm with e|e|e|e|e
 .
  exact key _ V7 V7 e
 .
  exact key _ V7 V7 e
 .
  exact key _ V7 V7 e
 .
  exact key _ V7 V7 e
 .
  exact key _ V7 V7 e
theorem aEf {l:List Int}{g:Bool}(hb:∀x ∈ l,0<=x/\x<=255)(h:aK l g=true):iJ (strOfNums l)=l++[32]:=by
 unfold iJ;rw[aBf hb,aFo hb h]
theorem aGn (u:Nat):∀b ∈ Lib.decDigits u,b.toNat<=57:=by
 induction u using Nat.strongRecOn with
 | _ u ih=>
  intro b hb;rw[Lib.decDigits]at hb
  split at hb
  .
   simp only[List.mem_singleton]at hb;subst hb;rw[UInt8.toNat_ofNat'];omega
  .
   rcases List.mem_append.1 hb with h|h
   .
    exact ih (u / 10) V6 b h
   .
    simp only[List.mem_singleton]at h;subst h;rw[UInt8.toNat_ofNat'];omega
theorem aDc:∀(k u:Nat),u<10 ^ (k+1)->(Lib.decDigits u).length<=k+1:=by
 intro k
 induction k with
 | zero=>intro u h;rw[Lib.decDigits,dif_pos V6];simp
 | succ k ih=>
  intro u h;rw[Lib.decDigits]
  split
  .
   simp
  .
   have:=ih (u / 10) (by rw[Nat.pow_succ]at h;omega)
   simp only[List.length_append,List.length_singleton];omega
theorem aIl (n:Int):∀b ∈ Lib.itoa n,b.toNat<=57:=by
 intro b hb;unfold Lib.itoa at hb
 split at hb
 .
  rcases List.mem_cons.1 hb with h|h
  .
   subst h;decide
  .
   exact aGn _ b h
 .
  exact aGn _ b hb
theorem iS {n:Int}(h0:-9223372036854775808<=n)(h1:n<=9223372036854775807):(fI n).length<=21:=by
 unfold fI Lib.itoa;rw[List.length_map]
 split
 .
  have:=aDc 19 n.natAbs V6
  simp only[List.length_cons];omega
 .
  have:=aDc 19 n.toNat V6
  omega
theorem aHx (n:Int):iJ ⟨(Lib.itoa n).toArray⟩=fI n++[32]:=by
 unfold iJ fI sI
 congr 1
 unfold eH;rw[if_neg];rw[ByteArray.toList_eq];intro hm;have hle:=aIl n;simp only[jB,List.mem_cons,List.not_mem_nil,or_false]at hm
 rcases hm with e|e|e|e|e
 .
  rw[e]at hle;exact absurd (hle 59 V15) V7
 .
  rw[e]at hle;exact absurd (hle 66 V15) V7
 .
  rw[e]at hle;exact absurd (hle 84 V15) V7
 .
  rw[e]at hle;exact absurd (hle 69 V15) V7
 .
  rw[e]at hle;exact absurd (hle 68 V15) V7
theorem aNt:(exF 0).words=[[110,117,109]]:=by decide
theorem aNs:(exF 1).words=[[110,97,109,101]]:=by decide
theorem aNr:(exF 2).words=[[110,97,109,101],[91],[107,105,100],[93]]:=by decide
theorem aNq:(exF 3).words=[[40],[107,105,100],[111,112],[107,105,100],[41]]:=by decide
theorem aNp:(exF 4).words=[[73,78]]:=by decide
theorem aNo:(exF 5).words=[[76,69,78],[110,97,109,101]]:=by decide
theorem aNn:(exF 6).words=[[109,111,100],[110,97,109,101],[97,114,103,115]]:=by decide
theorem aNm:(exF 7).words=[[64],[110,97,109,101]]:=by decide
theorem aNg:(stF 0).words=[[110,97,109,101],[58,61],[107,105,100],[59]]:=by decide
theorem aNf:(stF 1).words=[[110,97,109,101],[91],[107,105,100],[93],[58,61],[107,105,100],[59]]:=by decide
theorem aNe:(stF 2).words=[[73,70],[107,105,100],[84,72,69,78],[98,111,100,121],[69,76,83,69],[101,108,115,101],[69,78,68],[59]]:=by decide
theorem aNd:(stF 3).words=[[87,72,73,76,69],[107,105,100],[68,79],[98,111,100,121],[69,78,68],[59]]:=by decide
theorem aNc:(stF 4).words=[[82,69,84,85,82,78],[107,105,100],[59]]:=by decide
theorem aNb:(stF 5).words=[[79,85,84],[107,105,100],[59]]:=by decide
theorem aNa:(stF 6).words=[[84,82,65,80],[110,117,109],[59]]:=by decide
theorem aM9:(stF 7).words=[[67,65,76,76],[99,97,108,108],[59]]:=by decide
theorem sG:aR [⟨#[91]⟩]=[91,32]:=by simp[aR,iJ,sI,eH,jB,ByteArray.toList_eq]
theorem sF:aR [⟨#[93]⟩]=[93,32]:=by simp[aR,iJ,sI,eH,jB,ByteArray.toList_eq]
theorem pQ:aR [⟨#[40]⟩]=[40,32]:=by simp[aR,iJ,sI,eH,jB,ByteArray.toList_eq]
theorem pP:aR [⟨#[41]⟩]=[41,32]:=by simp[aR,iJ,sI,eH,jB,ByteArray.toList_eq]
theorem sH:aR [⟨#[73,78]⟩]=[73,78,32]:=by simp[aR,iJ,sI,eH,jB,ByteArray.toList_eq]
theorem mW:aR [⟨#[76,69,78]⟩]=[76,69,78,32]:=by simp[aR,iJ,sI,eH,jB,ByteArray.toList_eq]
theorem aBj:aR [⟨#[64]⟩]=[64,32]:=by simp[aR,iJ,sI,eH,jB,ByteArray.toList_eq]
theorem lN:aR [⟨#[58,61]⟩]=[58,61,32]:=by simp[aR,iJ,sI,eH,jB,ByteArray.toList_eq]
theorem dP:aR [⟨#[59]⟩]=[59,10]:=by simp[aR,iJ,sI,eH,jB,ByteArray.toList_eq]
theorem sJ:aR [⟨#[73,70]⟩]=[73,70,32]:=by simp[aR,iJ,sI,eH,jB,ByteArray.toList_eq]
theorem jK:aR [⟨#[84,72,69,78]⟩]=[84,72,69,78,10]:=by simp[aR,iJ,sI,eH,jB,ByteArray.toList_eq]
theorem jN:aR [⟨#[69,76,83,69]⟩]=[69,76,83,69,10]:=by simp[aR,iJ,sI,eH,jB,ByteArray.toList_eq]
theorem eM:aR [⟨#[69,78,68]⟩]=[69,78,68,32]:=by simp[aR,iJ,sI,eH,jB,ByteArray.toList_eq]
theorem iA:aR [⟨#[87,72,73,76,69]⟩]=[87,72,73,76,69,32]:=by simp[aR,iJ,sI,eH,jB,ByteArray.toList_eq]
theorem sK:aR [⟨#[68,79]⟩]=[68,79,10]:=by simp[aR,iJ,sI,eH,jB,ByteArray.toList_eq]
theorem gA:aR [⟨#[82,69,84,85,82,78]⟩]=[82,69,84,85,82,78,32]:=by simp[aR,iJ,sI,eH,jB,ByteArray.toList_eq]
theorem mV:aR [⟨#[79,85,84]⟩]=[79,85,84,32]:=by simp[aR,iJ,sI,eH,jB,ByteArray.toList_eq]
theorem jJ:aR [⟨#[84,82,65,80]⟩]=[84,82,65,80,32]:=by simp[aR,iJ,sI,eH,jB,ByteArray.toList_eq]
theorem jO:aR [⟨#[67,65,76,76]⟩]=[67,65,76,76,32]:=by simp[aR,iJ,sI,eH,jB,ByteArray.toList_eq]
theorem aKj:aR [⟨#[46]⟩]=[46,32]:=by simp[aR,iJ,sI,eH,jB,ByteArray.toList_eq]
theorem vS:aR [⟨#[44]⟩]=[44,32]:=by simp[aR,iJ,sI,eH,jB,ByteArray.toList_eq]
theorem aKl:aR [⟨#[43]⟩]=[43,32]:=by simp[aR,iJ,sI,eH,jB,ByteArray.toList_eq]
theorem aKk:aR [⟨#[45]⟩]=[45,32]:=by simp[aR,iJ,sI,eH,jB,ByteArray.toList_eq]
theorem aF6:aR [⟨#[42]⟩]=[42,32]:=by simp[aR,iJ,sI,eH,jB,ByteArray.toList_eq]
theorem aKi:aR [⟨#[47]⟩]=[47,32]:=by simp[aR,iJ,sI,eH,jB,ByteArray.toList_eq]
theorem aKh:aR [⟨#[60]⟩]=[60,32]:=by simp[aR,iJ,sI,eH,jB,ByteArray.toList_eq]
theorem aKg:aR [⟨#[61]⟩]=[61,32]:=by simp[aR,iJ,sI,eH,jB,ByteArray.toList_eq]
theorem jL:aR [⟨#[77,79,68,85,76,69]⟩]=[77,79,68,85,76,69,32]:=by simp[aR,iJ,sI,eH,jB,ByteArray.toList_eq]
theorem jM:aR [⟨#[73,77,80,79,82,84]⟩]=[73,77,80,79,82,84,32]:=by simp[aR,iJ,sI,eH,jB,ByteArray.toList_eq]
theorem iB:aR [⟨#[86,65,82]⟩]=[86,65,82,32]:=by simp[aR,iJ,sI,eH,jB,ByteArray.toList_eq]
theorem oH:aR [⟨#[80,82,79,67]⟩]=[80,82,79,67,32]:=by simp[aR,iJ,sI,eH,jB,ByteArray.toList_eq]
theorem iC:aR [⟨#[66,69,71,73,78]⟩]=[66,69,71,73,78,10]:=by simp[aR,iJ,sI,eH,jB,ByteArray.toList_eq]
theorem cD {l:List Int}{g:Bool}(hb:∀x ∈ l,0<=x/\x<=255)(h:aK l g=true):aR [strOfNums l]=l++[32]:=by
 unfold aR;rw[List.flatMap_singleton];exact aEf hb h
theorem gU (n:Int):aR [⟨(Lib.itoa n).toArray⟩]=fI n++[32]:=by
 unfold aR;rw[List.flatMap_singleton];exact aHx n
theorem aIm (n:Int)(h0:-9223372036854775808<=n)(h1:n<=9223372036854775807)(w:World)(ht:kQ w):
  Calls Tryz.prog 217 #[.int .i64 n] w fun e w'=>e=.returned (.string ⟨(Lib.itoa n).toArray⟩)/\w.grownBy w' none:=by
 refine(Tryz.strconv_Itoa n h0 h1 w ht.p10).mono ?_;rintro e w' ⟨rfl,k,os,rfl⟩;exact⟨rfl,aI (Lib.below_grow w.heap.size w (Nat.le_refl _) k os) none⟩
def aGb (mod:List Int):List Int:=if mod.length=0 then [] else mod++[32]++[46,32]
theorem aNj (mod:List Int)(a:Option Addr)(c:Nat)(w:World)(base g:Nat)(l:List Int)(v:Value)(h:bW w a mod.length mod)(hp:Pg w base g l v)(hg:base<=g)(hok:mod.length=0\/aK mod true=true)(Bb:l.length+(aGb mod).length<=1000000000):
  Calls Tryz.prog 263 #[.pointer (some ⟨g,0,none⟩),.slice a mod.length c] w fun e w'=>e=.returned (.tuple #[])/\(∃v',Pg w' base g (l++aGb mod) v')/\aL base (some g) w w':=by
 by_cases h0:mod.length=0
 .
  have he:Hid (aGb mod=[]):=if_pos h0
  rw[h0];go_enter Tryz.func263,Tryz.ntmps263;go_wp2_with fail
  have Bq:∃v',Pg w base g (l++aGb mod) v':=⟨v,by rw[he.out];simpa using hp⟩
  exact bodyPost_end (results_none rfl _ _ _) rfl ⟨rfl,Bq,aL.refl _ _ _⟩
 .
  have he:aGb mod=mod++[32]++[46,32]:=if_neg h0
  have hnm:aK mod true=true:=hok.resolve_left h0
  have hpn:=cD (g:=true) h.2.1 hnm
  have Af:aR [strOfNums mod,⟨#[46]⟩]=mod++[32]++[46,32]:=by
   have h2:=aKj;unfold aR at hpn h2 ⊢;rw[List.flatMap_cons,h2];simp only[List.flatMap_cons,List.flatMap_nil,List.append_nil]at hpn;rw[hpn]
  have kc:=aT c h;have hgl:=hp.blk.lt
  have HQ:=eW [strOfNums mod,⟨#[46]⟩] w.heap.size 2 2 (w.alloc (.cells #[.string (strOfNums mod),.string ⟨#[46]⟩] 9)) base g _ _ (hp.grown (aC w _ none)) rfl (Blk.new w 9 [.string (strOfNums mod),.string ⟨#[46]⟩]) V6 (by rw[Af,<-he];exact Bb) hg
  rw[Af,<-he]at HQ;have Am:(0:Int)<(mod.length:Int):=V6;go_enter Tryz.func263,Tryz.ntmps263;go_wp2_with fail;refine HQ.mono ?_;rintro e w1 ⟨rfl,Bq,hq⟩;go_wp2_with fail;exact bodyPost_end (results_none rfl _ _ _) rfl ⟨rfl,Bq,(aL.of (aC w (.cells #[.string (strOfNums mod),.string ⟨#[46]⟩] 9) none)).trans hq⟩
end Go.Proofs.YtnelibmaancmkaaGreatDoor

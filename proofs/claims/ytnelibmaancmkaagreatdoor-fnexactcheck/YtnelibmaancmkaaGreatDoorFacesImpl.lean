import Derived.Test.YtnelibmaancmkaaGreatDoorPackG
namespace Go.Proofs.YtnelibmaancmkaaGreatDoor
open Go.RowKit
set_option linter.unusedVariables false
set_option linter.unusedSimpArgs false
set_option maxRecDepth 100000
def jX (fs:List Fa):Bool:=decide (fs.length<=8) && fs.all lA && gC (fs.map Fa.name)
theorem aFs (a:Option Addr)(c:Nat)(l:List Fa)(w:World)(h:aS w a c 2 (l.map Fa.fl))(hs:∀f ∈ l,f.name.length<=1048576/\∀q ∈ f.procs,q.name.length<=1048576):
  Calls Tryz.prog 81 #[.slice a l.length c,.func (.func 82) #[] #[]] w fun e w'=>e=.returned (.bool (l.all lA))/\w.grownBy w' none:=by
 refine(aJd 82 #[] none a l.length c (l.map Fa.fl) (fun j=>lA (l[j]?.getD ⟨[],[]⟩)) (fun _ wr=>w.grownBy wr none) (fun _ _=>True) w ⟨cK Tryz.func82 rfl rfl,fun j wr hi=>h.below (aA hi), ?_, ?_⟩ V15 (aP _ _) (fun j w1 w2 h1 h2=>aD h1 h2) V15 (cK Tryz.func130 rfl rfl)).mono ?_
 .
  exact U44
 .
  intro j r wr vs hr hi Ad _;rw[List.getElem?_map]at hr;obtain⟨x,hx,rfl⟩:=Option.map_eq_some_iff.1 hr;rw[hx];have hxs:=hs x (List.mem_of_getElem? hx);obtain⟨y0,us,rfl,⟨a0,c0,rfl,Ar,hc0,_⟩,y1,us2,rfl,h1,rfl⟩:=Ad;obtain⟨a1,c1,rfl,hL1⟩:=h1.list;rw[List.length_map]
  refine(zP x a0 c0 a1 c1 wr Ar V6 hc0 hL1 (fun q hq=>by have:=hxs.2 q hq;omega)).mono ?_
  rintro e w' ⟨rfl,hg⟩
  exact⟨rfl,hg,fun _=>aD hi hg,fun _=>trivial⟩
 .
  rintro e w' ⟨r,rfl,hg,ht⟩;refine⟨aE ?_,hg⟩;rw[fV ht];exact fM l ⟨[],[]⟩ lA
set_option maxHeartbeats 1000000 in
theorem wS (l:List Fa)(a:Option Addr)(n c:Nat)(w:World)(hn:l.length=n)(h:aS w a c 2 (l.map Fa.fl))(hs:∀f ∈ l,f.name.length<=1048576/\∀q ∈ f.procs,q.name.length<=1048576):
  Calls Tryz.prog 36 #[.slice a n c] w fun e w'=>e=.returned (.bool (jX l))/\w.grownBy w' none:=by
 subst hn;have HK:=aFs a c l w h hs
 have hcn:l.length<=9223372036854775807:=by have h2:=h.most;have h3:=h.cap;simp only[List.length_map]at h3;unfold maxLen at h2;omega
 have HU:∀w3,w.grownBy w3 none->Calls Tryz.prog 83 #[.slice a l.length c,.func (.func 84) #[] #[]] w3 fun e w'=>e=.returned (.bool (gC (l.map Fa.name)))/\w.grownBy w' none:=by
  intro w3 h3;refine(xJ (cK Tryz.func196 rfl rfl) a c l l.length w3 rfl (h.below (aA h3))).mono ?_;rintro e w' ⟨rfl,hg⟩;exact⟨rfl,aD h3 hg⟩
 have he:Hid (jX l=(decide (l.length<=8) && l.all lA && gC (l.map Fa.name))):=rfl
 clear h hs;generalize gC (l.map Fa.name)=r3 at HU he;generalize l.all lA=r2 at HK he;generalize l.length=n1 at *;generalize hr1:decide (n1<=8)=r1 at he;go_enter Tryz.func36,Tryz.ntmps36
 by_cases h4:n1<=8
 .
  have Bl:(n1:Int)<=8:=V6
  have hr:Hid (r1=true):=by show _=_;rw[<-hr1];exact decide_eq_true h4
  clear hr1;go_wp2_with fail;refine HK.mono ?_;rintro e w3 ⟨rfl,hg⟩;clear HK
  cases r2 with
  | false=>
   clear HU;go_wp2_with fail;go_ret;exact⟨aE V46,hg⟩
  | true=>
   have HU3:=HU w3 hg;exact U119
 .
  have Bl:¬(n1:Int)<=8:=V6
  have hr:Hid (r1=false):=by show _=_;rw[<-hr1];exact decide_eq_false h4
  clear hr1 HK HU;go_wp2_with fail;go_ret;exact⟨aE V46,aP _ _⟩
end Go.Proofs.YtnelibmaancmkaaGreatDoor

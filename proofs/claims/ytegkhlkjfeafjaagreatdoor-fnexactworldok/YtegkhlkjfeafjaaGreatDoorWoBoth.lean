import Derived.Test.YtegkhlkjfeafjaaGreatDoorWoSpec2
import Derived.Test.YtegkhlkjfeafjaaGreatDoorPackS
import Derived.Test.YtegkhlkjfeafjaaGreatDoorSpCheck
import Derived.Test.YtegkhlkjfeafjaaGreatDoorFaceSp
namespace Go.Proofs.YtegkhlkjfeafjaaGreatDoor
open Go.RowKit
set_option linter.unusedVariables false
set_option linter.unusedSimpArgs false
set_option maxRecDepth 100000
theorem U201{p:Prop}(h:p:=by
 rintro e w' ⟨nv,pv,rfl,⟨⟨l,hl⟩,hb⟩⟩
 exact⟨nv,pv,rfl,hl.vals,aI hb none⟩):p:=h
def WT (w:World):Prop:=kQ w/\(∀i,i<8->w.cell? ⟨1,i,none⟩=some (.int .i64 (pH i)))/\(∀i,i<8->w.cell? ⟨0,i,none⟩=some (.int .i64 (pC i)))
theorem WT.below {w w':World}(h:WT w){n:Nat}(hb:Below w.heap.size w w'):WT w':=⟨h.1.below hb,fun i hi=>aB (h.2.1 i hi) hb,fun i hi=>aB (h.2.2 i hi) hb⟩
theorem ckI:aRk 57 WT eY:=fun m fs vs b nf d w hT h hs hf hn hz=>aCf m fs vs b nf d w hT.1 hT.2.1 hT.2.2 h hs hf hn hz
theorem ckS:aRk 14 (fun _=>True) eY:=fun m fs vs b nf d w _ h hs hf hn hz=>aA7 m fs vs b nf d w h hs hf hn hz
theorem foI:aRj 58 WT aN8:=by
 intro m vs w hT h hs;refine(aPr m vs w hT.1 h hs).mono ?_;exact U201
theorem foS:aRj 16 (fun _=>True) aOl:=by
 intro m vs w _ h hs;refine(aQs m vs w h hs).mono ?_;exact U201
theorem aR2 (m:Mo)(hs:aH m.fl<=1048576):∀p ∈ (aN8 m).procs,p.kinds.length<=1073741824:=by
 intro p hp;unfold aN8 at hp
 split at hp
 .
  unfold aOl aMb at hp;obtain⟨q,hq,rfl⟩:=zE1.1 hp
  have:=aEg m (List.mem_filter.1 hq).1
  simp only[Pr.fp,aN1,zB2]
  omega
 .
  cases hp
theorem aQe (fs:List Fa)(m:Mo)(i:Nat):aN7 eY aOl fs m i=aN7 eY aN8 fs m i:=by
 unfold aN7
 cases hm:mX m
 .
  have:eY m (fs.take i)=1:=by unfold eY;rw[if_pos (by rw[hm];rfl)]
  rw[this]
  rfl
 .
  have:aN8 m=aOl m:=by unfold aN8;rw[if_pos hm]
  rw[this]
noncomputable def aOs (x:Wd):Bool:=aO7 eY aN8 x
theorem aP6 (x:Wd):aN2 eY aOl x=aOs x:=by
 have e0:aN6 eY aOl x.mods x.faces=aN6 eY aN8 x.mods x.faces:=by
  unfold aN6
  congr 1
  funext i
  exact aQe _ _ _
 have e1:rng (x.mods.length:Int) 1 8=(decide (1<=x.mods.length) && decide (x.mods.length<=8)):=by
  unfold rng;rw[Bool.eq_iff_iff];simp only[zC0,zE3]
  omega
 have e2:((x.faces.length:Int) == (x.mods.length:Int))=decide (x.faces.length=x.mods.length):=by
  rw[Bool.eq_iff_iff];simp only[beq_iff_eq,zE3]
  omega
 have e3:decide ((x.script.length:Int)<=2000)=decide (x.script.length<=2000):=by
  rw[Bool.eq_iff_iff];simp only[zE3]
  omega
 unfold aN2 aOs aO7;rw[e0,e1,e2,e3,aCq];generalize decide (1<=x.mods.length)=a1;generalize decide (x.mods.length<=8)=a2;generalize decide (x.faces.length=x.mods.length)=a3;generalize decide (x.script.length<=2000)=a4;generalize fsB x.faces=a5;generalize aN6 eY aN8 x.mods x.faces=a6;generalize x.script.all (aOj x.faces)=a7;generalize aOa (x.faces[x.faces.length-1]?.getD ⟨[],[]⟩)=a8;clear e0 e1 e2 e3
 revert a1 a2 a3 a4 a5 a6 a7 a8
 decide
theorem aPm (x:Wd)(w:World)(vs:List Value)(h:aO w x.fl vs)(hs:aH x.fl<=1048576):
  Calls Tryz.prog 5 #[.agg vs.toArray] w fun e w'=>e=.returned (.bool (aOs x))/\w.grownBy w' none:=by
 rw[<-aP6];refine(aPl eY aOl ckS foS x vs w h hs).mono ?_;rintro e w' ⟨rfl,hb⟩;exact⟨rfl,aI hb none⟩
theorem aPq (x:Wd)(w:World)(vs:List Value)(hT:WT w)(h:aO w x.fl vs)(hs:aH x.fl<=1048576):
  Calls Tryz.prog 7 #[.agg vs.toArray] w fun e w'=>e=.returned (.bool (aOs x))/\w.grownBy w' none:=
 aPp WT (fun _ _ h hb=>h.below (n:=0) hb) eY aN8 ckI foI aR2 x vs w hT h hs
end Go.Proofs.YtegkhlkjfeafjaaGreatDoor

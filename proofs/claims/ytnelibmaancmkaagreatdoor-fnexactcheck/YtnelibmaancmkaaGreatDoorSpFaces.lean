import Derived.Test.YtnelibmaancmkaaGreatDoorPackX
import Derived.Test.YtnelibmaancmkaaGreatDoorPackG
namespace Go.Proofs.YtnelibmaancmkaaGreatDoor
open Go.RowKit
set_option linter.unusedVariables false
set_option linter.unusedSimpArgs false
set_option maxRecDepth 100000
theorem U85{p:Prop}(h:p:=by
 go_wp2_with fail
 go_roundw
 case rel=>exact⟨j+1,by omega,by go_num,HV,HG⟩
 case measure=>simp[intOf];omega):p:=h
def aLh (fs:List Fa)(i:Nat)(f:Fa):Prop:=lA f=true/\ix (fs.map Fa.name) f.name=some i
def aGs (fs:List Fa):Prop:=fs.length<=8/\∀i f,fs[i]?=some f->aLh fs i f
noncomputable def fsB (fs:List Fa):Bool:=@decide (aGs fs) (Classical.propDecidable _)
theorem aCk {fs:List Fa}(h:¬aGs fs):fsB fs=false:=by unfold fsB;exact @decide_eq_false _ (Classical.propDecidable _) h
theorem aGh {fs:List Fa}(h:aGs fs):fsB fs=true:=by unfold fsB;exact @decide_eq_true _ (Classical.propDecidable _) h
theorem aKv {l:List (List Int)}{x:List Int}{j:Nat}(h:¬ix l x=some j):(ixI l x != (j:Int))=true:=by
 have:ixI l x ≠ (j:Int):=fun e=>h (by
  unfold ixI at e
  split at e
  .
   rename_i i hi;rw[hi];congr 1;omega
  .
   omega)
 simpa using this
set_option maxHeartbeats 4000000 in
theorem zF (fs:List Fa)(b:Option Addr)(nf d:Nat)(w:World)(h:aS w b d 2 (fs.map Fa.fl))(hl:fs.length=nf)(hs:∀f ∈ fs,f.name.length<=1048576/\∀q ∈ f.procs,q.name.length<=1048576):
  Calls Tryz.prog 24 #[.slice b nf d] w fun e w'=>e=.returned (.bool (fsB fs))/\w.grownBy w' none:=by
 have h9:=h.len9;rw[List.length_map,hl]at h9
 have HL:Hid (aS w b d 2 (fs.map Fa.fl)):=h
 have HN:Hid (fs.length=nf):=hl
 have HS:Hid (∀f ∈ fs,f.name.length<=1048576/\∀q ∈ f.procs,q.name.length<=1048576):=hs
 clear h hl hs;go_enter Tryz.func24,Tryz.ntmps24
 by_cases h8:8<nf
 .
  have HF:Hid (fsB fs=false):=aCk (fun hh=>by have:=hh.1;rw[HN.out]at this;omega)
  have h8':(8:Int)<(nf:Int):=V6;go_wp2_with fail;go_ret;exact⟨aE HF.out.symm,aP _ _⟩
 .
  have h8':¬(8:Int)<(nf:Int):=V6;go_wp2_with fail
  go_loopw [3] (fun i wr=>∃j:Nat,j<=nf/\i=.int .i64 j/\Hid (∀i f,i<j->fs[i]?=some f->aLh fs i f)/\Hid (w.grownBy wr none)) (fun i _=>nf-(intOf i).toNat)
  case atStart=>exact⟨0,Nat.zero_le _,rfl,V32,aP _ _⟩
  case round=>
   obtain⟨j,hj,rfl,Af,Hg⟩:=hrel;have yw:=Hg.out;have bw:=aA yw
   by_cases Ai:j<nf
   .
    obtain⟨f,hf⟩:∃f,fs[j]?=some f:=⟨_,List.getElem?_eq_getElem (by rw[HN.out];exact Ai)⟩
    have HFJ:Hid (fs[j]?=some f):=hf
    have hfs:=HS.out f (List.mem_of_getElem? hf)
    obtain⟨bf,off,ys,rfl,hys,Ab⟩:=aS.cellsAt HL.out (show(fs.map Fa.fl)[j]?=some f.fl by rw[List.getElem?_map,hf];rfl)
    obtain⟨s0,_,rfl,⟨ax,cx,rfl,hbx,_⟩,s1,_,rfl,hs1,rfl⟩:=hys;obtain⟨aq,cq,rfl,hQ⟩:=hs1.list;rw[List.length_map]at Ab
    have HBX:Hid (bW w ax f.name.length f.name):=hbx
    have HQ:Hid (aS w aq cq 2 (f.procs.map Fp.fl)):=hQ
    have HR:Hid (∀z v,[Value.slice ax f.name.length cx,.slice aq f.procs.length cq][z]?=some v->w.cell? ⟨bf,off+j*2+z,none⟩=some v):=Ab
    have r0:=aB (Ab 0 _ rfl) bw;have r1:=aB (Ab 1 _ rfl) bw;rw[Nat.add_zero]at r0;have H1:=yS f ax cx aq cq wr (bW.below HBX.out bw) V6 (aS.below HQ.out bw) hfs.2;clear Ab hf hbx hQ hs1 hfs;generalize hfn:f.name.length=nn at *;generalize hfp:f.procs.length=pp at *
    cases hok:lA f
    .
     have HF:Hid (fsB fs=false):=aCk (fun hh=>by have:=(hh.2 j f HFJ.out).1;rw[hok]at this;cases this)
     rw[hok]at H1;clear hok;go_wp2_with fail;refine H1.mono ?_;rintro r w2 ⟨rfl,hg⟩;have yg:=aD yw hg;clear H1 hg r0 r1 bw yw Hg Af;exact U136
    .
     have HOK:Hid (lA f=true):=hok
     rw[hok]at H1;clear hok;go_wp2_with fail;refine H1.mono ?_;rintro r w2 ⟨rfl,hg⟩;have yg:=aD yw hg;have bg:=aA yg;replace r0:=aB r0 (aA hg);have H2:=oQ fs (some ⟨bf,off,none⟩) nf d w2 (aS.below HL.out bg) HN.out ax nn cx f.name (bW.below HBX.out bg);clear H1 hg r1 bw yw Hg
     by_cases e0:ix (fs.map Fa.name) f.name=some j
     .
      have HE:Hid (ix (fs.map Fa.name) f.name=some j):=e0
      rw[cJ e0]at H2;clear e0;go_wp2_with fail;refine H2.mono ?_;rintro r w3 ⟨rfl,hg⟩
      have HG:Hid (w.grownBy w3 none):=aD yg hg
      have HV:Hid (∀i f,i<j+1->fs[i]?=some f->aLh fs i f):=fun i v hi hv=>by
       by_cases e:i=j
       .
        subst e;rw[HFJ.out]at hv;cases hv;exact⟨HOK.out,HE.out⟩
       .
        exact Af.out i v V6 hv
      clear H2 hg yg bg r0 Af;exact U85
     .
      have HF:Hid (fsB fs=false):=aCk (fun hh=>e0 (hh.2 j f HFJ.out).2)
      have ne0:=aKv e0;generalize ixI (fs.map Fa.name) f.name=i0 at H2 ne0;clear e0;go_wp2_with fail;refine H2.mono ?_;rintro r w3 ⟨rfl,hg⟩;have yh:=aD yg hg;clear H2 hg yg bg r0 Af;go_wp2_with fail;go_ret;exact⟨aE HF.out.symm,yh⟩
   .
    have:nf=j:=V6
    subst this
    have HF:Hid (fsB fs=true):=aGh ⟨by rw[HN.out];omega,fun i f hf=>Af.out i f (by have:=dY hf;rw[HN.out]at this;exact this) hf⟩
    clear Af bw Hg;go_wp2_with fail;go_ret;exact⟨aE HF.out.symm,yw⟩
end Go.Proofs.YtnelibmaancmkaaGreatDoor

import Derived.Test.YtnelibmaancmkaaGreatDoorModBoth
import Derived.Test.YtnelibmaancmkaaGreatDoorPackQ
import Derived.Test.YtnelibmaancmkaaGreatDoorTreeEq
import Derived.Test.YtnelibmaancmkaaGreatDoorTreeOpen
namespace Go.Proofs.YtnelibmaancmkaaGreatDoor
open Go.RowKit
set_option linter.unusedVariables false
set_option linter.unusedSimpArgs false
set_option maxRecDepth 100000
theorem U122{p:Prop}(h:p:=by
 go_wp2_with fail
 go_ret
 exact⟨aQ HF.out.symm,HG.out⟩):p:=h
set_option maxHeartbeats 16000000 in
theorem aA7 (m:Mo)(fs:List Fa)(vs:List Value)(b:Option Addr)(nf d:Nat)(w:World)(h:aO w m.fl vs)(hs:aH m.fl<=1048576)(hf:aS w b d 2 (fs.map Fa.fl))(hfl:fs.length=nf)(hfs:aDl fs):
  Calls Tryz.prog 7 #[agg vs,.slice b nf d] w fun e w'=>e=.returned (.int .i64 (eY m fs))/\w.grownBy w' none:=by
 have h0:=h;obtain⟨v0,_,rfl,⟨an,cn,rfl,hbn,_⟩,v1,_,rfl,hu,v2,_,rfl,hv,v3,_,rfl,hp,rfl⟩:=h;obtain⟨au,cu,rfl,hU⟩:=hu.list;obtain⟨ap,cp,rfl,hP⟩:=hp.list;have hu9:=hU.len9;have hp9:=hP.len9;have huc:=hU.cap
 have eu:(bH m.uses).length=m.uses.length:=by simp[bH]
 simp only[List.length_map,eu]at hu9 hp9 huc h0 ⊢
 obtain⟨nu,hnu⟩:∃z,z=m.uses.length:=⟨_,rfl⟩
 obtain⟨np,hnp⟩:∃z,z=m.procs.length:=⟨_,rfl⟩
 have HNU:Hid (m.uses.length=nu):=hnu.symm
 have HNP:Hid (m.procs.length=np):=hnp.symm
 rw[<-hnu,<-hnp]at h0 ⊢;rw[<-hnu]at hu9 huc;rw[<-hnp]at hp9
 have HM:Hid (aO w m.fl [.slice an m.name.length cn,.slice au nu cu,v2,.slice ap np cp]):=h0
 have HU:Hid (aS w au cu 1 (bH m.uses)):=hU
 have HP:Hid (aS w ap cp 5 (m.procs.map Pr.fl)):=hP
 have HBN:Hid (bW w an m.name.length m.name):=hbn
 have HFS:Hid (aS w b d 2 (fs.map Fa.fl)):=hf
 have HFL:Hid (fs.length=nf):=hfl
 have HFN:Hid (aDl fs):=hfs
 have HSZ:Hid (aH m.fl<=1048576):=hs
 have HPL:Hid (∀q ∈ m.procs,q.params.length<=1048576):=fun q hq=>by have:=aEg m hq;omega
 clear h0 hU hP hbn hf hfl hfs hs hu hv hp hnu hnp eu;have z0:=Blk.new w 35 [.slice an m.name.length cn,.slice au nu cu,v2,.slice ap np cp];have y0:=aC w (.cells #[.slice an m.name.length cn,.slice au nu cu,v2,.slice ap np cp] 35 (0,0)) none;simp only[List.toArray]at z0;simp only[agg];go_enter Tryz.func7,Tryz.ntmps7;go_upto_region 1 with fail;generalize w.alloc (.cells #[.slice an m.name.length cn,.slice au nu cu,v2,.slice ap np cp] 35 (0,0))=w1 at *;have H1:=aEa m w1 _ (aO.below HM.out (aA y0)) HSZ.out;simp only[List.toArray]at H1;obtain⟨k0,k1,k2,k3⟩:=z0.c4
 cases hmo:mX m
 .
  have HF:Hid (eY m fs=1):=by show _=_;unfold eY;rw[hmo];rfl
  rw[hmo]at H1;clear hmo;go_wp2_with fail;refine H1.mono ?_;rintro r w2 ⟨rfl,hg⟩;have yg:=aD y0 hg;clear H1 k0 k1 k2 k3 z0 y0 hg;go_wp2_with fail;go_ret;exact⟨aQ HF.out.symm,yg⟩
 have HMO:Hid (mX m=true):=hmo
 rw[hmo]at H1;clear hmo;go_wp2_with fail;refine H1.mono ?_;rintro r w2 ⟨rfl,hg⟩;have yg:=aD y0 hg;replace z0:=z0.below (aA hg) z0.lt;clear H1 k0 k1 k2 k3 y0 hg;have H2:=zF fs b nf d w2 (aS.below HFS.out (aA yg)) HFL.out HFN.out
 cases hfo:fsB fs
 .
  have HF:Hid (eY m fs=1):=by show _=_;unfold eY;rw[HMO.out,hfo];rfl
  rw[hfo]at H2;clear hfo;go_wp2_with fail;refine H2.mono ?_;rintro r w3 ⟨rfl,hg⟩;have yh:=aD yg hg;clear H2 z0 yg hg;go_wp2_with fail;go_ret;exact⟨aQ HF.out.symm,yh⟩
 have HFO:Hid (fsB fs=true):=hfo
 rw[hfo]at H2;clear hfo;go_wp2_with fail;refine H2.mono ?_;rintro r w3 ⟨rfl,hg⟩;have yh:=aD yg hg;replace z0:=z0.below (aA hg) z0.lt;clear H2 yg hg;obtain⟨k0,k1,k2,k3⟩:=z0.c4;have H3:=aEs m _ w3 (aO.below HM.out (aA yh));simp only[agg,List.toArray]at H3
 cases hno:nmB m
 .
  have HF:Hid (eY m fs=2):=by show _=_;unfold eY;rw[HMO.out,HFO.out,hno];rfl
  rw[hno]at H3;clear hno;go_wp2_with fail;refine H3.mono ?_;rintro r w4 ⟨rfl,hg⟩;have yi:=aD yh hg;clear H3 z0 yh hg k0 k1 k2 k3;go_wp2_with fail;go_ret;exact⟨aQ HF.out.symm,yi⟩
 have HNO:Hid (nmB m=true):=hno
 rw[hno]at H3;clear hno;go_wp2_with fail;refine H3.mono ?_;rintro r w4 ⟨rfl,hg⟩
 have Y4:Hid (w.grownBy w4 none):=aD yh hg
 have Z4:Hid (Blk w4 w.heap.size 35 [.slice an m.name.length cn,.slice au nu cu,v2,.slice ap np cp]):=z0.below (aA hg) z0.lt
 have HC3:Hid (usB m fs=false->eY m fs=3):=fun e=>by unfold eY;rw[HMO.out,HFO.out,HNO.out,e];rfl
 have HC4:Hid (usB m fs=true->eY m fs=qP m fs 0 m.procs):=fun e=>by unfold eY;rw[HMO.out,HFO.out,HNO.out,e];rfl
 clear H3 yh hg k0 k1 k2 k3 z0;go_wp2_with fail
 go_loopw [5] (fun i wr=>∃j:Nat,j<=nu/\i=.int .i64 j/\Hid (∀i u,i<j->m.uses[i]?=some u->UAt m fs i u)/\Hid (w4.grownBy wr none)) (fun i _=>nu-(intOf i).toNat)
 case atStart=>exact⟨0,Nat.zero_le _,rfl,V32,aP _ _⟩
 case round=>
  obtain⟨j,hj,rfl,Af,Hg⟩:=hrel;have hg:=Hg.out;have yw:=aD Y4.out hg;have bw:=aA yw;have z0:=Z4.out.below (aA hg) Z4.out.lt;have k1:=z0.cell (i:=1) rfl
  by_cases Ai:j<nu
  .
   obtain⟨x,hx⟩:∃x,m.uses[j]?=some x:=⟨_,List.getElem?_eq_getElem (by rw[HNU.out];exact Ai)⟩
   have HXJ:Hid (m.uses[j]?=some x):=hx
   obtain⟨bx,off,ys,rfl,hys,Ab⟩:=aS.cellsAt HU.out (show(bH m.uses)[j]?=some [Fl.b x] by unfold bH;rw[List.getElem?_map,hx];rfl)
   obtain⟨y0,_,rfl,⟨ax,cx,rfl,hbx,_⟩,_⟩:=hys
   have HBX:Hid (bW w ax x.length x):=hbx
   have r0:=aB (Ab 0 _ rfl) bw;simp only[Nat.add_zero,Nat.mul_one]at r0
   have HE:Hid (((strOfNums x).toList == (strOfNums m.name).toList)=decide (x=m.name)):=iI hbx.2.1 HBN.out.2.1
   clear Ab hx hbx;have hjc:j<=cu:=V6
   have HS:∀{wl:World},Below wr.heap.size wr wl->wl.cell? ⟨w.heap.size,0,none⟩=some (.slice an m.name.length cn)/\wl.cell? ⟨w.heap.size,1,none⟩=some (.slice (some ⟨bx,off,none⟩) nu cu)/\wl.cell? ⟨bx,off+j,none⟩=some (.slice ax x.length cx)/\bW wl ax x.length x/\bW wl an m.name.length m.name:=fun hb=>⟨aB (z0.cell (i:=0) rfl) hb,aB (z0.cell (i:=1) rfl) hb,aB r0 hb,(bW.below HBX.out bw).below hb,(bW.below HBN.out bw).below hb⟩
   have Al:=HS (wl:=wr.drew) (Below.refl _ _).drew
   by_cases e0:x=m.name
   .
    have hbq:((strOfNums x).toList == (strOfNums m.name).toList)=true:=HE.out.trans (decide_eq_true e0)
    have HF:Hid (eY m fs=3):=HC3.out (aDw fun hh=>(hh j x HXJ.out).1 e0)
    clear e0 HE;go_wp2_with fail
    refine wp_region_held_drew (S:=fun wl=>wl.cell? ⟨w.heap.size,0,none⟩=some (.slice an m.name.length cn)/\wl.cell? ⟨w.heap.size,1,none⟩=some (.slice (some ⟨bx,off,none⟩) nu cu)/\wl.cell? ⟨bx,off+j,none⟩=some (.slice ax x.length cx)/\bW wl ax x.length x/\bW wl an m.name.length m.name) V0 Al (fun Aa=>?_)
    refine ta 0 ?_ Aa;refine ta 1 ?_ Aa;refine ta 2 ?_ Aa;try simp only[nrm]
    refine ta 3 ?_ Aa;refine ta 4 ?_ Aa;try simp only[nrm]
    refine tk (i:=5) (v:=?v905) rfl V0 (.inl ⟨by rfl, ?y905⟩) Aa (fun _ _ _ h=>h) ?_
    case y905=>intro w Bp;have kc:=aT cx Bp.2.2.2.1;(try dsimp only at Bp);go_simp;first|done|rfl
    try simp only[nrm]
    refine ta 6 ?_ Aa;refine ta 7 ?_ Aa;try simp only[nrm]
    refine tk (i:=8) (v:=?v908) rfl V0 (.inl ⟨by rfl, ?y908⟩) Aa (fun _ _ _ h=>h) ?_
    case y908=>intro w Bp;have kc:=aT cn Bp.2.2.2.2;(try dsimp only at Bp);go_simp;first|done|rfl
    try simp only[nrm]
    refine ta 9 ?_ Aa;refine ta 10 ?_ Aa;try simp only[nrm]
    refine sa 11 ?_ Aa;refine sa 12 ?_ Aa;refine sa 13 ?_ Aa;try simp only[nrm]
    refine sa 14 ?_ Aa;refine sa 15 ?_ Aa;refine sa 16 ?_ Aa;try simp only[nrm]
    refine sa 17 ?_ Aa;refine sa 18 ?_ Aa;try simp only[nrm]
    refine ta 19 ?_ Aa;refine ta 20 ?_ Aa;try simp only[nrm]
    refine sa 21 ?_ Aa;refine sa 22 ?_ Aa;refine sa 23 ?_ Aa;try simp only[nrm]
    refine sa 24 ?_ Aa;refine sa 25 ?_ Aa;refine sa 26 ?_ Aa;try simp only[nrm]
    refine sa 27 ?_ Aa;refine sa 28 ?_ Aa;refine sa 29 ?_ Aa;try simp only[nrm]
    refine sa 30 ?_ Aa;try simp only[nrm]
    refine ta 31 ?_ Aa;try simp only[nrm]
    refine wpAnyH_done V0 ?_ _
    have HG:Hid (w.grownBy wr.drew none):=aI bw.drew none
    clear HS Al Aa;exact U122
   .
    have hbq:((strOfNums x).toList == (strOfNums m.name).toList)=false:=HE.out.trans (decide_eq_false e0)
    have HNE:Hid (x ≠ m.name):=e0
    have H17:=oQ fs b nf d wr.drew (aS.below HFS.out bw.drew) HFL.out ax x.length cx x (bW.below HBX.out bw.drew);clear e0 HE
    cases e1:ix (fs.map Fa.name) x with
    | none=>
     have HF:Hid (eY m fs=3):=HC3.out (aDw fun hh=>(hh j x HXJ.out).2.1 e1)
     rw[cU e1]at H17;clear e1;go_wp2_with fail
     refine wp_region_held_drew (S:=fun wl=>wl.cell? ⟨w.heap.size,0,none⟩=some (.slice an m.name.length cn)/\wl.cell? ⟨w.heap.size,1,none⟩=some (.slice (some ⟨bx,off,none⟩) nu cu)/\wl.cell? ⟨bx,off+j,none⟩=some (.slice ax x.length cx)/\bW wl ax x.length x/\bW wl an m.name.length m.name) V0 Al (fun Aa=>?_)
     refine ta 0 ?_ Aa;refine ta 1 ?_ Aa;refine ta 2 ?_ Aa;try simp only[nrm]
     refine ta 3 ?_ Aa;refine ta 4 ?_ Aa;try simp only[nrm]
     refine tk (i:=5) (v:=?v905) rfl V0 (.inl ⟨by rfl, ?y905⟩) Aa (fun _ _ _ h=>h) ?_
     case y905=>intro w Bp;have kc:=aT cx Bp.2.2.2.1;(try dsimp only at Bp);go_simp;first|done|rfl
     try simp only[nrm]
     refine ta 6 ?_ Aa;refine ta 7 ?_ Aa;try simp only[nrm]
     refine tk (i:=8) (v:=?v908) rfl V0 (.inl ⟨by rfl, ?y908⟩) Aa (fun _ _ _ h=>h) ?_
     case y908=>intro w Bp;have kc:=aT cn Bp.2.2.2.2;(try dsimp only at Bp);go_simp;first|done|rfl
     try simp only[nrm]
     refine ta 9 ?_ Aa;refine ta 10 ?_ Aa;try simp only[nrm]
     refine ta 11 ?_ Aa;refine ta 12 ?_ Aa;refine ta 13 ?_ Aa;try simp only[nrm]
     refine ta 14 ?_ Aa;refine ta 15 ?_ Aa;refine ta 16 ?_ Aa;try simp only[nrm]
     refine ra 17 fun K hK=>?_
     go_simp
     (with_reducible refine H17.mono ?_)
     rintro r w5 ⟨rfl,hg5⟩
     have b5:Below wr.heap.size wr w5:=(Below.refl wr.heap.size wr).drew.trans (aA hg5)
     have bw5:Below w.heap.size w w5:=bw.trans (b5.mono bw.size)
     have HS5:=HS b5;go_wp2_with fail
     refine hK.out _ _ (HS5) (fun Aa=>?_)
     clear hK K;try simp only[nrm]
     refine ta 18 ?_ Aa;refine ta 19 ?_ Aa;refine ta 20 ?_ Aa;try simp only[nrm]
     refine sa 21 ?_ Aa;refine sa 22 ?_ Aa;refine sa 23 ?_ Aa;try simp only[nrm]
     refine sa 24 ?_ Aa;refine sa 25 ?_ Aa;refine sa 26 ?_ Aa;try simp only[nrm]
     refine sa 27 ?_ Aa;refine sa 28 ?_ Aa;refine sa 29 ?_ Aa;try simp only[nrm]
     refine sa 30 ?_ Aa;try simp only[nrm]
     refine ta 31 ?_ Aa;try simp only[nrm]
     refine wpAnyH_done V0 ?_ _
     have HG:Hid (w.grownBy w5 none):=aI bw5 none
     clear HS Al Aa HS5 H17 hg5;exact U122
    | some i1=>
     have HI1:Hid (ix (fs.map Fa.name) x ≠ none):=by show ¬_;rw[e1];simp
     rw[cJ e1]at H17;have hi1:¬((i1:Int)<0):=V6;clear e1
     have HTK:Hid (aS w (some ⟨bx,off,none⟩) cu 1 (bH (m.uses.take j))):=by
      have:=(show aS w (some ⟨bx,off,none⟩) cu 1 (bH m.uses) from HU.out).take j
      unfold bH at this ⊢;rw[<-List.map_take]at this;exact this
     have HTL:Hid ((m.uses.take j).length=j):=by show _=_;rw[List.length_take,HNU.out];omega
     have H30:∀w5,Below w.heap.size w w5->_:=fun w5 b5=>aGf (m.uses.take j) (some ⟨bx,off,none⟩) j cu w5 (aS.below HTK.out b5) HTL.out ax x.length cx x (bW.below HBX.out b5)
     by_cases e2:x ∈ m.uses.take j
     .
      have HF:Hid (eY m fs=3):=HC3.out (aDw fun hh=>(hh j x HXJ.out).2.2 e2)
      rw[decide_eq_true e2]at H30;clear e2;go_wp2_with fail
      refine wp_region_held_drew (S:=fun wl=>wl.cell? ⟨w.heap.size,0,none⟩=some (.slice an m.name.length cn)/\wl.cell? ⟨w.heap.size,1,none⟩=some (.slice (some ⟨bx,off,none⟩) nu cu)/\wl.cell? ⟨bx,off+j,none⟩=some (.slice ax x.length cx)/\bW wl ax x.length x/\bW wl an m.name.length m.name) V0 Al (fun Aa=>?_)
      refine ta 0 ?_ Aa;refine ta 1 ?_ Aa;refine ta 2 ?_ Aa;try simp only[nrm]
      refine ta 3 ?_ Aa;refine ta 4 ?_ Aa;try simp only[nrm]
      refine tk (i:=5) (v:=?v905) rfl V0 (.inl ⟨by rfl, ?y905⟩) Aa (fun _ _ _ h=>h) ?_
      case y905=>intro w Bp;have kc:=aT cx Bp.2.2.2.1;(try dsimp only at Bp);go_simp;first|done|rfl
      try simp only[nrm]
      refine ta 6 ?_ Aa;refine ta 7 ?_ Aa;try simp only[nrm]
      refine tk (i:=8) (v:=?v908) rfl V0 (.inl ⟨by rfl, ?y908⟩) Aa (fun _ _ _ h=>h) ?_
      case y908=>intro w Bp;have kc:=aT cn Bp.2.2.2.2;(try dsimp only at Bp);go_simp;first|done|rfl
      try simp only[nrm]
      refine ta 9 ?_ Aa;refine ta 10 ?_ Aa;try simp only[nrm]
      refine ta 11 ?_ Aa;refine ta 12 ?_ Aa;refine ta 13 ?_ Aa;try simp only[nrm]
      refine ta 14 ?_ Aa;refine ta 15 ?_ Aa;refine ta 16 ?_ Aa;try simp only[nrm]
      refine ra 17 fun K hK=>?_
      go_simp
      (with_reducible refine H17.mono ?_)
      rintro r w5 ⟨rfl,hg5⟩
      have b5:Below wr.heap.size wr w5:=(Below.refl wr.heap.size wr).drew.trans (aA hg5)
      have bw5:Below w.heap.size w w5:=bw.trans (b5.mono bw.size)
      have HS5:=HS b5;have H31:=H30 w5 bw5;go_wp2_with fail
      refine hK.out _ _ (HS5) (fun Aa=>?_)
      clear hK K;try simp only[nrm]
      refine ta 18 ?_ Aa;refine ta 19 ?_ Aa;refine ta 20 ?_ Aa;try simp only[nrm]
      refine ta 21 ?_ Aa;refine ta 22 ?_ Aa;refine ta 23 ?_ Aa;try simp only[nrm]
      refine ta 24 ?_ Aa;refine ta 25 ?_ Aa;refine ta 26 ?_ Aa;try simp only[nrm]
      refine ta 27 ?_ Aa;refine ta 28 ?_ Aa;refine ta 29 ?_ Aa;try simp only[nrm]
      refine ra 30 fun K hK=>?_
      go_simp
      (with_reducible refine H31.mono ?_)
      rintro r w6 ⟨rfl,hg6⟩
      have b6:Below wr.heap.size wr w6:=b5.trans ((aA hg6).mono b5.size)
      have bw6:Below w.heap.size w w6:=bw.trans (b6.mono bw.size)
      have HS6:=HS b6;go_wp2_with fail
      refine hK.out _ _ (HS6) (fun Aa=>?_)
      clear hK K;try simp only[nrm]
      refine ta 31 ?_ Aa;try simp only[nrm]
      refine wpAnyH_done V0 ?_ _
      have HG:Hid (w.grownBy w6 none):=aI bw6 none
      clear HS Al Aa HS5 HS6 H17 H30 H31 hg5 hg6;exact U122
     .
      have HIN:Hid (x ∉ m.uses.take j):=e2
      rw[decide_eq_false e2]at H30;clear e2;go_wp2_with fail
      refine wp_region_held_drew (S:=fun wl=>wl.cell? ⟨w.heap.size,0,none⟩=some (.slice an m.name.length cn)/\wl.cell? ⟨w.heap.size,1,none⟩=some (.slice (some ⟨bx,off,none⟩) nu cu)/\wl.cell? ⟨bx,off+j,none⟩=some (.slice ax x.length cx)/\bW wl ax x.length x/\bW wl an m.name.length m.name) V0 Al (fun Aa=>?_)
      refine ta 0 ?_ Aa;refine ta 1 ?_ Aa;refine ta 2 ?_ Aa;try simp only[nrm]
      refine ta 3 ?_ Aa;refine ta 4 ?_ Aa;try simp only[nrm]
      refine tk (i:=5) (v:=?v905) rfl V0 (.inl ⟨by rfl, ?y905⟩) Aa (fun _ _ _ h=>h) ?_
      case y905=>intro w Bp;have kc:=aT cx Bp.2.2.2.1;(try dsimp only at Bp);go_simp;first|done|rfl
      try simp only[nrm]
      refine ta 6 ?_ Aa;refine ta 7 ?_ Aa;try simp only[nrm]
      refine tk (i:=8) (v:=?v908) rfl V0 (.inl ⟨by rfl, ?y908⟩) Aa (fun _ _ _ h=>h) ?_
      case y908=>intro w Bp;have kc:=aT cn Bp.2.2.2.2;(try dsimp only at Bp);go_simp;first|done|rfl
      try simp only[nrm]
      refine ta 9 ?_ Aa;refine ta 10 ?_ Aa;try simp only[nrm]
      refine ta 11 ?_ Aa;refine ta 12 ?_ Aa;refine ta 13 ?_ Aa;try simp only[nrm]
      refine ta 14 ?_ Aa;refine ta 15 ?_ Aa;refine ta 16 ?_ Aa;try simp only[nrm]
      refine ra 17 fun K hK=>?_
      go_simp
      (with_reducible refine H17.mono ?_)
      rintro r w5 ⟨rfl,hg5⟩
      have b5:Below wr.heap.size wr w5:=(Below.refl wr.heap.size wr).drew.trans (aA hg5)
      have bw5:Below w.heap.size w w5:=bw.trans (b5.mono bw.size)
      have HS5:=HS b5;have H31:=H30 w5 bw5;go_wp2_with fail
      refine hK.out _ _ (HS5) (fun Aa=>?_)
      clear hK K;try simp only[nrm]
      refine ta 18 ?_ Aa;refine ta 19 ?_ Aa;refine ta 20 ?_ Aa;try simp only[nrm]
      refine ta 21 ?_ Aa;refine ta 22 ?_ Aa;refine ta 23 ?_ Aa;try simp only[nrm]
      refine ta 24 ?_ Aa;refine ta 25 ?_ Aa;refine ta 26 ?_ Aa;try simp only[nrm]
      refine ta 27 ?_ Aa;refine ta 28 ?_ Aa;refine ta 29 ?_ Aa;try simp only[nrm]
      refine ra 30 fun K hK=>?_
      go_simp
      (with_reducible refine H31.mono ?_)
      rintro r w6 ⟨rfl,hg6⟩
      have b6:Below wr.heap.size wr w6:=b5.trans ((aA hg6).mono b5.size)
      have HS6:=HS b6;go_wp2_with fail
      refine hK.out _ _ (HS6) (fun Aa=>?_)
      clear hK K;try simp only[nrm]
      refine ta 31 ?_ Aa;try simp only[nrm]
      refine wpAnyH_done V0 ?_ _
      have HG:Hid (w4.grownBy w6 none):=aD hg (aI b6 none)
      have HV:Hid (∀i u,i<j+1->m.uses[i]?=some u->UAt m fs i u):=fun i v hi hv=>by
       by_cases e:i=j
       .
        subst e;rw[HXJ.out]at hv;cases hv;exact⟨HNE.out,HI1.out,HIN.out⟩
       .
        exact Af.out i v V6 hv
      clear HS Al Aa HS5 HS6 H17 H30 H31 hg5 hg6 Af Hg hg yw bw z0 k1 r0 hbq b5 b6 bw5;exact U85
  .
   have:nu=j:=V6
   subst this
   have HC5:Hid (eY m fs=qP m fs 0 m.procs):=HC4.out (aF0 fun i u hu=>Af.out i u (by have:=dY hu;rw[HNU.out]at this;exact this) hu)
   have Z5:Hid (Blk wr w.heap.size 35 [.slice an m.name.length cn,.slice au nu cu,v2,.slice ap np cp]):=z0
   have Y5:Hid (w.grownBy wr none):=yw
   clear Af Hg hg z0 yw bw HC3 HC4;go_wp2_with fail;clear k1;generalize wr=w5 at *
   go_loopw [6,7] (fun cc i wr=>∃(j:Nat) (z:Int),j<=np/\i=.int .i64 j/\cc=.int .i64 z/\Hid (z=qP m fs 0 (m.procs.take j))/\Hid (w5.grownBy wr none)) (fun _ i _=>np-(intOf i).toNat)
   case atStart=>exact⟨0,0,Nat.zero_le _,rfl,rfl,(by show _=_;simp[qP]),aP _ _⟩
   case round=>
    obtain⟨j,z,hj,rfl,rfl,hz,Hg⟩:=hrel;have hg:=Hg.out;have yw:=aD Y5.out hg;have bw:=aA yw;have z0:=Z5.out.below (aA hg) Z5.out.lt;have k3:=z0.cell (i:=3) rfl
    by_cases Ai:j<np
    .
     obtain⟨q,hq⟩:∃q,m.procs[j]?=some q:=⟨_,List.getElem?_eq_getElem (by rw[HNP.out];exact Ai)⟩
     have HZ:Hid (dE z (fY m fs q 0 q.body)=qP m fs 0 (m.procs.take (j+1))):=by show _=_;rw[aBk hq,hz.out]
     obtain⟨bx,off,es,rfl,hes,Ab⟩:=aS.cellsAt HP.out (show(m.procs.map Pr.fl)[j]?=some q.fl by rw[List.getElem?_map,hq];rfl)
     have hqq:=hes;obtain⟨s0,_,rfl,_,s1,_,rfl,_,s2,_,rfl,_,s3,_,rfl,_,s4,_,rfl,hs4,rfl⟩:=hes;obtain⟨ab,cb,rfl,hB⟩:=hs4.list
     have eb:(sts q.body).length=q.body.length:=by simp[aM]
     rw[eb]at Ab hqq
     have HQQ:Hid (aO w q.fl [s0,s1,s2,s3,.slice ab q.body.length cb]):=hqq
     have HB:Hid (aS w ab cb 6 (sts q.body)):=hB
     have r0:=aB (Ab 0 _ rfl) bw;have r1:=aB (Ab 1 _ rfl) bw;have r2:=aB (Ab 2 _ rfl) bw;have r3:=aB (Ab 3 _ rfl) bw;have r4:=aB (Ab 4 _ rfl) bw;rw[Nat.add_zero]at r0;clear Ab hq hqq hs4 hB eb hz
     have HS:∀{wl:World},Below wr.heap.size wr wl->wl.cell? ⟨w.heap.size,0,none⟩=some (.slice an m.name.length cn)/\wl.cell? ⟨w.heap.size,1,none⟩=some (.slice au nu cu)/\wl.cell? ⟨w.heap.size,2,none⟩=some (v2)/\wl.cell? ⟨w.heap.size,3,none⟩=some (.slice (some ⟨bx,off,none⟩) np cp)/\wl.cell? ⟨bx,off+j*5,none⟩=some s0/\wl.cell? ⟨bx,off+j*5+1,none⟩=some s1/\wl.cell? ⟨bx,off+j*5+2,none⟩=some s2/\wl.cell? ⟨bx,off+j*5+3,none⟩=some s3/\wl.cell? ⟨bx,off+j*5+4,none⟩=some (.slice ab q.body.length cb):=fun hb=>⟨aB (z0.cell (i:=0) rfl) hb,aB (z0.cell (i:=1) rfl) hb,aB (z0.cell (i:=2) rfl) hb,aB (z0.cell (i:=3) rfl) hb,aB r0 hb,aB r1 hb,aB r2 hb,aB r3 hb,aB r4 hb⟩
     have Al:=HS (wl:=wr.drew) (Below.refl _ _).drew;have H14:=aMm m fs q q.body wr.drew _ _ b nf d ab cb ⟨aO.below HM.out bw.drew,aO.below HQQ.out bw.drew,aS.below HFS.out bw.drew,HFL.out,HPL.out⟩ (aS.below HB.out bw.drew);simp only[agg,List.toArray]at H14;go_wp2_with fail
     refine wp_region_held_drew (S:=fun wl=>wl.cell? ⟨w.heap.size,0,none⟩=some (.slice an m.name.length cn)/\wl.cell? ⟨w.heap.size,1,none⟩=some (.slice au nu cu)/\wl.cell? ⟨w.heap.size,2,none⟩=some (v2)/\wl.cell? ⟨w.heap.size,3,none⟩=some (.slice (some ⟨bx,off,none⟩) np cp)/\wl.cell? ⟨bx,off+j*5,none⟩=some s0/\wl.cell? ⟨bx,off+j*5+1,none⟩=some s1/\wl.cell? ⟨bx,off+j*5+2,none⟩=some s2/\wl.cell? ⟨bx,off+j*5+3,none⟩=some s3/\wl.cell? ⟨bx,off+j*5+4,none⟩=some (.slice ab q.body.length cb)) V0 Al (fun Aa=>?_)
     refine ta 0 ?_ Aa;refine ta 1 ?_ Aa;refine ta 2 ?_ Aa;try simp only[nrm]
     refine ta 3 ?_ Aa;refine ta 4 ?_ Aa;refine ta 5 ?_ Aa;try simp only[nrm]
     refine ta 6 ?_ Aa;refine ta 7 ?_ Aa;refine ta 8 ?_ Aa;try simp only[nrm]
     refine ta 9 ?_ Aa;refine ta 10 ?_ Aa;refine ta 11 ?_ Aa;try simp only[nrm]
     refine ta 12 ?_ Aa;refine ta 13 ?_ Aa;try simp only[nrm]
     refine ra 14 fun K hK=>?_
     go_simp
     (with_reducible refine H14.mono ?_)
     rintro r w6 ⟨rfl,hg6⟩
     have b6:Below wr.heap.size wr w6:=(Below.refl wr.heap.size wr).drew.trans (aA hg6)
     have HS6:=HS b6;have H15:=rS z (fY m fs q 0 q.body) w6;go_wp2_with fail
     refine hK.out _ _ (HS6) (fun Aa=>?_)
     clear hK K;try simp only[nrm]
     refine ra 15 fun K hK=>?_
     go_simp
     (with_reducible refine H15.mono ?_)
     rintro r w7 ⟨rfl,rfl⟩;go_wp2_with fail
     refine hK.out _ _ (HS6) (fun Aa=>?_)
     clear hK K;try simp only[nrm]
     refine ta 16 ?_ Aa;try simp only[nrm]
     refine wpAnyH_done V0 ?_ _
     have HG7:Hid (w5.grownBy w7 none):=aD hg (aI b6 none)
     clear HS Al HS6 Aa H14 H15 r0 r1 r2 r3 r4 k3 z0 bw yw hg Hg hg6 b6;generalize dE z (fY m fs q 0 q.body)=z' at *;go_wp2_with fail;go_roundw
     case rel=>exact⟨j+1,z',by omega,by go_num,rfl,HZ,HG7⟩
     case measure=>simp[intOf];omega
    .
     have:np=j:=V6
     subst this
     have HF:Hid (eY m fs=z):=by show _=_;rw[HC5.out,hz.out,List.take_of_length_le (by rw[HNP.out];exact Nat.le_refl _)]
     clear z0 bw hz Hg hg;exact U135
theorem tY {w:World}{lo hi:Nat}{us:List Value}{x:Mo}(h:bJ w lo hi x.fl us):
  ∃g0 m0 g1 m1 g2 m2 g3 m3,us=[.slice (some ⟨g0,0,none⟩) m0 m0,.slice (some ⟨g1,0,none⟩) m1 m1,.slice (some ⟨g2,0,none⟩) m2 m2,.slice (some ⟨g3,0,none⟩) m3 m3]:=by
 unfold Mo.fl at h;simp only[bJ,Fl.Has]at h;obtain⟨u0,_,_,rfl,_,_,⟨g0,rfl,_⟩,u1,_,_,rfl,_,_,⟨g1,_,_,rfl,_⟩,u2,_,_,rfl,_,_,⟨g2,_,_,rfl,_⟩,u3,_,_,rfl,_,_,⟨g3,_,_,rfl,_⟩,rfl⟩:=h;exact⟨g0,_,g1,_,g2,_,g3,_,rfl⟩
theorem wN {l:List Fa}(h:(l.map Fa.fl).length+aF (l.map Fa.fl)<=1048576):aDl l:=by
 intro f hf;have h1:=hZ (f:=Fa.fl) hf
 have e:aH f.fl=f.name.length+((f.procs.map Fp.fl).length+aF (f.procs.map Fp.fl)):=by simp[Fa.fl,aH,Fl.len]
 refine⟨by omega,fun q hq=>?_⟩
 have h2:=hZ (f:=Fp.fl) hq
 have e2:aH q.fl=q.name.length+q.kinds.length:=by simp[Fp.fl,aH,Fl.len]
 omega
set_option maxHeartbeats 8000000 in
theorem aAj (x:Mo)(vs:List Value)(l:List Fa)(v:Value)(w:World)(hT:kQ w)(hex:∀i,i<8->w.cell? ⟨1,i,none⟩=some (.int .i64 (pH i)))(hst:∀i,i<8->w.cell? ⟨0,i,none⟩=some (.int .i64 (pC i)))(h:aO w x.fl vs)(hF:(Fl.l 2 (l.map Fa.fl)).Rd w v):
  Calls Tryz.prog 3 #[.agg vs.toArray,v] w fun e w'=>e=.returned (.bool true)/\Below w.heap.size w w':=by
 obtain⟨v0,v1,v2,v3,rfl⟩:=mO (h.len.trans (show x.fl.length=4 from rfl))
 have Hf:Hid ((Fl.l 2 (l.map Fa.fl)).Rd w v):=hF
 obtain⟨av,cv,rfl,_⟩:=hF.list;rw[List.length_map]at *
 have hNl:(Fl.l 2 (l.map Fa.fl)).len=(l.map Fa.fl).length+aF (l.map Fa.fl):=by simp[Fl.len]
 have x0:=Blk.new w 27 [v0,v1,v2,v3]
 have y0:Below w.heap.size w (w.alloc (.cells #[v0,v1,v2,v3] 27 (0,0))):=(Below.refl _ _).alloc (Nat.le_refl _) _
 have Hh:Hid (aO w x.fl [v0,v1,v2,v3]):=h
 have HT:Hid (∀W,Below w.heap.size w W->kQ W/\(∀i,i<8->W.cell? ⟨1,i,none⟩=some (.int .i64 (pH i)))/\(∀i,i<8->W.cell? ⟨0,i,none⟩=some (.int .i64 (pC i)))):=fun W hb=>⟨hT.below hb,fun i hi=>aB (hex i hi) hb,fun i hi=>aB (hst i hi) hb⟩
 clear h hF hT hex hst;simp only[List.toArray]at x0;go_enter Tryz.func3,Tryz.ntmps3;go_upto_region 2 with fail;generalize w.alloc (.cells #[v0,v1,v2,v3] 27 (0,0))=w0 at *;obtain⟨k0,k1,k2,k3⟩:=x0.c4;have H1:=aM6 x w [v0,v1,v2,v3] Hh.out w0 1048576 y0 V6 V6;simp only[List.toArray]at H1;generalize hN0:aH x.fl=Nn at H1
 by_cases hs:(Nn:Int)<=1048576
 .
  rw[aU hs]at H1;have hneg:¬((1048576:Int)-(Nn:Int)<0):=V6
  have Bb:Hid (aH x.fl<=1048576):=by show _<=_;omega
  go_wp2_with fail;refine H1.mono ?_;rintro e w1 ⟨rfl,hb⟩;have x1:=x0.below hb x0.lt
  have y1:Below w.heap.size w w1:=y0.trans (hb.mono y0.size)
  clear H1 k0 k1 k2 k3 x0 y0 hb hN0;have HZ:=aLl l w _ Hf.out w1 (1048576-(Nn:Int)) y1 V6 V6;rw[hNl]at HZ;generalize hM0:(l.map Fa.fl).length+aF (l.map Fa.fl)=Mm at HZ
  by_cases hs2:(Mm:Int)<=1048576-(Nn:Int)
  .
   rw[aU hs2]at HZ;have hneg2:¬((1048576:Int)-(Nn:Int)-(Mm:Int)<0):=V6
   have hsf:Hid ((l.map Fa.fl).length+aF (l.map Fa.fl)<=1048576):=by show _<=_;omega
   have TO:Hid (∀(W:World),Below w.heap.size w W->Calls Tryz.prog 9 #[.slice av l.length cv] W fun e w'=>∃g,e=.returned (.slice (some ⟨g,0,none⟩) l.length l.length)/\(Fl.l 2 (l.map Fa.fl)).Has w' W.heap.size w'.heap.size (.slice (some ⟨g,0,none⟩) l.length l.length)/\Below W.heap.size W w'):=by
    intro W hb;refine(aLk l hsf.out w _ Hf.out W hb).mono ?_;rintro e w' ⟨g,n,rfl,hh,hb'⟩
    obtain⟨g',_,_,e,_⟩:=(show Fl.Has _ _ _ (.l 2 (l.map Fa.fl)) _ from hh) |> fun q=>by unfold Fl.Has at q;exact q
    have hn:n=l.length:=by
     simp only[Value.slice.injEq,Option.some.injEq,Addr.mk.injEq,and_true,List.length_map]at e;exact e.2.1
    subst hn;exact⟨g,rfl,hh,hb'⟩
   have RW0:Hid (∀{W:World} {lo hi g:Nat},(Fl.l 2 (l.map Fa.fl)).Has W lo hi (.slice (some ⟨g,0,none⟩) l.length l.length)->aS W (some ⟨g,0,none⟩) l.length 2 (l.map Fa.fl)):=by
    intro W lo hi g hh;obtain⟨a,c,e,hl⟩:=hh.rd.list;simp only[Value.slice.injEq]at e;rw[e.1,e.2.2];exact hl
   have SP:Hid (∀(us:List Value) (a:Option Addr) (c:Nat) (W:World),aO W x.fl us->aS W a c 2 (l.map Fa.fl)->Calls Tryz.prog 7 #[.agg us.toArray,.slice a l.length c] W fun e w'=>e=.returned (.int .i64 (eY x l))/\W.grownBy w' none):=fun us a c W hr hl=>aA7 x l us a l.length c W hr Bb.out hl rfl (wN hsf.out)
   have IM:Hid (∀(us:List Value) (a:Option Addr) (c:Nat) (W:World),Below w.heap.size w W->aO W x.fl us->aS W a c 2 (l.map Fa.fl)->Calls Tryz.prog 10 #[.agg us.toArray,.slice a l.length c] W fun e w'=>e=.returned (.int .i64 (eY x l))/\W.grownBy w' none):=fun us a c W hb hr hl=>aCf x l us a l.length c W (HT.out W hb).1 (HT.out W hb).2.1 (HT.out W hb).2.2 hr Bb.out hl rfl (wN hsf.out)
   have EO:Hid (EqF 12 (.l 2 (l.map Fa.fl))):=aMd l hsf.out
   clear hM0 hNl;generalize l.length=n at *;generalize eY x l=cc at *;go_wp2_with fail;refine HZ.mono ?_;rintro e w1' ⟨rfl,hb⟩;have x1':=x1.below hb x1.lt
   have y1':Below w.heap.size w w1':=y1.trans (hb.mono y1.size)
   clear HZ x1 y1 hb;have k0:=x1'.cell (i:=0) rfl;have k1:=x1'.cell (i:=1) rfl;have k2:=x1'.cell (i:=2) rfl;have k3:=x1'.cell (i:=3) rfl;have H2:=aLj x Bb.out w [v0,v1,v2,v3] Hh.out w1' y1';simp only[List.toArray]at H2;go_wp2_with fail;refine H2.mono ?_;rintro e w2 ⟨u2,rfl,hl2,hO2,hb⟩;have x2:=x1'.below hb x1'.lt
   have y2:Below w.heap.size w w2:=y1'.trans (hb.mono y1'.size)
   have R2:=hO2.vals;have H3:=TO.out w2 y2;clear H2 k0 k1 k2 k3 x1' y1' hb hO2;go_wp2_with fail;refine H3.mono ?_;rintro e w3 ⟨g3,rfl,hh3,hb⟩;have x3:=x2.below hb x2.lt
   have y3:Below w.heap.size w w3:=y2.trans (hb.mono y2.size)
   have H4:=SP.out _ _ _ w3 (R2.below hb) (RW0.out hh3);clear H3 x2 y2 hb R2 hh3;go_wp2_with fail;refine H4.mono ?_;rintro e w4 ⟨rfl,hb⟩;replace hb:=aA hb;have x4:=x3.below hb x3.lt
   have y4:Below w.heap.size w w4:=y3.trans (hb.mono y3.size)
   clear H4 x3 y3 hb;obtain⟨k0,k1,k2,k3⟩:=x4.c4;have H5:=aLj x Bb.out w [v0,v1,v2,v3] Hh.out w4 y4;simp only[List.toArray]at H5;go_wp2_with fail;refine H5.mono ?_;rintro e w5 ⟨u5,rfl,hl5,hO5,hb⟩;have x5:=x4.below hb x4.lt
   have y5:Below w.heap.size w w5:=y4.trans (hb.mono y4.size)
   have R5:=hO5.vals;obtain⟨g0,m0,g1,m1,g2,m2,g3',m3,hu5⟩:=tY hO5;subst hu5;clear H5 k0 k1 k2 k3 x4 y4 hb hO5;go_upto_region 10 with fail;have z6:=Blk.new w5 35 [.slice (some ⟨g0,0,none⟩) m0 m0,.slice (some ⟨g1,0,none⟩) m1 m1,.slice (some ⟨g2,0,none⟩) m2 m2,.slice (some ⟨g3',0,none⟩) m3 m3]
   have y56:Below w5.heap.size w5 (w5.alloc (.cells #[.slice (some ⟨g0,0,none⟩) m0 m0,.slice (some ⟨g1,0,none⟩) m1 m1,.slice (some ⟨g2,0,none⟩) m2 m2,.slice (some ⟨g3',0,none⟩) m3 m3] 35 (0,0))):=(Below.refl _ _).alloc (Nat.le_refl _) _
   have x6:=x5.old (o:=.cells #[.slice (some ⟨g0,0,none⟩) m0 m0,.slice (some ⟨g1,0,none⟩) m1 m1,.slice (some ⟨g2,0,none⟩) m2 m2,.slice (some ⟨g3',0,none⟩) m3 m3] 35 (0,0));simp only[List.toArray]at z6;generalize w5.alloc (.cells #[.slice (some ⟨g0,0,none⟩) m0 m0,.slice (some ⟨g1,0,none⟩) m1 m1,.slice (some ⟨g2,0,none⟩) m2 m2,.slice (some ⟨g3',0,none⟩) m3 m3] 35 (0,0))=w6 at *
   have y6:Below w.heap.size w w6:=y5.trans (y56.mono y5.size)
   have R6:=R5.below y56;generalize w5.heap.size=gx at *;clear x5 y5 R5 y56;have H7:=TO.out w6 y6;go_wp2_with fail;refine H7.mono ?_;rintro e w7 ⟨g7,rfl,hh7,hb⟩;have x7:=x6.below hb x6.lt;have z7:=z6.below hb z6.lt
   have y7:Below w.heap.size w w7:=y6.trans (hb.mono y6.size)
   have R7:=R6.below hb;have L7:=RW0.out hh7;clear H7 x6 z6 y6 hb R6;have H8:=IM.out _ _ _ w7 y7 R7 L7;have F7:=hh7.rd;simp only[List.toArray]at H8;obtain⟨j0,j1,j2,j3⟩:=z7.c4;clear hh7;go_wp2_with fail;refine H8.mono ?_;rintro e w8 ⟨rfl,hb⟩;replace hb:=aA hb;have x8:=x7.below hb x7.lt;have z8:=z7.below hb z7.lt
   have y8:Below w.heap.size w w8:=y7.trans (hb.mono y7.size)
   have R8:Hid (aO w8 x.fl _):=R7.below hb
   have F8:Hid ((Fl.l 2 (l.map Fa.fl)).Rd w8 (.slice (some ⟨g7,0,none⟩) n n)):=F7.below hb
   have hcc:(cc != cc)=false:=by simp
   clear H8 x7 z7 y7 hb R7 L7 F7 j0 j1 j2 j3;obtain⟨k0,k1,k2,k3⟩:=x8.c4;obtain⟨j0,j1,j2,j3⟩:=z8.c4;go_wp2_with fail
   have HS:∀{wl:World},Below w8.heap.size w8 wl->(wl.cell? ⟨w.heap.size,0,none⟩=some v0/\wl.cell? ⟨w.heap.size,1,none⟩=some v1/\wl.cell? ⟨w.heap.size,2,none⟩=some v2/\wl.cell? ⟨w.heap.size,3,none⟩=some v3)/\(wl.cell? ⟨gx,0,none⟩=some (.slice (some ⟨g0,0,none⟩) m0 m0)/\wl.cell? ⟨gx,1,none⟩=some (.slice (some ⟨g1,0,none⟩) m1 m1)/\wl.cell? ⟨gx,2,none⟩=some (.slice (some ⟨g2,0,none⟩) m2 m2)/\wl.cell? ⟨gx,3,none⟩=some (.slice (some ⟨g3',0,none⟩) m3 m3)):=
    fun hb=>⟨⟨aB k0 hb,aB k1 hb,aB k2 hb,aB k3 hb⟩,⟨aB j0 hb,aB j1 hb,aB j2 hb,aB j3 hb⟩⟩
   have HT9:=aLj x Bb.out w [v0,v1,v2,v3] Hh.out w8.drew y8.drew;simp only[List.toArray]at HT9;have Al:=HS (wl:=w8.drew) (Below.refl _ _).drew
   refine wp_region_held_drew (S:=fun wl=>(wl.cell? ⟨w.heap.size,0,none⟩=some v0/\wl.cell? ⟨w.heap.size,1,none⟩=some v1/\wl.cell? ⟨w.heap.size,2,none⟩=some v2/\wl.cell? ⟨w.heap.size,3,none⟩=some v3)/\(wl.cell? ⟨gx,0,none⟩=some (.slice (some ⟨g0,0,none⟩) m0 m0)/\wl.cell? ⟨gx,1,none⟩=some (.slice (some ⟨g1,0,none⟩) m1 m1)/\wl.cell? ⟨gx,2,none⟩=some (.slice (some ⟨g2,0,none⟩) m2 m2)/\wl.cell? ⟨gx,3,none⟩=some (.slice (some ⟨g3',0,none⟩) m3 m3))) V0 Al (fun Aa=>?_)
   refine wpAnyH_take (i:=0) (v:=?v501) rfl V0 V0 V0 (fun _ _ _ h=>h) (.inl ⟨by rfl, ?y501⟩) Aa ?_
   case y501=>intro w Bp;(try dsimp only at Bp);go_simp;first|done|rfl
   refine wpAnyH_take (i:=1) (v:=?v502) rfl V0 V0 V0 (fun _ _ _ h=>h) (.inl ⟨by rfl, ?y502⟩) Aa ?_
   case y502=>intro w Bp;(try dsimp only at Bp);go_simp;first|done|rfl
   try simp only[Act.put,List.getElem_toArray,List.getElem_cons_zero,List.getElem_cons_succ,List.setIfInBounds_toArray,List.set_cons_zero,List.set_cons_succ]
   refine ra 2 fun K hK=>?_
   go_simp
   (with_reducible refine HT9.mono ?_)
   rintro e wa ⟨ua,rfl,hla,hOa,hba⟩
   have hb9a:Below w8.heap.size w8 wa:=(Below.refl w8.heap.size w8).drew.trans hba
   have HSa:=HS hb9a;have HQ9:=aNv x Bb.out wa _ ua (R8.out.below hb9a) hOa.vals wa (Below.refl _ _);simp only[List.toArray]at HQ9;go_wp2_with fail
   refine hK.out _ _ (HSa) (fun Aa=>?_)
   clear hK K;try simp only[Act.put,List.getElem_toArray,List.getElem_cons_zero,List.getElem_cons_succ,List.setIfInBounds_toArray,List.set_cons_zero,List.set_cons_succ]
   refine ra 3 fun K hK=>?_
   go_simp
   (with_reducible refine HQ9.mono ?_)
   rintro e w10 ⟨rfl,hb10⟩
   have b10:Below w8.heap.size w8 w10:=hb9a.trans (hb10.mono hb9a.size)
   have HS8:=HS b10;go_wp2_with fail
   refine hK.out _ _ (HS8) (fun Aa=>?_)
   clear hK K;try simp only[Act.put,List.getElem_toArray,List.getElem_cons_zero,List.getElem_cons_succ,List.setIfInBounds_toArray,List.set_cons_zero,List.set_cons_succ]
   refine wpAnyH_take (i:=4) (v:=?v505) rfl V0 V0 V0 (fun _ _ _ h=>h) (.inl ⟨by rfl, ?y505⟩) Aa ?_
   case y505=>intro w Bp;(try dsimp only at Bp);go_simp;first|done|rfl
   try simp only[Act.put,List.getElem_toArray,List.getElem_cons_zero,List.getElem_cons_succ,List.setIfInBounds_toArray,List.set_cons_zero,List.set_cons_succ]
   refine wpAnyH_done V0 ?_ _
   have y10:Below w.heap.size w w10:=y8.trans (b10.mono y8.size)
   have F10:Hid ((Fl.l 2 (l.map Fa.fl)).Rd w10 (.slice (some ⟨g7,0,none⟩) n n)):=F8.out.below b10
   clear HS Al HSa HS8 HQ9 HT9 hb9a b10 hba hb10 hOa k0 k1 k2 k3 j0 j1 j2 j3 x8 z8 y8 Aa;have H11:=TO.out w10 y10;go_wp2_with fail;refine H11.mono ?_;rintro e w11 ⟨g11,rfl,hh11,hb⟩
   have y11:Below w.heap.size w w11:=y10.trans (hb.mono y10.size)
   have H12:=EO.out w11 _ _ (F10.out.below hb) hh11.rd w11 (Below.refl _ _);clear H11 y10 hb hh11;go_wp2_with fail;refine H12.mono ?_;rintro e w12 ⟨rfl,hb⟩
   have y12:Below w.heap.size w w12:=y11.trans (hb.mono y11.size)
   clear H12 y11 hb;go_wp2_with fail;go_ret;exact⟨rfl,y12⟩
  .
   rw[bM hs2]at HZ;clear hM0;go_wp2_with fail;refine HZ.mono ?_;rintro e w2 ⟨rfl,hb⟩
   have y2:Below w.heap.size w w2:=y1.trans (hb.mono y1.size)
   go_wp2_with fail;go_ret;exact⟨rfl,y2⟩
 .
  rw[bM hs]at H1;clear hN0;go_wp2_with fail;refine H1.mono ?_;rintro e w1 ⟨rfl,hb⟩
  have y1:Below w.heap.size w w1:=y0.trans (hb.mono y0.size)
  go_wp2_with fail;go_ret;exact⟨rfl,y1⟩
end Go.Proofs.YtnelibmaancmkaaGreatDoor

import Derived.Test.YtegkhlkjfeafjaaGreatDoorModBoth
import Derived.Test.YtegkhlkjfeafjaaGreatDoorFaceImpl
namespace Go.Proofs.YtegkhlkjfeafjaaGreatDoor
open Go.RowKit
set_option linter.unusedVariables false
set_option linter.unusedSimpArgs false
set_option maxRecDepth 100000
theorem U360{p:Prop}(h:p:=by
 go_wp2
 go_ret
 exact⟨aQ HF.out.symm,HG.out⟩):p:=h
theorem M947{p q:Prop}(k:q)(h:Kx q->p:=by
 intro kQ
 try simp only[nrm]
 refine ta 18 ?_
 refine ta 19 ?_
 refine ta 20 ?_
 try simp only[nrm]
 refine ta 21 ?_
 refine ta 22 ?_
 refine ta 23 ?_
 try simp only[nrm]
 refine ta 24 ?_
 refine ta 25 ?_
 refine ta 26 ?_
 try simp only[nrm]
 refine ta 27 ?_
 exact kQ.o):p:=h ⟨k⟩
theorem M9218{p q:Prop}(k:q)(h:Kx q->p:=by
 intro kQ
 (with_reducible refine H17.mono ?_)
 rintro r w5 ⟨rfl,hg5⟩
 have b5:Below wr.heap.size wr w5:=(zD2 wr.heap.size wr).drew.trans (aA hg5)
 have bw5:=bw.trans (b5.mono bw.size)
 have HS5:=HS b5
 revert HS5;revert bw5;revert b5;revert hg5;revert w5
 exact kQ.o):p:=h ⟨k⟩
theorem M9120{p q:Prop}(k:q)(h:Kx q->p:=by
 intro kQ
 try simp only[nrm]
 refine sa 24 ?_
 refine sa 25 ?_
 refine sa 26 ?_
 try simp only[nrm]
 refine sa 27 ?_
 refine sa 28 ?_
 refine sa 29 ?_
 try simp only[nrm]
 refine sa 30 ?_
 exact kQ.o):p:=h ⟨k⟩
theorem M9142{p q:Prop}(k:q)(h:Kx q->p:=by
 intro kQ
 try simp only[nrm]
 refine ta 6 ?_
 refine ta 7 ?_
 try simp only[nrm]
 exact kQ.o):p:=h ⟨k⟩
set_option maxHeartbeats 16000000 in
theorem aA7 (m:Mo)(fs:List Fa)(vs:List Value)(b:Option Addr)(nf d:Nat)(w:World)(h:aO w m.fl vs)(hs:aH m.fl<=1048576)(hf:aS w b d 2 (fs.map Fa.fl))(hfl:fs.length=nf)(hfs:aDl fs):
  Calls Tryz.prog 14 #[agg vs,.slice b nf d] w fun e w'=>e=.returned (.int .i64 (eY m fs))/\w.grownBy w' none:=by
 have h0:=h;obtain⟨v0,_,rfl,⟨an,cn,rfl,hbn,_⟩,v1,_,rfl,hu,v2,_,rfl,hv,v3,_,rfl,hp,rfl⟩:=h;obtain⟨au,cu,rfl,hU⟩:=hu.list;obtain⟨ap,cp,rfl,hP⟩:=hp.list;have hu9:=hU.len9;have hp9:=hP.len9;have huc:=hU.cap
 have eu:(bH m.uses).length=m.uses.length:=by simp[bH]
 simp only[zB2,eu]at hu9 hp9 huc h0 ⊢
 obtain⟨nu,hnu⟩:∃z,z=m.uses.length:=⟨_,rfl⟩
 obtain⟨np,hnp⟩:∃z,z=m.procs.length:=⟨_,rfl⟩
 have HNU:=hid hnu.symm;have HNP:=hid hnp.symm;rw[<-hnu,<-hnp]at h0 ⊢;rw[<-hnu]at hu9 huc;rw[<-hnp]at hp9;have HM:=hid h0;have HU:=hid hU;have HP:=hid hP;have HBN:=hid hbn;have HFS:=hid hf;have HFL:=hid hfl;have HFN:=hid hfs;have HSZ:=hid hs
 have HPL:Hid (∀q ∈ m.procs,q.params.length<=1048576):=fun q hq=>by have:=aEg m hq;omega
 clear h0 hU hP hbn hf hfl hfs hs hu hv hp hnu hnp eu;have z0:=Blk.new w 48 [.slice an m.name.length cn,.slice au nu cu,v2,.slice ap np cp];have y0:=aC w (.cells #[.slice an m.name.length cn,.slice au nu cu,v2,.slice ap np cp] 48 (0,0)) none;simp only[List.toArray]at z0;simp only[agg];go_enter Tryz.func14,Tryz.ntmps14;go_upto_region 1 with fail;generalize w.alloc (.cells #[.slice an m.name.length cn,.slice au nu cu,v2,.slice ap np cp] 48 (0,0))=w1 at *;have H1:=aEa m w1 _ (aO.below HM.out (aA y0)) HSZ.out;simp only[List.toArray]at H1;obtain⟨k0,k1,k2,k3⟩:=z0.c4
 cases hmo:mX m
 .
  have HF:Hid (eY m fs=1):=by show _=_;unfold eY;rw[hmo];rfl
  rw[hmo]at H1;clear hmo;go_wp2_with fail;refine H1.mono ?_;rintro r w2 ⟨rfl,hg⟩;have yg:=aD y0 hg;clear H1 k0 k1 k2 k3 z0 y0 hg;go_wp2;go_ret;exact⟨aQ HF.out.symm,yg⟩
 have HMO:=hid hmo;rw[hmo]at H1;clear hmo;go_wp2_with fail;refine H1.mono ?_;rintro r w2 ⟨rfl,hg⟩;have yg:=aD y0 hg;replace z0:=z0.below (aA hg) z0.lt;clear H1 k0 k1 k2 k3 y0 hg;have H2:=zF fs b nf d w2 (aS.below HFS.out (aA yg)) HFL.out HFN.out
 cases hfo:fsB fs
 .
  have HF:Hid (eY m fs=1):=by show _=_;unfold eY;rw[HMO.out,hfo];rfl
  rw[hfo]at H2;clear hfo;go_wp2_with fail;refine H2.mono ?_;rintro r w3 ⟨rfl,hg⟩;have yh:=aD yg hg;clear H2 z0 yg hg;go_wp2;go_ret;exact⟨aQ HF.out.symm,yh⟩
 have HFO:=hid hfo;rw[hfo]at H2;clear hfo;go_wp2_with fail;refine H2.mono ?_;rintro r w3 ⟨rfl,hg⟩;have yh:=aD yg hg;replace z0:=z0.below (aA hg) z0.lt;clear H2 yg hg;obtain⟨k0,k1,k2,k3⟩:=z0.c4;have H3:=aEs m _ w3 (aO.below HM.out (aA yh));simp only[agg,List.toArray]at H3
 cases hno:nmB m
 .
  have HF:Hid (eY m fs=2):=by show _=_;unfold eY;rw[HMO.out,HFO.out,hno];rfl
  rw[hno]at H3;clear hno;go_wp2_with fail;refine H3.mono ?_;rintro r w4 ⟨rfl,hg⟩;have yi:=aD yh hg;clear H3 z0 yh hg k0 k1 k2 k3;go_wp2;go_ret;exact⟨aQ HF.out.symm,yi⟩
 have HNO:=hid hno;rw[hno]at H3;clear hno;go_wp2_with fail;refine H3.mono ?_;rintro r w4 ⟨rfl,hg⟩;have Y4:=hid (aD yh hg);have Z4:=hid (z0.below (aA hg) z0.lt)
 have HC3:Hid (usB m fs=false->eY m fs=3):=fun e=>by unfold eY;rw[HMO.out,HFO.out,HNO.out,e];rfl
 have HC4:Hid (usB m fs=true->eY m fs=qP m fs 0 m.procs):=fun e=>by unfold eY;rw[HMO.out,HFO.out,HNO.out,e];rfl
 clear H3 yh hg k0 k1 k2 k3 z0;go_wp2_with fail
 go_loopw [5] (fun i wr=>∃j:Nat,j<=nu/\i=.int .i64 j/\Hid (∀i u,i<j->m.uses[i]?=some u->UAt m fs i u)/\Hid (w4.grownBy wr none)) (fun i _=>nu-(intOf i).toNat)
 case atStart=>exact⟨0,zD1 _,rfl,V32,aN0 _ _⟩
 case round=>
  obtain⟨j,hj,rfl,Af,Hg⟩:=hrel;have hg:=Hg.out;have yw:=aD Y4.out hg;have bw:=aA yw;have z0:=Z4.out.below (aA hg) Z4.out.lt;have k1:=z0.k 1
  by_cases Ai:j<nu
  .
   obtain⟨x,hx⟩:∃x,m.uses[j]?=some x:=⟨_,zA0 (by rw[HNU.out];exact Ai)⟩
   have HXJ:=hid hx
   obtain⟨bx,off,ys,rfl,hys,Ab⟩:=aS.cellsAt HU.out (show(bH m.uses)[j]?=some [Fl.b x] by unfold bH;rw[zA2,hx];rfl)
   obtain⟨y0,_,rfl,⟨ax,cx,rfl,hbx,_⟩,_⟩:=hys;have HBX:=hid hbx;have r0:=aB (Ab 0 _ rfl) bw;simp only[zG2,Nat.mul_one]at r0;have HE:=hid (iI hbx.2.1 HBN.out.2.1);clear Ab hx hbx;have hjc:j<=cu:=V6
   have HS:∀{wl:World},Below wr.heap.size wr wl->wl.cell? ⟨w.heap.size,0,none⟩=some (.slice an m.name.length cn)/\wl.cell? ⟨w.heap.size,1,none⟩=some (.slice (some ⟨bx,off,none⟩) nu cu)/\wl.cell? ⟨bx,off+j,none⟩=some (.slice ax x.length cx)/\bW wl ax x.length x/\bW wl an m.name.length m.name:=fun hb=>⟨aB (z0.k 0) hb,aB (z0.k 1) hb,aB r0 hb,(bW.below HBX.out bw).below hb,(bW.below HBN.out bw).below hb⟩
   have Al:=HS (wl:=wr.drew) (zD2 _ _).drew
   by_cases e0:x=m.name
   .
    have hbq:=HE.out.trans (zB3 e0)
    have HF:Hid (eY m fs=3):=HC3.out (aDw fun hh=>(hh j x HXJ.out).1 e0)
    clear e0 HE;go_wp2_with fail
    refine zK3 (S:=fun wl=>wl.cell? ⟨w.heap.size,0,none⟩=some (.slice an m.name.length cn)/\wl.cell? ⟨w.heap.size,1,none⟩=some (.slice (some ⟨bx,off,none⟩) nu cu)/\wl.cell? ⟨bx,off+j,none⟩=some (.slice ax x.length cx)/\bW wl ax x.length x/\bW wl an m.name.length m.name) V0 Al (fun Aa=>?_)
    refine M99 ?_;try simp only[nrm]
    refine tk (i:=5) (v:=?v905) rfl V0 (.inl ⟨by rfl, ?y905⟩) Aa (fun _ _ _ h=>h) ?_
    case y905=>intro w Bp;have kc:=aT cx Bp.2.2.2.1;(try dsimp only at Bp);go_simp;first|done|rfl
    refine M9142 ?_
    refine tk (i:=8) (v:=?v908) rfl V0 (.inl ⟨by rfl, ?y908⟩) Aa (fun _ _ _ h=>h) ?_
    case y908=>intro w Bp;have kc:=aT cn Bp.2.2.2.2;(try dsimp only at Bp);go_simp;first|done|rfl
    refine M944 ?_;refine M988 ?_;refine M9177 ?_;refine sa 21 ?_;refine sa 22 ?_;refine sa 23 ?_;refine M9120 ?_;try simp only[nrm]
    refine ta 31 ?_;try simp only[nrm]
    refine zL0 V0 ?_ _;have HG:=hid (aI bw.drew none);clear HS Al Aa;exact U360
   .
    have hbq:=HE.out.trans (zC2 e0);have HNE:=hid e0;have H17:=oQ fs b nf d wr.drew (aS.below HFS.out bw.drew) HFL.out ax x.length cx x (bW.below HBX.out bw.drew);clear e0 HE
    cases e1:ix (fs.map Fa.name) x with
    | none=>
     have HF:Hid (eY m fs=3):=HC3.out (aDw fun hh=>(hh j x HXJ.out).2.1 e1)
     rw[cU e1]at H17;clear e1;go_wp2_with fail
     refine zK3 (S:=fun wl=>wl.cell? ⟨w.heap.size,0,none⟩=some (.slice an m.name.length cn)/\wl.cell? ⟨w.heap.size,1,none⟩=some (.slice (some ⟨bx,off,none⟩) nu cu)/\wl.cell? ⟨bx,off+j,none⟩=some (.slice ax x.length cx)/\bW wl ax x.length x/\bW wl an m.name.length m.name) V0 Al (fun Aa=>?_)
     refine M99 ?_;try simp only[nrm]
     refine tk (i:=5) (v:=?v905) rfl V0 (.inl ⟨by rfl, ?y905⟩) Aa (fun _ _ _ h=>h) ?_
     case y905=>intro w Bp;have kc:=aT cx Bp.2.2.2.1;(try dsimp only at Bp);go_simp;first|done|rfl
     refine M9142 ?_
     refine tk (i:=8) (v:=?v908) rfl V0 (.inl ⟨by rfl, ?y908⟩) Aa (fun _ _ _ h=>h) ?_
     case y908=>intro w Bp;have kc:=aT cn Bp.2.2.2.2;(try dsimp only at Bp);go_simp;first|done|rfl
     refine M928 ?_
     refine ra 17 fun K hK=>?_
     go_simp;refine M9218 ?_;intro w5 hg5 b5 bw5 HS5;go_wp2_with fail
     refine hK.out _ _ (HS5) (fun Aa=>?_)
     clear hK K;try simp only[nrm]
     refine ta 18 ?_;refine ta 19 ?_;refine ta 20 ?_;try simp only[nrm]
     refine sa 21 ?_;refine sa 22 ?_;refine sa 23 ?_;refine M9120 ?_;try simp only[nrm]
     refine ta 31 ?_;try simp only[nrm]
     refine zL0 V0 ?_ _;have HG:=hid (aI bw5 none);clear HS Al Aa HS5 H17 hg5;exact U360
    | some i1=>
     have HI1:Hid (ix (fs.map Fa.name) x ≠ none):=by show ¬_;rw[e1];simp
     rw[cJ e1]at H17;have hi1:¬((i1:Int)<0):=V6;clear e1
     have HTK:Hid (aS w (some ⟨bx,off,none⟩) cu 1 (bH (m.uses.take j))):=by
      have:=(show aS w (some ⟨bx,off,none⟩) cu 1 (bH m.uses) from HU.out).take j
      unfold bH at this ⊢;rw[<-List.map_take]at this;exact this
     have HTL:Hid ((m.uses.take j).length=j):=by show _=_;rw[List.length_take,HNU.out];omega
     have H30:∀w5,Below w.heap.size w w5->_:=fun w5 b5=>aGf (m.uses.take j) (some ⟨bx,off,none⟩) j cu w5 (aS.below HTK.out b5) HTL.out ax x.length cx x (bW.below HBX.out b5)
     by_cases e2:x ∈ m.uses.take j
     .
      have HF:Hid (eY m fs=3):=HC3.out (aDw fun hh=>(hh j x HXJ.out).2.2 e2)
      rw[zB3 e2]at H30;clear e2;go_wp2_with fail
      refine zK3 (S:=fun wl=>wl.cell? ⟨w.heap.size,0,none⟩=some (.slice an m.name.length cn)/\wl.cell? ⟨w.heap.size,1,none⟩=some (.slice (some ⟨bx,off,none⟩) nu cu)/\wl.cell? ⟨bx,off+j,none⟩=some (.slice ax x.length cx)/\bW wl ax x.length x/\bW wl an m.name.length m.name) V0 Al (fun Aa=>?_)
      refine M99 ?_;try simp only[nrm]
      refine tk (i:=5) (v:=?v905) rfl V0 (.inl ⟨by rfl, ?y905⟩) Aa (fun _ _ _ h=>h) ?_
      case y905=>intro w Bp;have kc:=aT cx Bp.2.2.2.1;(try dsimp only at Bp);go_simp;first|done|rfl
      refine M9142 ?_
      refine tk (i:=8) (v:=?v908) rfl V0 (.inl ⟨by rfl, ?y908⟩) Aa (fun _ _ _ h=>h) ?_
      case y908=>intro w Bp;have kc:=aT cn Bp.2.2.2.2;(try dsimp only at Bp);go_simp;first|done|rfl
      refine M928 ?_
      refine ra 17 fun K hK=>?_
      go_simp;refine M9218 ?_;intro w5 hg5 b5 bw5 HS5;have H31:=H30 w5 bw5;go_wp2_with fail
      refine hK.out _ _ (HS5) (fun Aa=>?_)
      clear hK K;refine M947 ?_;refine ta 28 ?_;refine ta 29 ?_;try simp only[nrm]
      refine ra 30 fun K hK=>?_
      go_simp
      (with_reducible refine H31.mono ?_)
      rintro r w6 ⟨rfl,hg6⟩;have b6:=b5.trans ((aA hg6).mono b5.size);have bw6:=bw.trans (b6.mono bw.size);have HS6:=HS b6;go_wp2_with fail
      refine hK.out _ _ (HS6) (fun Aa=>?_)
      clear hK K;try simp only[nrm]
      refine ta 31 ?_;try simp only[nrm]
      refine zL0 V0 ?_ _;have HG:=hid (aI bw6 none);clear HS Al Aa HS5 HS6 H17 H30 H31 hg5 hg6;exact U360
     .
      have HIN:=hid e2;rw[zC2 e2]at H30;clear e2;go_wp2_with fail
      refine zK3 (S:=fun wl=>wl.cell? ⟨w.heap.size,0,none⟩=some (.slice an m.name.length cn)/\wl.cell? ⟨w.heap.size,1,none⟩=some (.slice (some ⟨bx,off,none⟩) nu cu)/\wl.cell? ⟨bx,off+j,none⟩=some (.slice ax x.length cx)/\bW wl ax x.length x/\bW wl an m.name.length m.name) V0 Al (fun Aa=>?_)
      refine M99 ?_;try simp only[nrm]
      refine tk (i:=5) (v:=?v905) rfl V0 (.inl ⟨by rfl, ?y905⟩) Aa (fun _ _ _ h=>h) ?_
      case y905=>intro w Bp;have kc:=aT cx Bp.2.2.2.1;(try dsimp only at Bp);go_simp;first|done|rfl
      refine M9142 ?_
      refine tk (i:=8) (v:=?v908) rfl V0 (.inl ⟨by rfl, ?y908⟩) Aa (fun _ _ _ h=>h) ?_
      case y908=>intro w Bp;have kc:=aT cn Bp.2.2.2.2;(try dsimp only at Bp);go_simp;first|done|rfl
      refine M928 ?_
      refine ra 17 fun K hK=>?_
      go_simp;refine M9218 ?_;intro w5 hg5 b5 bw5 HS5;have H31:=H30 w5 bw5;go_wp2_with fail
      refine hK.out _ _ (HS5) (fun Aa=>?_)
      clear hK K;refine M947 ?_;refine ta 28 ?_;refine ta 29 ?_;try simp only[nrm]
      refine ra 30 fun K hK=>?_
      go_simp
      (with_reducible refine H31.mono ?_)
      rintro r w6 ⟨rfl,hg6⟩;have b6:=b5.trans ((aA hg6).mono b5.size);have HS6:=HS b6;go_wp2_with fail
      refine hK.out _ _ (HS6) (fun Aa=>?_)
      clear hK K;try simp only[nrm]
      refine ta 31 ?_;try simp only[nrm]
      refine zL0 V0 ?_ _;have HG:=hid (aD hg (aI b6 none))
      have HV:Hid (∀i u,i<j+1->m.uses[i]?=some u->UAt m fs i u):=fun i v hi hv=>by
       by_cases e:i=j
       .
        subst e;rw[HXJ.out]at hv;cases hv;exact⟨HNE.out,HI1.out,HIN.out⟩
       .
        exact Af.out i v V6 hv
      clear HS Al Aa HS5 HS6 H17 H30 H31 hg5 hg6 Af Hg hg yw bw z0 k1 r0 hbq b5 b6 bw5;exact U326
  .
   have:nu=j:=V6
   subst this
   have HC5:Hid (eY m fs=qP m fs 0 m.procs):=HC4.out (aF0 fun i u hu=>Af.out i u (by have:=dY hu;rw[HNU.out]at this;exact this) hu)
   have Z5:=hid z0;have Y5:=hid yw;clear Af Hg hg z0 yw bw HC3 HC4;go_wp2_with fail;clear k1;generalize wr=w5 at *
   go_loopw [6,7] (fun cc i wr=>∃(j:Nat) (z:Int),j<=np/\i=.int .i64 j/\cc=.int .i64 z/\Hid (z=qP m fs 0 (m.procs.take j))/\Hid (w5.grownBy wr none)) (fun _ i _=>np-(intOf i).toNat)
   case atStart=>exact⟨0,0,zD1 _,rfl,rfl,(by show _=_;simp[qP]),aN0 _ _⟩
   case round=>
    obtain⟨j,z,hj,rfl,rfl,hz,Hg⟩:=hrel;have hg:=Hg.out;have yw:=aD Y5.out hg;have bw:=aA yw;have z0:=Z5.out.below (aA hg) Z5.out.lt;have k3:=z0.k 3
    by_cases Ai:j<np
    .
     obtain⟨q,hq⟩:∃q,m.procs[j]?=some q:=⟨_,zA0 (by rw[HNP.out];exact Ai)⟩
     have HZ:Hid (dE z (fY m fs q 0 q.body)=qP m fs 0 (m.procs.take (j+1))):=by show _=_;rw[aBk hq,hz.out]
     obtain⟨bx,off,es,rfl,hes,Ab⟩:=aS.cellsAt HP.out (show(m.procs.map Pr.fl)[j]?=some q.fl by rw[zA2,hq];rfl)
     have hqq:=hes;obtain⟨s0,_,rfl,_,s1,_,rfl,_,s2,_,rfl,_,s3,_,rfl,_,s4,_,rfl,hs4,rfl⟩:=hes;obtain⟨ab,cb,rfl,hB⟩:=hs4.list
     have eb:(sts q.body).length=q.body.length:=by simp[aM]
     rw[eb]at Ab hqq;have HQQ:=hid hqq;have HB:=hid hB;refine M976 ?_;intro r0 r1 r2 r3 r4;rw[zG2]at r0;clear Ab hq hqq hs4 hB eb hz
     have HS:∀{wl:World},Below wr.heap.size wr wl->wl.cell? ⟨w.heap.size,0,none⟩=some (.slice an m.name.length cn)/\wl.cell? ⟨w.heap.size,1,none⟩=some (.slice au nu cu)/\wl.cell? ⟨w.heap.size,2,none⟩=some (v2)/\wl.cell? ⟨w.heap.size,3,none⟩=some (.slice (some ⟨bx,off,none⟩) np cp)/\wl.cell? ⟨bx,off+j*5,none⟩=some s0/\wl.cell? ⟨bx,off+j*5+1,none⟩=some s1/\wl.cell? ⟨bx,off+j*5+2,none⟩=some s2/\wl.cell? ⟨bx,off+j*5+3,none⟩=some s3/\wl.cell? ⟨bx,off+j*5+4,none⟩=some (.slice ab q.body.length cb):=fun hb=>⟨aB (z0.k 0) hb,aB (z0.k 1) hb,aB (z0.k 2) hb,aB (z0.k 3) hb,aB r0 hb,aB r1 hb,aB r2 hb,aB r3 hb,aB r4 hb⟩
     have Al:=HS (wl:=wr.drew) (zD2 _ _).drew;have H14:=aMm m fs q q.body wr.drew _ _ b nf d ab cb ⟨aO.below HM.out bw.drew,aO.below HQQ.out bw.drew,aS.below HFS.out bw.drew,HFL.out,HPL.out⟩ (aS.below HB.out bw.drew);simp only[agg,List.toArray]at H14;go_wp2_with fail
     refine zK3 (S:=fun wl=>wl.cell? ⟨w.heap.size,0,none⟩=some (.slice an m.name.length cn)/\wl.cell? ⟨w.heap.size,1,none⟩=some (.slice au nu cu)/\wl.cell? ⟨w.heap.size,2,none⟩=some (v2)/\wl.cell? ⟨w.heap.size,3,none⟩=some (.slice (some ⟨bx,off,none⟩) np cp)/\wl.cell? ⟨bx,off+j*5,none⟩=some s0/\wl.cell? ⟨bx,off+j*5+1,none⟩=some s1/\wl.cell? ⟨bx,off+j*5+2,none⟩=some s2/\wl.cell? ⟨bx,off+j*5+3,none⟩=some s3/\wl.cell? ⟨bx,off+j*5+4,none⟩=some (.slice ab q.body.length cb)) V0 Al (fun Aa=>?_)
     refine M92 ?_;refine M926 ?_;refine ta 10 ?_;refine ta 11 ?_;try simp only[nrm]
     refine ta 12 ?_;refine ta 13 ?_;try simp only[nrm]
     refine ra 14 fun K hK=>?_
     go_simp
     (with_reducible refine H14.mono ?_)
     rintro r w6 ⟨rfl,hg6⟩
     have b6:Below wr.heap.size wr w6:=(zD2 wr.heap.size wr).drew.trans (aA hg6)
     have HS6:=HS b6;have H15:=rS z (fY m fs q 0 q.body) w6;go_wp2_with fail
     refine hK.out _ _ (HS6) (fun Aa=>?_)
     clear hK K;try simp only[nrm]
     refine ra 15 fun K hK=>?_
     go_simp
     (with_reducible refine H15.mono ?_)
     rintro r w7 ⟨rfl,rfl⟩;go_wp2_with fail
     refine hK.out _ _ (HS6) (fun Aa=>?_)
     clear hK K;try simp only[nrm]
     refine ta 16 ?_;try simp only[nrm]
     refine zL0 V0 ?_ _;have HG7:=hid (aD hg (aI b6 none));clear HS Al HS6 Aa H14 H15 r0 r1 r2 r3 r4 k3 z0 bw yw hg Hg hg6 b6;generalize dE z (fY m fs q 0 q.body)=z' at *;go_wp2;go_roundw
     case rel=>exact⟨j+1,z',by omega,by go_num,rfl,HZ,HG7⟩
     case measure=>simp[intOf];omega
    .
     have:np=j:=V6
     subst this
     have HF:Hid (eY m fs=z):=by show _=_;rw[HC5.out,hz.out,zD3 V113]
     clear z0 bw hz Hg hg;go_wp2;go_ret;exact⟨aQ HF.out.symm,yw⟩
end Go.Proofs.YtegkhlkjfeafjaaGreatDoor

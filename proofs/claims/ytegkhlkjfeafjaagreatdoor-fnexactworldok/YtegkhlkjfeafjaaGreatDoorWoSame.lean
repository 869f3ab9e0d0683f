import Derived.Test.YtegkhlkjfeafjaaGreatDoorPackF
namespace Go.Proofs.YtegkhlkjfeafjaaGreatDoor
open Go.RowKit
set_option linter.unusedVariables false
set_option linter.unusedSimpArgs false
set_option maxRecDepth 100000
theorem U345{p:Prop}(h:p:=by
 go_wp2_with fail
 go_quiet (fail)
 go_wp2
 go_ret
 exact⟨aE HO.out.symm,aD yg (aI (below_drewN (aA yw) _) none)⟩):p:=h
theorem aOh {f g:Fa}{j:Nat}(hj:j<f.procs.length)(h:aN4 (f.procs[j]?.getD ⟨[],[]⟩) (g.procs[j]?.getD ⟨[],[]⟩)=false):aN3 f g=false:=by
 unfold aN3
 rw[show((List.range f.procs.length).all fun i=>aN4 (f.procs[i]?.getD ⟨[],[]⟩) (g.procs[i]?.getD ⟨[],[]⟩))=false from zH3.2 ⟨j,List.mem_range.2 hj,by rw[h];simp⟩]
 simp
set_option maxHeartbeats 8000000 in
theorem aO2 (f g:Fa)(vs us:List Value)(w:World)(h:aO w f.fl vs)(k:aO w g.fl us):
  Calls Tryz.prog 15 #[.agg vs.toArray,.agg us.toArray] w fun e w'=>e=.returned (.bool (aN3 f g))/\w.grownBy w' none:=by
 obtain⟨v0,_,rfl,⟨a0,c0,rfl,h0,_⟩,v1,_,rfl,h1',rfl⟩:=h;obtain⟨u0,_,rfl,⟨b0,d0,rfl,k0,_⟩,u1,_,rfl,k1',rfl⟩:=k;obtain⟨a1,c1,rfl,h1⟩:=h1'.list;obtain⟨b1,d1,rfl,k1⟩:=k1'.list;have h9:=h1.len9;have h8:=k1.len9;rw[zB2]at h9 h8;rw[zB2,zB2];obtain⟨x,y,hb⟩:=gZ w 52 [.slice a0 f.name.length c0,.slice a1 f.procs.length c1] [.slice b0 g.name.length d0,.slice b1 g.procs.length d1];go_enter Tryz.func15,Tryz.ntmps15;go_upto_region 1 with fail;simp only[List.toArray]at x y hb;generalize (w.alloc (.cells #[.slice a0 f.name.length c0,.slice a1 f.procs.length c1] 52 (0,0))).alloc (.cells #[.slice b0 g.name.length d0,.slice b1 g.procs.length d1] 52 (0,0))=w0 at *;obtain⟨q0,q1⟩:=x.c2;obtain⟨r0,r1⟩:=y.c2;have kc1:=aT c0 (h0.below hb);have kc2:=aT d0 (k0.below hb);have HE:=hid (iI h0.2.1 k0.2.1);have HL:=hid (h1.below hb);have HM:=hid (k1.below hb);have yg:=aI hb none;clear h0 k0 h1 k1 h1' k1' x y hb
 obtain⟨nf,hnf⟩:∃z,z=f.procs.length:=⟨_,rfl⟩
 obtain⟨ng,hng⟩:∃z,z=g.procs.length:=⟨_,rfl⟩
 rw[<-hnf]at q1 h9;rw[<-hng]at r1 h8;rw[<-hnf,<-hng];have HN:=hid hnf.symm;have HK:=hid hng.symm;clear hnf hng;generalize w.heap.size+1=gb at *;generalize w.heap.size=ga at *
 by_cases he:f.name=g.name
 case neg=>
  have hb:=HE.out.trans (zC2 he)
  have HF:Hid (aN3 f g=false):=by show _=_;unfold aN3;rw[zC2 he,Bool.false_and]
  clear he HE;exact U318
 have hb:=HE.out.trans (zB3 he);clear HE
 by_cases hl:nf=ng
 case neg=>
  have hl':((nf:Int) != (ng:Int))=true:=by simp;omega
  have HF:Hid (aN3 f g=false):=by show _=_;unfold aN3;rw[show decide (f.procs.length=g.procs.length)=false from zC2 (by rw[HN.out,HK.out];exact hl)];simp
  clear he hl;exact U318
 subst hl
 have HF:Hid (aN3 f g=((List.range f.procs.length).all fun i=>aN4 (f.procs[i]?.getD ⟨[],[]⟩) (g.procs[i]?.getD ⟨[],[]⟩))):=by show _=_;unfold aN3;rw[zB3 he,zB3 (HN.out.trans HK.out.symm),Bool.true_and,Bool.true_and]
 clear he;have Q1:=hid q1;have R1:=hid r1;go_wp2_with fail;clear hb kc1 kc2 q0 q1 r0 r1
 go_loopw [5,6] (fun i _ wr=>∃j:Nat,j<=nf/\i=.int .i64 j/\Hid (∀i,i<j->aN4 (f.procs[i]?.getD ⟨[],[]⟩) (g.procs[i]?.getD ⟨[],[]⟩)=true)/\Hid (w0.grownBy wr none)) (fun i _ _=>nf-(intOf i).toNat)
 case atStart=>exact⟨0,zD1 _,rfl,V101,aN0 _ _⟩
 case round=>
  obtain⟨j,hj,rfl,Af,Hg⟩:=hrel;have yw:=Hg.out;have bw:=aA yw;have q1:=aB Q1.out bw;have r1:=aB R1.out bw
  by_cases Ai:j<nf
  .
   obtain⟨x,hx⟩:∃x,f.procs[j]?=some x:=⟨_,zA0 V93⟩
   obtain⟨y,hy⟩:∃y,g.procs[j]?=some y:=⟨_,zA0 (by rw[HK.out];exact Ai)⟩
   have HP:Hid (aN4 (f.procs[j]?.getD ⟨[],[]⟩) (g.procs[j]?.getD ⟨[],[]⟩)=aN4 x y):=by show _=_;rw[hx,hy];rfl
   have HJ:Hid (j<f.procs.length):=by show _<_;rw[HN.out];exact Ai
   obtain⟨b2,o2,ys,rfl,hys,Ab⟩:=aS.cellsAt HL.out (show(f.procs.map Fp.fl)[j]?=some x.fl by rw[zA2,hx];rfl)
   obtain⟨b3,o3,zs,rfl,hzs,hcz⟩:=aS.cellsAt HM.out (show(g.procs.map Fp.fl)[j]?=some y.fl by rw[zA2,hy];rfl)
   obtain⟨s0,_,rfl,⟨e0,f0,rfl,hB0,_⟩,s1,_,rfl,⟨e1,f1,rfl,hN1,hq1,hq2,_⟩,rfl⟩:=hys;obtain⟨t0,_,rfl,⟨i0,j0,rfl,hB2,_⟩,t1,_,rfl,⟨i1,j1,rfl,hN3,_⟩,rfl⟩:=hzs
   have hn9:x.kinds.length<=9223372036854775807:=by unfold maxLen at hq2;omega
   clear hq1 hq2;have p0:=aB (Ab 0 _ rfl) bw;have p1:=aB (Ab 1 _ rfl) bw;have s0:=aB (hcz 0 _ rfl) bw;have s1:=aB (hcz 1 _ rfl) bw;rw[zG2]at p0 s0
   have kc1:=fun d=>aT f0 (bW.drewN (hB0.below bw) d)
   have kc2:=fun d=>aT j0 (bW.drewN (hB2.below bw) d)
   have HE:=hid (iI hB0.2.1 hB2.2.1);have HX:=hid (hN1.below bw);have HY:=hid (hN3.below bw);clear Ab hcz hx hy hB0 hB2 hN1 hN3;have hjn:(j:Int)<(nf:Int):=V6;generalize x.name.length=n0 at *;generalize y.name.length=m0 at *
   obtain⟨n1,hn1⟩:∃z,z=x.kinds.length:=⟨_,rfl⟩
   obtain⟨m1,hm1⟩:∃z,z=y.kinds.length:=⟨_,rfl⟩
   rw[<-hn1]at p1 HX hn9;rw[<-hm1]at s1 HY;have HN1:=hid hn1.symm;have HM1:=hid hm1.symm;clear hn1 hm1
   by_cases he:x.name=y.name
   case neg=>
    have hb:=HE.out.trans (zC2 he)
    have HO:Hid (aN3 f g=false):=aOh HJ.out (HP.out.trans (by unfold aN4;rw[zC2 he,Bool.false_and]))
    clear he HE;exact U345
   have hb:=HE.out.trans (zB3 he)
   have HX2:Hid (aN4 x y=decide (x.kinds=y.kinds)):=by show _=_;unfold aN4;rw[zB3 he,Bool.true_and]
   clear HE he
   by_cases hl:n1=m1
   case neg=>
    have hl':((n1:Int) != (m1:Int))=true:=by simp;omega
    have HO:Hid (aN3 f g=false):=aOh HJ.out (HP.out.trans (HX2.out.trans (zC2 fun e=>hl (by rw[<-HN1.out,<-HM1.out,e]))))
    clear hl;exact U345
   subst hl
   have hl':((n1:Int) != (n1:Int))=false:=by simp
   go_wp2_with fail
   go_quiet (fail)
   go_wp2_with fail
   have HT0:Hid (x.kinds=y.kinds->aN4 (f.procs[j]?.getD ⟨[],[]⟩) (g.procs[j]?.getD ⟨[],[]⟩)=true):=fun e=>HP.out.trans (HX2.out.trans (zB3 e))
   have HO0:Hid (x.kinds ≠ y.kinds->aN3 f g=false):=fun e=>aOh HJ.out (HP.out.trans (HX2.out.trans (zC2 e)))
   have P1:=hid p1;have S1:=hid s1;have Q5:=hid q1;have R5:=hid r1;clear p0 p1 s0 s1 q1 r1 kc1 kc2 hb hl' HP HX2 HJ bw yw;generalize wr=w5 at *
   go_loopw [6] (fun i wr=>∃k:Nat,k<=n1/\i=.int .i64 k/\Hid (x.kinds.take k=y.kinds.take k)/\Hid (w5.grownBy wr none)) (fun i _=>n1-(intOf i).toNat)
   case atStart=>exact⟨0,zD1 _,rfl,(by show _=_;simp),aI (below_drewN (zD2 _ _) _) none⟩
   case round=>
    obtain⟨k,hk,rfl,heq,Hh⟩:=hrel;have bq:=aA Hh.out;have q1:=aB Q5.out bq;have r1:=aB R5.out bq;have p1:=aB P1.out bq;have s1:=aB S1.out bq
    by_cases hlk:k<n1
    .
     obtain⟨hz1,hby1,hc1⟩:=HX.out;obtain⟨hz2,hby2,hc2⟩:=HY.out;clear hz1 hz2;obtain⟨b4,o4,rfl,hd1⟩:=hc1 V6;obtain⟨b5,o5,rfl,hd2⟩:=hc2 V6;have z1:=aB (hd1 k hlk) bq;have z2:=aB (hd2 k hlk) bq;have hb1:=aGg hby1 k;have Ae:=aGg hby2 k;have hkn:(k:Int)<(n1:Int):=V6;clear hc1 hc2 hd1 hd2 hby1 hby2
     by_cases hxe:x.kinds[k]?.getD 0=y.kinds[k]?.getD 0
     .
      have hneq:(x.kinds[k]?.getD 0 != y.kinds[k]?.getD 0)=false:=by simp[hxe]
      have hnext:Hid (x.kinds.take (k+1)=y.kinds.take (k+1)):=rX heq.out (by rw[HN1.out];exact hlk) (by rw[HM1.out];exact hlk) hxe
      have HXE:=hid hxe;clear hxe;go_wp2_with fail
      go_quiet (fail)
      go_wp2;go_roundw
      case rel=>exact⟨k+1,by omega,by go_num,hnext,aI (below_drewN bq _) none⟩
      case measure=>simp[intOf];omega
     .
      have hneq:(x.kinds[k]?.getD 0 != y.kinds[k]?.getD 0)=true:=by simpa using hxe
      have HO:Hid (aN3 f g=false):=HO0.out fun e=>hxe (by rw[e])
      clear hxe;go_wp2_with fail
      go_quiet (fail)
      go_wp2;go_ret;exact⟨aE HO.out.symm,aD yg (aD Hg.out (aI (below_drewN bq _) none))⟩
    .
     have hkn:k=n1:=V6;subst hkn
     have hxy:x.kinds=y.kinds:=by
      have:=heq.out
      rwa [zD3 (by rw[HN1.out];exact zB0 _),zD3 (by rw[HM1.out];exact zB0 _)]at this
     have HT:=HT0.out hxy;have HTT:=hid HT;have HW:=hid (aD Hg.out Hh.out);clear hxy HT bq;go_wp2;go_roundw
     case rel=>exact⟨j+1,by omega,by go_num,(show ∀i,i<j+1->_ from fun i hi=>(zK1 i j).elim (fun h=>Af.out i h) (fun h=>(show j=i by omega) ▸ HTT.out)),HW⟩
     case measure=>simp[intOf];omega
  .
   have hjn:j=nf:=V6;subst hjn
   have HT:Hid (aN3 f g=true):=HF.out.trans (zF3.2 fun i hi=>Af.out i V96)
   clear bw Af;go_wp2;go_ret;exact⟨aE HT.out.symm,aD yg yw⟩
end Go.Proofs.YtegkhlkjfeafjaaGreatDoor

import Derived.Test.YtegkhlkjfeafjaaGreatDoorPackI
namespace Go.Proofs.YtegkhlkjfeafjaaGreatDoor
open Go.RowKit
set_option linter.unusedVariables false
set_option linter.unusedSimpArgs false
set_option maxRecDepth 100000
theorem U304{p:Prop}(h:p:=by
 go_wp2
 go_ret
 exact⟨aE HF.out.symm,HG.out⟩):p:=h
theorem U353{p:Prop}(h:p:=by
 go_wp2
 go_roundw
 case rel=>exact⟨k+1,by omega,by go_num,HV,HG⟩
 case measure=>simp[intOf];omega):p:=h
theorem M9189{p q:Prop}(k:q)(h:Kx q->p:=by
 intro kQ
 (with_reducible refine H0.mono ?_)
 rintro r w0x ⟨rfl,hg0⟩
 have b0:Below wr.heap.size wr w0x:=(zD2 wr.heap.size wr).drew.trans (aA hg0)
 have bw0:=bw.trans (b0.mono bw.size)
 have HS1:=HS b0
 revert HS1;revert bw0;revert b0;revert hg0;revert w0x
 exact kQ.o):p:=h ⟨k⟩
theorem M928{p q:Prop}(k:q)(h:Kx q->p:=by
 intro kQ
 try simp only[nrm]
 refine ta 9 ?_
 refine ta 10 ?_
 try simp only[nrm]
 refine ta 11 ?_
 refine ta 12 ?_
 refine ta 13 ?_
 try simp only[nrm]
 refine ta 14 ?_
 refine ta 15 ?_
 refine ta 16 ?_
 try simp only[nrm]
 exact kQ.o):p:=h ⟨k⟩
theorem M932{p q:Prop}(k:q)(h:Kx q->p:=by
 intro kQ
 (with_reducible refine H1.mono ?_)
 rintro r w1x ⟨rfl,hg1⟩
 have b1:=b0.trans ((aA hg1).mono b0.size)
 have bw1:=bw.trans (b1.mono bw.size)
 have HS2:=HS b1
 revert HS2;revert bw1;revert b1;revert hg1;revert w1x
 exact kQ.o):p:=h ⟨k⟩
theorem M944{p q:Prop}(k:q)(h:Kx q->p:=by
 intro kQ
 try simp only[nrm]
 refine ta 9 ?_
 refine ta 10 ?_
 try simp only[nrm]
 exact kQ.o):p:=h ⟨k⟩
theorem M945{p q:Prop}(k:q)(h:Kx q->p:=by
 intro kQ
 try simp only[nrm]
 refine ta 17 ?_
 refine ta 18 ?_
 refine ta 19 ?_
 try simp only[nrm]
 exact kQ.o):p:=h ⟨k⟩
theorem M949{p q:Prop}(k:q)(h:Kx q->p:=by
 intro kQ
 try simp only[nrm]
 refine sa 22 ?_
 refine sa 23 ?_
 refine sa 24 ?_
 try simp only[nrm]
 refine sa 25 ?_
 refine sa 26 ?_
 refine sa 27 ?_
 try simp only[nrm]
 refine sa 28 ?_
 refine sa 29 ?_
 exact kQ.o):p:=h ⟨k⟩
theorem M951{p q:Prop}(k:q)(h:Kx q->p:=by
 intro kQ
 refine ta 11 ?_
 refine ta 12 ?_
 try simp only[nrm]
 refine ta 13 ?_
 exact kQ.o):p:=h ⟨k⟩
theorem M967{p q:Prop}(k:q)(h:Kx q->p:=by
 intro kQ
 try simp only[nrm]
 refine sa 33 ?_
 refine sa 34 ?_
 refine sa 35 ?_
 try simp only[nrm]
 refine sa 36 ?_
 refine sa 37 ?_
 refine sa 38 ?_
 try simp only[nrm]
 refine sa 39 ?_
 refine sa 40 ?_
 refine sa 41 ?_
 try simp only[nrm]
 exact kQ.o):p:=h ⟨k⟩
theorem M971{p q:Prop}(k:q)(h:Kx q->p:=by
 intro kQ
 (with_reducible refine H2.mono ?_)
 rintro r w2x ⟨rfl,Be⟩
 have b2:=b1.trans ((aA Be).mono b1.size)
 have bw2:=bw.trans (b2.mono bw.size)
 have HS3:=HS b2
 revert HS3;revert bw2;revert b2;revert Be;revert w2x
 exact kQ.o):p:=h ⟨k⟩
theorem M988{p q:Prop}(k:q)(h:Kx q->p:=by
 intro kQ
 refine sa 11 ?_
 refine sa 12 ?_
 refine sa 13 ?_
 try simp only[nrm]
 refine sa 14 ?_
 refine sa 15 ?_
 refine sa 16 ?_
 try simp only[nrm]
 refine sa 17 ?_
 refine sa 18 ?_
 exact kQ.o):p:=h ⟨k⟩
theorem M993{p q:Prop}(k:q)(h:Kx q->p:=by
 intro kQ
 try simp only[nrm]
 refine ta 19 ?_
 refine ta 20 ?_
 refine ta 21 ?_
 try simp only[nrm]
 refine ta 22 ?_
 refine ta 23 ?_
 refine ta 24 ?_
 try simp only[nrm]
 refine ta 25 ?_
 refine ta 26 ?_
 refine ta 27 ?_
 try simp only[nrm]
 refine ta 28 ?_
 exact kQ.o):p:=h ⟨k⟩
theorem M9105{p q:Prop}(k:q)(h:Kx q->p:=by
 intro kQ
 have H1:=kF q _ w0x (aO.below HQ.out bw0) ax x.name.length cx x.name (bW.below HBX.out bw0)
 simp only[agg,List.toArray]at H1
 rw[ix1]at H1
 revert H1
 exact kQ.o):p:=h ⟨k⟩
theorem M9139{p q:Prop}(k:q)(h:Kx q->p:=by
 intro kQ
 have H2:=lV m _ w1x (aO.below HM.out bw1) ax x.name.length cx x.name (bW.below HBX.out bw1)
 simp only[agg,List.toArray]at H2
 rw[ix2]at H2
 revert H2
 exact kQ.o):p:=h ⟨k⟩
theorem M9141{p q:Prop}(k:q)(h:Kx q->p:=by
 intro kQ
 try simp only[nrm]
 refine ta 8 ?_
 refine ta 9 ?_
 try simp only[nrm]
 exact kQ.o):p:=h ⟨k⟩
theorem M9149{p q:Prop}(k:q)(h:Kx q->p:=by
 intro kQ
 have H1:=lV m _ w0x (aO.below HM.out bw0) ax x.length cx x (bW.below HBX.out bw0)
 simp only[agg,List.toArray]at H1
 rw[ix1]at H1
 revert H1
 exact kQ.o):p:=h ⟨k⟩
theorem M9159{p q:Prop}(k:q)(h:Kx q->p:=by
 intro kQ
 try simp only[nrm]
 refine ta 30 ?_
 refine ta 31 ?_
 refine ta 32 ?_
 try simp only[nrm]
 refine ta 33 ?_
 refine ta 34 ?_
 refine ta 35 ?_
 try simp only[nrm]
 refine ta 36 ?_
 refine ta 37 ?_
 refine ta 38 ?_
 try simp only[nrm]
 refine ta 39 ?_
 exact kQ.o):p:=h ⟨k⟩
theorem M9163{p q:Prop}(k:q)(h:Kx q->p:=by
 intro kQ
 refine sa 20 ?_
 refine sa 21 ?_
 refine sa 22 ?_
 try simp only[nrm]
 refine sa 23 ?_
 refine sa 24 ?_
 refine sa 25 ?_
 try simp only[nrm]
 refine sa 26 ?_
 refine sa 27 ?_
 try simp only[nrm]
 refine ta 28 ?_
 try simp only[nrm]
 exact kQ.o):p:=h ⟨k⟩
theorem M9177{p q:Prop}(k:q)(h:Kx q->p:=by
 intro kQ
 try simp only[nrm]
 refine ta 19 ?_
 refine ta 20 ?_
 try simp only[nrm]
 exact kQ.o):p:=h ⟨k⟩
theorem M9178{p q:Prop}(k:q)(h:Kx q->p:=by
 intro kQ
 refine ta 20 ?_
 refine ta 21 ?_
 refine ta 22 ?_
 try simp only[nrm]
 refine ta 23 ?_
 refine ta 24 ?_
 refine ta 25 ?_
 try simp only[nrm]
 exact kQ.o):p:=h ⟨k⟩
theorem wJ {l:List (List Int)}{x:List Int}{j:Nat}(h:¬ix l x=some j):(ixI l x != (j:Int))=true:=by
 have:ixI l x ≠ (j:Int):=fun e=>h (by
  unfold ixI at e
  split at e
  .
   rename_i i hi;rw[hi];congr 1;omega
  .
   omega)
 simpa using this
def VOk (m:Mo)(i:Nat)(v:Va):Prop:=ix (m.vars.map Va.name) v.name=some i/\ix (m.procs.map Pr.name) v.name=none
def aJh (m:Mo)(q:Pr)(k:Nat)(a:Pa):Prop:=ix (q.params.map Pa.name) a.name=some k/\ix q.locals a.name=none/\ix (m.vars.map Va.name) a.name=none/\ix (m.procs.map Pr.name) a.name=none
def aJl (m:Mo)(q:Pr)(k:Nat)(x:List Int):Prop:=ix q.locals x=some k/\ix (m.vars.map Va.name) x=none/\ix (m.procs.map Pr.name) x=none
def aMo (m:Mo)(i:Nat)(q:Pr):Prop:=ix (m.procs.map Pr.name) q.name=some i/\(∀k a,q.params[k]?=some a->aJh m q k a)/\(∀k x,q.locals[k]?=some x->aJl m q k x)
def aGr (m:Mo):Prop:=(∀i v,m.vars[i]?=some v->VOk m i v)/\(∀i q,m.procs[i]?=some q->aMo m i q)
noncomputable def nmB (m:Mo):Bool:=@decide (aGr m) (Classical.propDecidable _)
theorem nF {m:Mo}(h:¬aGr m):nmB m=false:=by unfold nmB;exact @zC2 _ (Classical.propDecidable _) h
theorem aGa {m:Mo}(h:aGr m):nmB m=true:=by unfold nmB;exact @zB3 _ (Classical.propDecidable _) h
set_option maxHeartbeats 16000000 in
theorem aEs (m:Mo)(vs:List Value)(w:World)(h:aO w m.fl vs):
  Calls Tryz.prog 38 #[agg vs] w fun e w'=>e=.returned (.bool (nmB m))/\w.grownBy w' none:=by
 have h0:=h;obtain⟨v0,_,rfl,_,v1,_,rfl,_,v2,_,rfl,hv,v3,_,rfl,hp,rfl⟩:=h;obtain⟨av,cv,rfl,hV⟩:=hv.list;obtain⟨ap,cp,rfl,hP⟩:=hp.list;have hv9:=hV.len9;have hp9:=hP.len9;simp only[zB2]at hv9 hp9 h0 ⊢
 obtain⟨nv,hnv⟩:∃z,z=m.vars.length:=⟨_,rfl⟩
 obtain⟨np,hnp⟩:∃z,z=m.procs.length:=⟨_,rfl⟩
 have HNV:=hid hnv.symm;have HNP:=hid hnp.symm;rw[<-hnv,<-hnp]at h0 ⊢;rw[<-hnv]at hv9;rw[<-hnp]at hp9;have HM:=hid h0;have HV9:=hid hV;have HP9:=hid hP;clear h0 hV hP hv hp hnv hnp;have z0:=Blk.new w 48 [v0,v1,.slice av nv cv,.slice ap np cp];have y0:=aC w (.cells #[v0,v1,.slice av nv cv,.slice ap np cp] 48 (0,0)) none;simp only[List.toArray]at z0;simp only[agg];go_enter Tryz.func38,Tryz.ntmps38;go_upto_region 1 with fail;generalize w.alloc (.cells #[v0,v1,.slice av nv cv,.slice ap np cp] 48 (0,0))=w1 at *;have Z0:=hid z0;have Y0:=hid y0;clear z0 y0;go_wp2_with fail
 go_loopw [3] (fun i wr=>∃j:Nat,j<=nv/\i=.int .i64 j/\Hid (∀i v,i<j->m.vars[i]?=some v->VOk m i v)/\Hid (w1.grownBy wr none)) (fun i _=>nv-(intOf i).toNat)
 case atStart=>exact⟨0,zD1 _,rfl,V32,aN0 _ _⟩
 case round=>
  obtain⟨j,hj,rfl,Af,Hg⟩:=hrel;have hg:=Hg.out;have yw:=aD Y0.out hg;have bw:=aA yw;have z0:=Z0.out.below (aA hg) Z0.out.lt;have k2:=z0.k 2
  by_cases Ai:j<nv
  .
   obtain⟨x,hx⟩:∃x,m.vars[j]?=some x:=⟨_,zA0 (by rw[HNV.out];exact Ai)⟩
   have HXJ:=hid hx
   obtain⟨bx,off,ys,rfl,hys,Ab⟩:=aS.cellsAt HV9.out (show(m.vars.map Va.fl)[j]?=some x.fl by rw[zA2,hx];rfl)
   obtain⟨y0,_,rfl,⟨ax,cx,rfl,hbx,_⟩,_⟩:=hys;have HBX:=hid hbx;have r0:=aB (Ab 0 _ rfl) bw;rw[zG2]at r0;clear Ab hx hbx
   have HS:∀{wl:World},Below wr.heap.size wr wl->wl.cell? ⟨w.heap.size,0,none⟩=some (v0)/\wl.cell? ⟨w.heap.size,1,none⟩=some (v1)/\wl.cell? ⟨w.heap.size,2,none⟩=some (.slice (some ⟨bx,off,none⟩) nv cv)/\wl.cell? ⟨w.heap.size,3,none⟩=some (.slice ap np cp)/\wl.cell? ⟨bx,off+j*2,none⟩=some (.slice ax x.name.length cx):=fun hb=>⟨aB (z0.k 0) hb,aB (z0.k 1) hb,aB (z0.k 2) hb,aB (z0.k 3) hb,aB r0 hb⟩
   have Al:=HS (wl:=wr.drew) (zD2 _ _).drew;have H0:=lV m _ wr.drew (aO.below HM.out bw.drew) ax x.name.length cx x.name (bW.below HBX.out bw.drew);simp only[agg,List.toArray]at H0
   by_cases e0:ix (m.vars.map Va.name) x.name=some j
   .
    have ix0:=cJ e0;rw[ix0]at H0
    cases e1:ix (m.procs.map Pr.name) x.name with
    | none=>
     have ix1:=cU e1;go_wp2_with fail
     refine zK3 (S:=fun wl=>wl.cell? ⟨w.heap.size,0,none⟩=some (v0)/\wl.cell? ⟨w.heap.size,1,none⟩=some (v1)/\wl.cell? ⟨w.heap.size,2,none⟩=some (.slice (some ⟨bx,off,none⟩) nv cv)/\wl.cell? ⟨w.heap.size,3,none⟩=some (.slice ap np cp)/\wl.cell? ⟨bx,off+j*2,none⟩=some (.slice ax x.name.length cx)) V2 Al (fun Aa=>?_)
     refine M92 ?_;refine ta 6 ?_;refine ta 8 ?_;try simp only[nrm]
     refine ra 7 fun K hK=>?_
     go_simp;refine M9189 ?_;intro w0x hg0 b0 bw0 HS1;have H1:=jS m _ w0x (aO.below HM.out bw0) ax x.name.length cx x.name (bW.below HBX.out bw0);simp only[agg,List.toArray]at H1;rw[ix1]at H1;go_wp2_with fail
     refine hK.out _ _ (HS1) (fun Aa=>?_)
     clear hK K;refine M928 ?_;refine ta 17 ?_;try simp only[nrm]
     refine ra 18 fun K hK=>?_
     go_simp;refine M932 ?_;intro w1x hg1 b1 bw1 HS2;go_wp2_with fail
     refine hK.out _ _ (HS2) (fun Aa=>?_)
     clear hK K;refine M9177 ?_;refine zL0 V2 ?_ _;have HG:=hid (aD Hg.out (aI b1 none))
     have HV:Hid (∀i v,i<j+1->m.vars[i]?=some v->VOk m i v):=fun i v hi hv=>by
      by_cases e:i=j
      .
       subst e;rw[HXJ.out]at hv;cases hv;exact⟨e0,e1⟩
      .
       exact Af.out i v V6 hv
     clear HS Al Aa HS1 H0 hg0 HS2 H1 hg1;go_wp2;go_roundw
     case rel=>exact⟨j+1,by omega,by go_num,HV,HG⟩
     case measure=>simp[intOf];omega
    | some i1=>
     have ix1:=cJ e1;have i01:(0:Int)<=(i1:Int):=V6;go_wp2_with fail
     refine zK3 (S:=fun wl=>wl.cell? ⟨w.heap.size,0,none⟩=some (v0)/\wl.cell? ⟨w.heap.size,1,none⟩=some (v1)/\wl.cell? ⟨w.heap.size,2,none⟩=some (.slice (some ⟨bx,off,none⟩) nv cv)/\wl.cell? ⟨w.heap.size,3,none⟩=some (.slice ap np cp)/\wl.cell? ⟨bx,off+j*2,none⟩=some (.slice ax x.name.length cx)) V2 Al (fun Aa=>?_)
     refine M92 ?_;refine ta 6 ?_;refine ta 8 ?_;try simp only[nrm]
     refine ra 7 fun K hK=>?_
     go_simp;refine M9189 ?_;intro w0x hg0 b0 bw0 HS1;have H1:=jS m _ w0x (aO.below HM.out bw0) ax x.name.length cx x.name (bW.below HBX.out bw0);simp only[agg,List.toArray]at H1;rw[ix1]at H1;go_wp2_with fail
     refine hK.out _ _ (HS1) (fun Aa=>?_)
     clear hK K;refine M928 ?_;refine ta 17 ?_;try simp only[nrm]
     refine ra 18 fun K hK=>?_
     go_simp;refine M932 ?_;intro w1x hg1 b1 bw1 HS2;go_wp2_with fail
     refine hK.out _ _ (HS2) (fun Aa=>?_)
     clear hK K;refine M9177 ?_;refine zL0 V2 ?_ _
     have HF:Hid (nmB m=false):=nF (fun hh=>by have hv:=hh.1 j x HXJ.out;have h2:=hv.2;rw[e1]at h2;cases h2)
     have HG:=hid (aI bw1 none);clear HS Al Aa HS1 H0 hg0 HS2 H1 hg1;exact U304
   .
    have ne0:=wJ e0;generalize ixI (m.vars.map Va.name) x.name=i0 at H0 ne0;go_wp2_with fail
    refine zK3 (S:=fun wl=>wl.cell? ⟨w.heap.size,0,none⟩=some (v0)/\wl.cell? ⟨w.heap.size,1,none⟩=some (v1)/\wl.cell? ⟨w.heap.size,2,none⟩=some (.slice (some ⟨bx,off,none⟩) nv cv)/\wl.cell? ⟨w.heap.size,3,none⟩=some (.slice ap np cp)/\wl.cell? ⟨bx,off+j*2,none⟩=some (.slice ax x.name.length cx)) V2 Al (fun Aa=>?_)
    refine M92 ?_;refine ta 6 ?_;refine ta 8 ?_;try simp only[nrm]
    refine ra 7 fun K hK=>?_
    go_simp;refine M9189 ?_;intro w0x hg0 b0 bw0 HS1;go_wp2_with fail
    refine hK.out _ _ (HS1) (fun Aa=>?_)
    clear hK K;refine M944 ?_;refine M988 ?_;refine sa 19 ?_;try simp only[nrm]
    refine ta 20 ?_;try simp only[nrm]
    refine zL0 V2 ?_ _
    have HF:Hid (nmB m=false):=nF (fun hh=>by have hv:=hh.1 j x HXJ.out;exact e0 hv.1)
    have HG:=hid (aI bw0 none);clear HS Al Aa HS1 H0 hg0;exact U304
  .
   have:nv=j:=V6
   subst this
   have HVS:Hid (∀i v,m.vars[i]?=some v->VOk m i v):=fun i v hv=>Af.out i v (by have:=dY hv;rw[HNV.out]at this;exact this) hv
   have Z2:=hid z0;have Y2:=hid yw;clear Af Hg hg z0 yw bw;go_wp2_with fail;clear k2;generalize wr=w2 at *
   go_loopw [4] (fun i wr=>∃j:Nat,j<=np/\i=.int .i64 j/\Hid (∀i q,i<j->m.procs[i]?=some q->aMo m i q)/\Hid (w2.grownBy wr none)) (fun i _=>np-(intOf i).toNat)
   case atStart=>exact⟨0,zD1 _,rfl,V32,aN0 _ _⟩
   case round=>
    obtain⟨j,hj,rfl,hallq,Hgq⟩:=hrel;have hg:=Hgq.out;have yw:=aD Y2.out hg;have bw:=aA yw;have z0:=Z2.out.below (aA hg) Z2.out.lt;have k3:=z0.k 3
    by_cases Ai:j<np
    .
     obtain⟨q,hq⟩:∃q,m.procs[j]?=some q:=⟨_,zA0 (by rw[HNP.out];exact Ai)⟩
     have HQJ:=hid hq
     obtain⟨bp,ofp,ys,rfl,hys,Ab⟩:=aS.cellsAt HP9.out (show(m.procs.map Pr.fl)[j]?=some q.fl by rw[zA2,hq];rfl)
     have hqq:=hys;obtain⟨u0,_,rfl,⟨an,cn,rfl,hbn,_⟩,u1,_,rfl,hu1,u2,_,rfl,hu2,u3,_,rfl,hu3,u4,_,rfl,hu4,rfl⟩:=hys;obtain⟨aa,ca,rfl,hA⟩:=hu2.list;obtain⟨al,cl,rfl,hLo⟩:=hu3.list;obtain⟨ab,cb,rfl,_⟩:=hu4.list;have ha9:=hA.len9;have hl9:=hLo.len9
     have el:(bH q.locals).length=q.locals.length:=by simp[bH]
     rw[el]at hl9;simp only[zB2,el]at ha9 Ab hqq
     obtain⟨na,hna⟩:∃z,z=q.params.length:=⟨_,rfl⟩
     obtain⟨nl,hnl⟩:∃z,z=q.locals.length:=⟨_,rfl⟩
     have HNA:=hid hna.symm;have HNL:=hid hnl.symm;rw[<-hna,<-hnl]at Ab hqq;rw[<-hna]at ha9;rw[<-hnl]at hl9;generalize (sts q.body).length=nb at *
     have hu1':u1=.bool q.opn:=hu1
     subst hu1';have HQ:=hid hqq;have HA:=hid hA;have HLo:=hid hLo;have HBN:=hid hbn;have r0:=aB (Ab 0 _ rfl) bw;have r1:=aB (Ab 1 _ rfl) bw;have r2:=aB (Ab 2 _ rfl) bw;have r3:=aB (Ab 3 _ rfl) bw;have r4:=aB (Ab 4 _ rfl) bw;rw[zG2]at r0;have z5:=Blk.new wr 95 [.slice an q.name.length cn,.bool q.opn,.slice aa na ca,.slice al nl cl,.slice ab nb cb];have g5:=aC wr (.cells #[.slice an q.name.length cn,.bool q.opn,.slice aa na ca,.slice al nl cl,.slice ab nb cb] 95 (0,0)) none;simp only[List.toArray]at z5;have z05:=z0.below (aA g5) z0.lt;clear Ab hq hqq hA hLo hbn hu2 hu3 hu4 hna hnl el z0;go_upto_region 10 with fail;generalize wr.alloc (.cells #[.slice an q.name.length cn,.bool q.opn,.slice aa na ca,.slice al nl cl,.slice ab nb cb] 95 (0,0))=w5 at *;generalize wr.heap.size=gP at *;have y5:=aD yw g5;have g25:=aD hg g5;have Z05:=hid z05;have Z55:=hid z5;have Y5:=hid y5;have G25:=hid g25;clear r0 r1 r2 r3 r4 k3 bw yw hg Hgq g5 g25;have H1:=jS m _ w5 (aO.below HM.out (aA y5)) an q.name.length cn q.name (bW.below HBN.out (aA y5));simp only[agg,List.toArray]at H1;obtain⟨k0,k1,k2,k3⟩:=z05.c4;have q0:=z5.k 0
     by_cases e0:ix (m.procs.map Pr.name) q.name=some j
     .
      have HEQ:=hid e0;rw[cJ e0]at H1;clear e0;go_wp2_with fail;refine H1.mono ?_;rintro r w6 ⟨rfl,hg6⟩;have G6:=hid hg6;clear H1 k0 k1 k2 k3 q0 z05 z5 y5 hg6;go_wp2_with fail
      go_loopw [6] (fun i wr=>∃k:Nat,k<=na/\i=.int .i64 k/\Hid (∀i a,i<k->q.params[i]?=some a->aJh m q i a)/\Hid (w5.grownBy wr none)) (fun i _=>na-(intOf i).toNat)
      case atStart=>exact⟨0,zD1 _,rfl,V32,G6⟩
      case round=>
       obtain⟨k,hk,rfl,Af,Hg⟩:=hrel;have hg:=Hg.out;have yw:=aD Y5.out hg;have bw:=aA yw;have z0:=Z05.out.below (aA hg) Z05.out.lt;have z5:=Z55.out.below (aA hg) Z55.out.lt;have p2:=z5.k 2
       by_cases hlk:k<na
       .
        obtain⟨x,hx⟩:∃x,q.params[k]?=some x:=⟨_,zA0 (by rw[HNA.out];exact hlk)⟩
        have HXJ:=hid hx
        obtain⟨bx,off,ys,rfl,hys,Ab⟩:=aS.cellsAt HA.out (show(q.params.map Pa.fl)[k]?=some x.fl by rw[zA2,hx];rfl)
        obtain⟨y0,_,rfl,⟨ax,cx,rfl,hbx,_⟩,_⟩:=hys;have HBX:=hid hbx;have r0:=aB (Ab 0 _ rfl) bw;rw[zG2]at r0;clear Ab hx hbx
        have HS:∀{wl:World},Below wr.heap.size wr wl->wl.cell? ⟨w.heap.size,0,none⟩=some (v0)/\wl.cell? ⟨w.heap.size,1,none⟩=some (v1)/\wl.cell? ⟨w.heap.size,2,none⟩=some (.slice av nv cv)/\wl.cell? ⟨w.heap.size,3,none⟩=some (.slice (some ⟨bp,ofp,none⟩) np cp)/\wl.cell? ⟨gP,0,none⟩=some (.slice an q.name.length cn)/\wl.cell? ⟨gP,1,none⟩=some (.bool q.opn)/\wl.cell? ⟨gP,2,none⟩=some (.slice (some ⟨bx,off,none⟩) na ca)/\wl.cell? ⟨gP,3,none⟩=some (.slice al nl cl)/\wl.cell? ⟨gP,4,none⟩=some (.slice ab nb cb)/\wl.cell? ⟨bx,off+k*2,none⟩=some (.slice ax x.name.length cx):=fun hb=>⟨aB (z0.k 0) hb,aB (z0.k 1) hb,aB (z0.k 2) hb,aB (z0.k 3) hb,aB (z5.k 0) hb,aB (z5.k 1) hb,aB (z5.k 2) hb,aB (z5.k 3) hb,aB (z5.k 4) hb,aB r0 hb⟩
        have Al:=HS (wl:=wr.drew) (zD2 _ _).drew;have H0:=qV q _ wr.drew (aO.below HQ.out bw.drew) ax x.name.length cx x.name (bW.below HBX.out bw.drew);simp only[agg,List.toArray]at H0
        by_cases e0:ix (q.params.map Pa.name) x.name=some k
        .
         have ix0:=cJ e0;rw[ix0]at H0
         cases e1:ix (q.locals) x.name with
         | none=>
          have ix1:=cU e1
          cases e2:ix (m.vars.map Va.name) x.name with
          | none=>
           have ix2:=cU e2
           cases e3:ix (m.procs.map Pr.name) x.name with
           | none=>
            have ix3:=cU e3;go_wp2_with fail
            refine zK3 (S:=fun wl=>wl.cell? ⟨w.heap.size,0,none⟩=some (v0)/\wl.cell? ⟨w.heap.size,1,none⟩=some (v1)/\wl.cell? ⟨w.heap.size,2,none⟩=some (.slice av nv cv)/\wl.cell? ⟨w.heap.size,3,none⟩=some (.slice (some ⟨bp,ofp,none⟩) np cp)/\wl.cell? ⟨gP,0,none⟩=some (.slice an q.name.length cn)/\wl.cell? ⟨gP,1,none⟩=some (.bool q.opn)/\wl.cell? ⟨gP,2,none⟩=some (.slice (some ⟨bx,off,none⟩) na ca)/\wl.cell? ⟨gP,3,none⟩=some (.slice al nl cl)/\wl.cell? ⟨gP,4,none⟩=some (.slice ab nb cb)/\wl.cell? ⟨bx,off+k*2,none⟩=some (.slice ax x.name.length cx)) V2 Al (fun Aa=>?_)
            refine M92 ?_;refine ta 6 ?_;refine ta 8 ?_;try simp only[nrm]
            refine ra 7 fun K hK=>?_
            go_simp;refine M9189 ?_;intro w0x hg0 b0 bw0 HS1;refine M9105 ?_;intro H1;go_wp2_with fail
            refine hK.out _ _ (HS1) (fun Aa=>?_)
            clear hK K;refine M928 ?_;refine ta 17 ?_;try simp only[nrm]
            refine ra 18 fun K hK=>?_
            go_simp;refine M932 ?_;intro w1x hg1 b1 bw1 HS2;refine M9139 ?_;intro H2;go_wp2_with fail
            refine hK.out _ _ (HS2) (fun Aa=>?_)
            clear hK K;refine M993 ?_;try simp only[nrm]
            refine ra 29 fun K hK=>?_
            go_simp;refine M971 ?_;intro w2x Be b2 bw2 HS3;have H3:=jS m _ w2x (aO.below HM.out bw2) ax x.name.length cx x.name (bW.below HBX.out bw2);simp only[agg,List.toArray]at H3;rw[ix3]at H3;go_wp2_with fail
            refine hK.out _ _ (HS3) (fun Aa=>?_)
            clear hK K;refine M9159 ?_;try simp only[nrm]
            refine ra 40 fun K hK=>?_
            go_simp
            (with_reducible refine H3.mono ?_)
            rintro r w3x ⟨rfl,hg3⟩;have b3:=b2.trans ((aA hg3).mono b2.size);have bw3:=bw.trans (b3.mono bw.size);have HS4:=HS b3;go_wp2_with fail
            refine hK.out _ _ (HS4) (fun Aa=>?_)
            clear hK K;try simp only[nrm]
            refine ta 41 ?_;refine ta 42 ?_;try simp only[nrm]
            refine zL0 V2 ?_ _;have HG:=hid (aD Hg.out (aI b3 none))
            have HV:Hid (∀i a,i<k+1->q.params[i]?=some a->aJh m q i a):=fun i v hi hv=>by
             by_cases e:i=k
             .
              subst e;rw[HXJ.out]at hv;cases hv;exact⟨e0,e1,e2,e3⟩
             .
              exact Af.out i v V6 hv
            clear HS Al Aa HS1 H0 hg0 HS2 H1 hg1 HS3 H2 Be HS4 H3 hg3;exact U353
           | some i3=>
            have ix3:=cJ e3;have i03:(0:Int)<=(i3:Int):=V6;go_wp2_with fail
            refine zK3 (S:=fun wl=>wl.cell? ⟨w.heap.size,0,none⟩=some (v0)/\wl.cell? ⟨w.heap.size,1,none⟩=some (v1)/\wl.cell? ⟨w.heap.size,2,none⟩=some (.slice av nv cv)/\wl.cell? ⟨w.heap.size,3,none⟩=some (.slice (some ⟨bp,ofp,none⟩) np cp)/\wl.cell? ⟨gP,0,none⟩=some (.slice an q.name.length cn)/\wl.cell? ⟨gP,1,none⟩=some (.bool q.opn)/\wl.cell? ⟨gP,2,none⟩=some (.slice (some ⟨bx,off,none⟩) na ca)/\wl.cell? ⟨gP,3,none⟩=some (.slice al nl cl)/\wl.cell? ⟨gP,4,none⟩=some (.slice ab nb cb)/\wl.cell? ⟨bx,off+k*2,none⟩=some (.slice ax x.name.length cx)) V2 Al (fun Aa=>?_)
            refine M92 ?_;refine ta 6 ?_;refine ta 8 ?_;try simp only[nrm]
            refine ra 7 fun K hK=>?_
            go_simp;refine M9189 ?_;intro w0x hg0 b0 bw0 HS1;refine M9105 ?_;intro H1;go_wp2_with fail
            refine hK.out _ _ (HS1) (fun Aa=>?_)
            clear hK K;refine M928 ?_;refine ta 17 ?_;try simp only[nrm]
            refine ra 18 fun K hK=>?_
            go_simp;refine M932 ?_;intro w1x hg1 b1 bw1 HS2;refine M9139 ?_;intro H2;go_wp2_with fail
            refine hK.out _ _ (HS2) (fun Aa=>?_)
            clear hK K;refine M993 ?_;try simp only[nrm]
            refine ra 29 fun K hK=>?_
            go_simp;refine M971 ?_;intro w2x Be b2 bw2 HS3;have H3:=jS m _ w2x (aO.below HM.out bw2) ax x.name.length cx x.name (bW.below HBX.out bw2);simp only[agg,List.toArray]at H3;rw[ix3]at H3;go_wp2_with fail
            refine hK.out _ _ (HS3) (fun Aa=>?_)
            clear hK K;refine M9159 ?_;try simp only[nrm]
            refine ra 40 fun K hK=>?_
            go_simp
            (with_reducible refine H3.mono ?_)
            rintro r w3x ⟨rfl,hg3⟩;have b3:=b2.trans ((aA hg3).mono b2.size);have bw3:=bw.trans (b3.mono bw.size);have HS4:=HS b3;go_wp2_with fail
            refine hK.out _ _ (HS4) (fun Aa=>?_)
            clear hK K;try simp only[nrm]
            refine ta 41 ?_;refine ta 42 ?_;try simp only[nrm]
            refine zL0 V2 ?_ _
            have HF:Hid (nmB m=false):=nF (fun hh=>by have hv:=(hh.2 j q HQJ.out).2.1 k x HXJ.out;simp only[aJh,e3]at hv;simp at hv)
            have HG:=hid (aI bw3 none);clear HS Al Aa HS1 H0 hg0 HS2 H1 hg1 HS3 H2 Be HS4 H3 hg3;exact U304
          | some i2=>
           have ix2:=cJ e2;have i02:(0:Int)<=(i2:Int):=V6;go_wp2_with fail
           refine zK3 (S:=fun wl=>wl.cell? ⟨w.heap.size,0,none⟩=some (v0)/\wl.cell? ⟨w.heap.size,1,none⟩=some (v1)/\wl.cell? ⟨w.heap.size,2,none⟩=some (.slice av nv cv)/\wl.cell? ⟨w.heap.size,3,none⟩=some (.slice (some ⟨bp,ofp,none⟩) np cp)/\wl.cell? ⟨gP,0,none⟩=some (.slice an q.name.length cn)/\wl.cell? ⟨gP,1,none⟩=some (.bool q.opn)/\wl.cell? ⟨gP,2,none⟩=some (.slice (some ⟨bx,off,none⟩) na ca)/\wl.cell? ⟨gP,3,none⟩=some (.slice al nl cl)/\wl.cell? ⟨gP,4,none⟩=some (.slice ab nb cb)/\wl.cell? ⟨bx,off+k*2,none⟩=some (.slice ax x.name.length cx)) V2 Al (fun Aa=>?_)
           refine M92 ?_;refine ta 6 ?_;refine ta 8 ?_;try simp only[nrm]
           refine ra 7 fun K hK=>?_
           go_simp;refine M9189 ?_;intro w0x hg0 b0 bw0 HS1;refine M9105 ?_;intro H1;go_wp2_with fail
           refine hK.out _ _ (HS1) (fun Aa=>?_)
           clear hK K;refine M928 ?_;refine ta 17 ?_;try simp only[nrm]
           refine ra 18 fun K hK=>?_
           go_simp;refine M932 ?_;intro w1x hg1 b1 bw1 HS2;refine M9139 ?_;intro H2;go_wp2_with fail
           refine hK.out _ _ (HS2) (fun Aa=>?_)
           clear hK K;refine M993 ?_;try simp only[nrm]
           refine ra 29 fun K hK=>?_
           go_simp;refine M971 ?_;intro w2x Be b2 bw2 HS3;go_wp2_with fail
           refine hK.out _ _ (HS3) (fun Aa=>?_)
           clear hK K;try simp only[nrm]
           refine ta 30 ?_;refine ta 31 ?_;refine ta 32 ?_;refine M967 ?_;refine ta 42 ?_;try simp only[nrm]
           refine zL0 V2 ?_ _
           have HF:Hid (nmB m=false):=nF (fun hh=>by have hv:=(hh.2 j q HQJ.out).2.1 k x HXJ.out;simp only[aJh,e2]at hv;simp at hv)
           have HG:=hid (aI bw2 none);clear HS Al Aa HS1 H0 hg0 HS2 H1 hg1 HS3 H2 Be;exact U304
         | some i1=>
          have ix1:=cJ e1;have i01:(0:Int)<=(i1:Int):=V6;go_wp2_with fail
          refine zK3 (S:=fun wl=>wl.cell? ⟨w.heap.size,0,none⟩=some (v0)/\wl.cell? ⟨w.heap.size,1,none⟩=some (v1)/\wl.cell? ⟨w.heap.size,2,none⟩=some (.slice av nv cv)/\wl.cell? ⟨w.heap.size,3,none⟩=some (.slice (some ⟨bp,ofp,none⟩) np cp)/\wl.cell? ⟨gP,0,none⟩=some (.slice an q.name.length cn)/\wl.cell? ⟨gP,1,none⟩=some (.bool q.opn)/\wl.cell? ⟨gP,2,none⟩=some (.slice (some ⟨bx,off,none⟩) na ca)/\wl.cell? ⟨gP,3,none⟩=some (.slice al nl cl)/\wl.cell? ⟨gP,4,none⟩=some (.slice ab nb cb)/\wl.cell? ⟨bx,off+k*2,none⟩=some (.slice ax x.name.length cx)) V2 Al (fun Aa=>?_)
          refine M92 ?_;refine ta 6 ?_;refine ta 8 ?_;try simp only[nrm]
          refine ra 7 fun K hK=>?_
          go_simp;refine M9189 ?_;intro w0x hg0 b0 bw0 HS1;refine M9105 ?_;intro H1;go_wp2_with fail
          refine hK.out _ _ (HS1) (fun Aa=>?_)
          clear hK K;refine M928 ?_;refine ta 17 ?_;try simp only[nrm]
          refine ra 18 fun K hK=>?_
          go_simp;refine M932 ?_;intro w1x hg1 b1 bw1 HS2;go_wp2_with fail
          refine hK.out _ _ (HS2) (fun Aa=>?_)
          clear hK K;try simp only[nrm]
          refine ta 19 ?_;refine ta 20 ?_;refine ta 21 ?_;refine M949 ?_;refine sa 30 ?_;try simp only[nrm]
          refine ta 31 ?_;refine ta 32 ?_;refine M967 ?_;refine ta 42 ?_;try simp only[nrm]
          refine zL0 V2 ?_ _
          have HF:Hid (nmB m=false):=nF (fun hh=>by have hv:=(hh.2 j q HQJ.out).2.1 k x HXJ.out;simp only[aJh,e1]at hv;simp at hv)
          have HG:=hid (aI bw1 none);clear HS Al Aa HS1 H0 hg0 HS2 H1 hg1;exact U304
        .
         have ne0:=wJ e0;generalize ixI (q.params.map Pa.name) x.name=i0 at H0 ne0;go_wp2_with fail
         refine zK3 (S:=fun wl=>wl.cell? ⟨w.heap.size,0,none⟩=some (v0)/\wl.cell? ⟨w.heap.size,1,none⟩=some (v1)/\wl.cell? ⟨w.heap.size,2,none⟩=some (.slice av nv cv)/\wl.cell? ⟨w.heap.size,3,none⟩=some (.slice (some ⟨bp,ofp,none⟩) np cp)/\wl.cell? ⟨gP,0,none⟩=some (.slice an q.name.length cn)/\wl.cell? ⟨gP,1,none⟩=some (.bool q.opn)/\wl.cell? ⟨gP,2,none⟩=some (.slice (some ⟨bx,off,none⟩) na ca)/\wl.cell? ⟨gP,3,none⟩=some (.slice al nl cl)/\wl.cell? ⟨gP,4,none⟩=some (.slice ab nb cb)/\wl.cell? ⟨bx,off+k*2,none⟩=some (.slice ax x.name.length cx)) V2 Al (fun Aa=>?_)
         refine M92 ?_;refine ta 6 ?_;refine ta 8 ?_;try simp only[nrm]
         refine ra 7 fun K hK=>?_
         go_simp;refine M9189 ?_;intro w0x hg0 b0 bw0 HS1;go_wp2_with fail
         refine hK.out _ _ (HS1) (fun Aa=>?_)
         clear hK K;refine M944 ?_;refine M988 ?_;refine sa 19 ?_;try simp only[nrm]
         refine ta 20 ?_;refine ta 21 ?_;refine M949 ?_;refine sa 30 ?_;try simp only[nrm]
         refine ta 31 ?_;refine ta 32 ?_;refine M967 ?_;refine ta 42 ?_;try simp only[nrm]
         refine zL0 V2 ?_ _
         have HF:Hid (nmB m=false):=nF (fun hh=>by have hv:=(hh.2 j q HQJ.out).2.1 k x HXJ.out;exact e0 hv.1)
         have HG:=hid (aI bw0 none);clear HS Al Aa HS1 H0 hg0;exact U304
       .
        have:na=k:=V6
        subst this
        have HPS:Hid (∀i a,q.params[i]?=some a->aJh m q i a):=fun i v hv=>Af.out i v (by have:=dY hv;rw[HNA.out]at this;exact this) hv
        have G7:=hid Hg;clear Af Hg hg z0 z5 yw bw;go_wp2_with fail;clear p2;generalize wr=w7 at *
        go_loopw [7] (fun i wr=>∃k:Nat,k<=nl/\i=.int .i64 k/\Hid (∀i a,i<k->q.locals[i]?=some a->aJl m q i a)/\Hid (w5.grownBy wr none)) (fun i _=>nl-(intOf i).toNat)
        case atStart=>exact⟨0,zD1 _,rfl,V32,G7⟩
        case round=>
         obtain⟨k,hk,rfl,Af,Hg⟩:=hrel;have hg:=Hg.out;have yw:=aD Y5.out hg;have bw:=aA yw;have z0:=Z05.out.below (aA hg) Z05.out.lt;have z5:=Z55.out.below (aA hg) Z55.out.lt;have p3:=z5.k 3
         by_cases hlk:k<nl
         .
          obtain⟨x,hx⟩:∃x,q.locals[k]?=some x:=⟨_,zA0 (by rw[HNL.out];exact hlk)⟩
          have HXJ:=hid hx
          obtain⟨bx,off,ys,rfl,hys,Ab⟩:=aS.cellsAt HLo.out (show(bH q.locals)[k]?=some [Fl.b x] by unfold bH;rw[zA2,hx];rfl)
          obtain⟨y0,_,rfl,⟨ax,cx,rfl,hbx,_⟩,_⟩:=hys;have HBX:=hid hbx;have r0:=aB (Ab 0 _ rfl) bw;simp only[zG2,Nat.mul_one]at r0;clear Ab hx hbx
          have HS:∀{wl:World},Below wr.heap.size wr wl->wl.cell? ⟨w.heap.size,0,none⟩=some (v0)/\wl.cell? ⟨w.heap.size,1,none⟩=some (v1)/\wl.cell? ⟨w.heap.size,2,none⟩=some (.slice av nv cv)/\wl.cell? ⟨w.heap.size,3,none⟩=some (.slice (some ⟨bp,ofp,none⟩) np cp)/\wl.cell? ⟨gP,0,none⟩=some (.slice an q.name.length cn)/\wl.cell? ⟨gP,1,none⟩=some (.bool q.opn)/\wl.cell? ⟨gP,2,none⟩=some (.slice aa na ca)/\wl.cell? ⟨gP,3,none⟩=some (.slice (some ⟨bx,off,none⟩) nl cl)/\wl.cell? ⟨gP,4,none⟩=some (.slice ab nb cb)/\wl.cell? ⟨bx,off+k,none⟩=some (.slice ax x.length cx):=fun hb=>⟨aB (z0.k 0) hb,aB (z0.k 1) hb,aB (z0.k 2) hb,aB (z0.k 3) hb,aB (z5.k 0) hb,aB (z5.k 1) hb,aB (z5.k 2) hb,aB (z5.k 3) hb,aB (z5.k 4) hb,aB r0 hb⟩
          have Al:=HS (wl:=wr.drew) (zD2 _ _).drew;have H0:=kF q _ wr.drew (aO.below HQ.out bw.drew) ax x.length cx x (bW.below HBX.out bw.drew);simp only[agg,List.toArray]at H0
          by_cases e0:ix (q.locals) x=some k
          .
           have ix0:=cJ e0;rw[ix0]at H0
           cases e1:ix (m.vars.map Va.name) x with
           | none=>
            have ix1:=cU e1
            cases e2:ix (m.procs.map Pr.name) x with
            | none=>
             have ix2:=cU e2;go_wp2_with fail
             refine zK3 (S:=fun wl=>wl.cell? ⟨w.heap.size,0,none⟩=some (v0)/\wl.cell? ⟨w.heap.size,1,none⟩=some (v1)/\wl.cell? ⟨w.heap.size,2,none⟩=some (.slice av nv cv)/\wl.cell? ⟨w.heap.size,3,none⟩=some (.slice (some ⟨bp,ofp,none⟩) np cp)/\wl.cell? ⟨gP,0,none⟩=some (.slice an q.name.length cn)/\wl.cell? ⟨gP,1,none⟩=some (.bool q.opn)/\wl.cell? ⟨gP,2,none⟩=some (.slice aa na ca)/\wl.cell? ⟨gP,3,none⟩=some (.slice (some ⟨bx,off,none⟩) nl cl)/\wl.cell? ⟨gP,4,none⟩=some (.slice ab nb cb)/\wl.cell? ⟨bx,off+k,none⟩=some (.slice ax x.length cx)) V2 Al (fun Aa=>?_)
             refine M92 ?_;refine ta 7 ?_;try simp only[nrm]
             refine ra 6 fun K hK=>?_
             go_simp;refine M9189 ?_;intro w0x hg0 b0 bw0 HS1;refine M9149 ?_;intro H1;go_wp2_with fail
             refine hK.out _ _ (HS1) (fun Aa=>?_)
             clear hK K;refine M9141 ?_;refine ta 10 ?_;refine M951 ?_;refine ta 14 ?_;refine ta 15 ?_;try simp only[nrm]
             refine ra 16 fun K hK=>?_
             go_simp;refine M932 ?_;intro w1x hg1 b1 bw1 HS2;have H2:=jS m _ w1x (aO.below HM.out bw1) ax x.length cx x (bW.below HBX.out bw1);simp only[agg,List.toArray]at H2;rw[ix2]at H2;go_wp2_with fail
             refine hK.out _ _ (HS2) (fun Aa=>?_)
             clear hK K;refine M945 ?_;refine M9178 ?_
             refine ra 26 fun K hK=>?_
             go_simp;refine M971 ?_;intro w2x Be b2 bw2 HS3;go_wp2_with fail
             refine hK.out _ _ (HS3) (fun Aa=>?_)
             clear hK K;try simp only[nrm]
             refine ta 27 ?_;refine ta 28 ?_;try simp only[nrm]
             refine zL0 V2 ?_ _;have HG:=hid (aD Hg.out (aI b2 none))
             have HV:Hid (∀i a,i<k+1->q.locals[i]?=some a->aJl m q i a):=fun i v hi hv=>by
              by_cases e:i=k
              .
               subst e;rw[HXJ.out]at hv;cases hv;exact⟨e0,e1,e2⟩
              .
               exact Af.out i v V6 hv
             clear HS Al Aa HS1 H0 hg0 HS2 H1 hg1 HS3 H2 Be;exact U353
            | some i2=>
             have ix2:=cJ e2;have i02:(0:Int)<=(i2:Int):=V6;go_wp2_with fail
             refine zK3 (S:=fun wl=>wl.cell? ⟨w.heap.size,0,none⟩=some (v0)/\wl.cell? ⟨w.heap.size,1,none⟩=some (v1)/\wl.cell? ⟨w.heap.size,2,none⟩=some (.slice av nv cv)/\wl.cell? ⟨w.heap.size,3,none⟩=some (.slice (some ⟨bp,ofp,none⟩) np cp)/\wl.cell? ⟨gP,0,none⟩=some (.slice an q.name.length cn)/\wl.cell? ⟨gP,1,none⟩=some (.bool q.opn)/\wl.cell? ⟨gP,2,none⟩=some (.slice aa na ca)/\wl.cell? ⟨gP,3,none⟩=some (.slice (some ⟨bx,off,none⟩) nl cl)/\wl.cell? ⟨gP,4,none⟩=some (.slice ab nb cb)/\wl.cell? ⟨bx,off+k,none⟩=some (.slice ax x.length cx)) V2 Al (fun Aa=>?_)
             refine M92 ?_;refine ta 7 ?_;try simp only[nrm]
             refine ra 6 fun K hK=>?_
             go_simp;refine M9189 ?_;intro w0x hg0 b0 bw0 HS1;refine M9149 ?_;intro H1;go_wp2_with fail
             refine hK.out _ _ (HS1) (fun Aa=>?_)
             clear hK K;refine M9141 ?_;refine ta 10 ?_;refine M951 ?_;refine ta 14 ?_;refine ta 15 ?_;try simp only[nrm]
             refine ra 16 fun K hK=>?_
             go_simp;refine M932 ?_;intro w1x hg1 b1 bw1 HS2;have H2:=jS m _ w1x (aO.below HM.out bw1) ax x.length cx x (bW.below HBX.out bw1);simp only[agg,List.toArray]at H2;rw[ix2]at H2;go_wp2_with fail
             refine hK.out _ _ (HS2) (fun Aa=>?_)
             clear hK K;refine M945 ?_;refine M9178 ?_
             refine ra 26 fun K hK=>?_
             go_simp;refine M971 ?_;intro w2x Be b2 bw2 HS3;go_wp2_with fail
             refine hK.out _ _ (HS3) (fun Aa=>?_)
             clear hK K;try simp only[nrm]
             refine ta 27 ?_;refine ta 28 ?_;try simp only[nrm]
             refine zL0 V2 ?_ _
             have HF:Hid (nmB m=false):=nF (fun hh=>by have hv:=(hh.2 j q HQJ.out).2.2 k x HXJ.out;simp only[aJl,e2]at hv;simp at hv)
             have HG:=hid (aI bw2 none);clear HS Al Aa HS1 H0 hg0 HS2 H1 hg1 HS3 H2 Be;exact U304
           | some i1=>
            have ix1:=cJ e1;have i01:(0:Int)<=(i1:Int):=V6;go_wp2_with fail
            refine zK3 (S:=fun wl=>wl.cell? ⟨w.heap.size,0,none⟩=some (v0)/\wl.cell? ⟨w.heap.size,1,none⟩=some (v1)/\wl.cell? ⟨w.heap.size,2,none⟩=some (.slice av nv cv)/\wl.cell? ⟨w.heap.size,3,none⟩=some (.slice (some ⟨bp,ofp,none⟩) np cp)/\wl.cell? ⟨gP,0,none⟩=some (.slice an q.name.length cn)/\wl.cell? ⟨gP,1,none⟩=some (.bool q.opn)/\wl.cell? ⟨gP,2,none⟩=some (.slice aa na ca)/\wl.cell? ⟨gP,3,none⟩=some (.slice (some ⟨bx,off,none⟩) nl cl)/\wl.cell? ⟨gP,4,none⟩=some (.slice ab nb cb)/\wl.cell? ⟨bx,off+k,none⟩=some (.slice ax x.length cx)) V2 Al (fun Aa=>?_)
            refine M92 ?_;refine ta 7 ?_;try simp only[nrm]
            refine ra 6 fun K hK=>?_
            go_simp;refine M9189 ?_;intro w0x hg0 b0 bw0 HS1;refine M9149 ?_;intro H1;go_wp2_with fail
            refine hK.out _ _ (HS1) (fun Aa=>?_)
            clear hK K;refine M9141 ?_;refine ta 10 ?_;refine M951 ?_;refine ta 14 ?_;refine ta 15 ?_;try simp only[nrm]
            refine ra 16 fun K hK=>?_
            go_simp;refine M932 ?_;intro w1x hg1 b1 bw1 HS2;go_wp2_with fail
            refine hK.out _ _ (HS2) (fun Aa=>?_)
            clear hK K;refine M945 ?_;refine M9163 ?_;refine zL0 V2 ?_ _
            have HF:Hid (nmB m=false):=nF (fun hh=>by have hv:=(hh.2 j q HQJ.out).2.2 k x HXJ.out;simp only[aJl,e1]at hv;simp at hv)
            have HG:=hid (aI bw1 none);clear HS Al Aa HS1 H0 hg0 HS2 H1 hg1;exact U304
          .
           have ne0:=wJ e0;generalize ixI (q.locals) x=i0 at H0 ne0;go_wp2_with fail
           refine zK3 (S:=fun wl=>wl.cell? ⟨w.heap.size,0,none⟩=some (v0)/\wl.cell? ⟨w.heap.size,1,none⟩=some (v1)/\wl.cell? ⟨w.heap.size,2,none⟩=some (.slice av nv cv)/\wl.cell? ⟨w.heap.size,3,none⟩=some (.slice (some ⟨bp,ofp,none⟩) np cp)/\wl.cell? ⟨gP,0,none⟩=some (.slice an q.name.length cn)/\wl.cell? ⟨gP,1,none⟩=some (.bool q.opn)/\wl.cell? ⟨gP,2,none⟩=some (.slice aa na ca)/\wl.cell? ⟨gP,3,none⟩=some (.slice (some ⟨bx,off,none⟩) nl cl)/\wl.cell? ⟨gP,4,none⟩=some (.slice ab nb cb)/\wl.cell? ⟨bx,off+k,none⟩=some (.slice ax x.length cx)) V2 Al (fun Aa=>?_)
           refine M92 ?_;refine ta 7 ?_;try simp only[nrm]
           refine ra 6 fun K hK=>?_
           go_simp;refine M9189 ?_;intro w0x hg0 b0 bw0 HS1;go_wp2_with fail
           refine hK.out _ _ (HS1) (fun Aa=>?_)
           clear hK K;refine M9141 ?_;refine sa 10 ?_;refine sa 11 ?_;refine sa 12 ?_;try simp only[nrm]
           refine sa 13 ?_;refine sa 14 ?_;refine sa 15 ?_;try simp only[nrm]
           refine sa 16 ?_;refine sa 17 ?_;try simp only[nrm]
           refine ta 18 ?_;refine ta 19 ?_;try simp only[nrm]
           refine M9163 ?_;refine zL0 V2 ?_ _
           have HF:Hid (nmB m=false):=nF (fun hh=>by have hv:=(hh.2 j q HQJ.out).2.2 k x HXJ.out;exact e0 hv.1)
           have HG:=hid (aI bw0 none);clear HS Al Aa HS1 H0 hg0;exact U304
         .
          have:nl=k:=V6
          subst this
          have HLS:Hid (∀i x,q.locals[i]?=some x->aJl m q i x):=fun i v hv=>Af.out i v (by have:=dY hv;rw[HNL.out]at this;exact this) hv
          have HQS:Hid (∀i q,i<j+1->m.procs[i]?=some q->aMo m i q):=fun i v hi hv=>by
           by_cases e:i=j
           .
            subst e;rw[HQJ.out]at hv;cases hv;exact⟨HEQ.out,HPS.out,HLS.out⟩
           .
            exact hallq.out i v V6 hv
          have HG:=hid (aD G25.out hg);clear Af Hg hg z0 z5 yw bw;go_wp2;go_roundw
          case rel=>exact⟨j+1,by omega,by go_num,HQS,HG⟩
          case measure=>simp[intOf];omega
     .
      have ne0:=wJ e0
      have HF:Hid (nmB m=false):=nF (fun hh=>e0 (hh.2 j q HQJ.out).1)
      generalize ixI (m.procs.map Pr.name) q.name=i0 at H1 ne0;clear e0;go_wp2_with fail;refine H1.mono ?_;rintro r w6 ⟨rfl,hg6⟩;have yg:=aD y5 hg6;clear H1 k0 k1 k2 k3 q0 z05 z5 y5 hg6;exact U318
    .
     have:np=j:=V6
     subst this
     have HF:Hid (nmB m=true):=aGa ⟨HVS.out,fun i v hv=>hallq.out i v (by have:=dY hv;rw[HNP.out]at this;exact this) hv⟩
     clear hallq;go_wp2;go_ret;exact⟨aE HF.out.symm,yw⟩
end Go.Proofs.YtegkhlkjfeafjaaGreatDoor

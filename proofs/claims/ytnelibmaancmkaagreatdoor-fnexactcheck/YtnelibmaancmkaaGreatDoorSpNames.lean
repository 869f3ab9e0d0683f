import Derived.Test.YtnelibmaancmkaaGreatDoorPackX
namespace Go.Proofs.YtnelibmaancmkaaGreatDoor
open Go.RowKit
set_option linter.unusedVariables false
set_option linter.unusedSimpArgs false
set_option maxRecDepth 100000
theorem U50{p:Prop}(h:p:=by
 go_wp2_with fail
 go_ret
 exact⟨aE HF.out.symm,HG.out⟩):p:=h
theorem U127{p:Prop}(h:p:=by
 go_wp2_with fail
 go_roundw
 case rel=>exact⟨k+1,by omega,by go_num,HV,HG⟩
 case measure=>simp[intOf];omega):p:=h
theorem wJ {l:List (List Int)}{x:List Int}{j:Nat}(h:¬ix l x=some j):(ixI l x != (j:Int))=true:=by
 have:ixI l x ≠ (j:Int):=fun e=>h (by
  unfold ixI at e
  split at e
  .
   rename_i i hi;rw[hi];congr 1;omega
  .
   omega)
 simpa using this
def VOk (m:Mo)(i:Nat)(v:Va):Prop:=ix (m.vars.map Va.name) v.name=some i/\ix (m.procs.map Pr.name) v.name=none
def aJh (m:Mo)(q:Pr)(k:Nat)(a:Pa):Prop:=ix (q.params.map Pa.name) a.name=some k/\ix q.locals a.name=none/\ix (m.vars.map Va.name) a.name=none/\ix (m.procs.map Pr.name) a.name=none
def aJl (m:Mo)(q:Pr)(k:Nat)(x:List Int):Prop:=ix q.locals x=some k/\ix (m.vars.map Va.name) x=none/\ix (m.procs.map Pr.name) x=none
def aMo (m:Mo)(i:Nat)(q:Pr):Prop:=ix (m.procs.map Pr.name) q.name=some i/\(∀k a,q.params[k]?=some a->aJh m q k a)/\(∀k x,q.locals[k]?=some x->aJl m q k x)
def aGr (m:Mo):Prop:=(∀i v,m.vars[i]?=some v->VOk m i v)/\(∀i q,m.procs[i]?=some q->aMo m i q)
noncomputable def nmB (m:Mo):Bool:=@decide (aGr m) (Classical.propDecidable _)
theorem nF {m:Mo}(h:¬aGr m):nmB m=false:=by unfold nmB;exact @decide_eq_false _ (Classical.propDecidable _) h
theorem aGa {m:Mo}(h:aGr m):nmB m=true:=by unfold nmB;exact @decide_eq_true _ (Classical.propDecidable _) h
set_option maxHeartbeats 16000000 in
theorem aEs (m:Mo)(vs:List Value)(w:World)(h:aO w m.fl vs):
  Calls Tryz.prog 25 #[agg vs] w fun e w'=>e=.returned (.bool (nmB m))/\w.grownBy w' none:=by
 have h0:=h;obtain⟨v0,_,rfl,_,v1,_,rfl,_,v2,_,rfl,hv,v3,_,rfl,hp,rfl⟩:=h;obtain⟨av,cv,rfl,hV⟩:=hv.list;obtain⟨ap,cp,rfl,hP⟩:=hp.list;have hv9:=hV.len9;have hp9:=hP.len9;simp only[List.length_map]at hv9 hp9 h0 ⊢
 obtain⟨nv,hnv⟩:∃z,z=m.vars.length:=⟨_,rfl⟩
 obtain⟨np,hnp⟩:∃z,z=m.procs.length:=⟨_,rfl⟩
 have HNV:Hid (m.vars.length=nv):=hnv.symm
 have HNP:Hid (m.procs.length=np):=hnp.symm
 rw[<-hnv,<-hnp]at h0 ⊢;rw[<-hnv]at hv9;rw[<-hnp]at hp9
 have HM:Hid (aO w m.fl [v0,v1,.slice av nv cv,.slice ap np cp]):=h0
 have HV9:Hid (aS w av cv 2 (m.vars.map Va.fl)):=hV
 have HP9:Hid (aS w ap cp 5 (m.procs.map Pr.fl)):=hP
 clear h0 hV hP hv hp hnv hnp;have z0:=Blk.new w 35 [v0,v1,.slice av nv cv,.slice ap np cp];have y0:=aC w (.cells #[v0,v1,.slice av nv cv,.slice ap np cp] 35 (0,0)) none;simp only[List.toArray]at z0;simp only[agg];go_enter Tryz.func25,Tryz.ntmps25;go_upto_region 1 with fail;generalize w.alloc (.cells #[v0,v1,.slice av nv cv,.slice ap np cp] 35 (0,0))=w1 at *
 have Z0:Hid (Blk w1 w.heap.size 35 [v0,v1,.slice av nv cv,.slice ap np cp]):=z0
 have Y0:Hid (w.grownBy w1 none):=y0
 clear z0 y0;go_wp2_with fail
 go_loopw [3] (fun i wr=>∃j:Nat,j<=nv/\i=.int .i64 j/\Hid (∀i v,i<j->m.vars[i]?=some v->VOk m i v)/\Hid (w1.grownBy wr none)) (fun i _=>nv-(intOf i).toNat)
 case atStart=>exact⟨0,Nat.zero_le _,rfl,V32,aP _ _⟩
 case round=>
  obtain⟨j,hj,rfl,Af,Hg⟩:=hrel;have hg:=Hg.out;have yw:=aD Y0.out hg;have bw:=aA yw;have z0:=Z0.out.below (aA hg) Z0.out.lt;have k2:=z0.cell (i:=2) rfl
  by_cases Ai:j<nv
  .
   obtain⟨x,hx⟩:∃x,m.vars[j]?=some x:=⟨_,List.getElem?_eq_getElem (by rw[HNV.out];exact Ai)⟩
   have HXJ:Hid (m.vars[j]?=some x):=hx
   obtain⟨bx,off,ys,rfl,hys,Ab⟩:=aS.cellsAt HV9.out (show(m.vars.map Va.fl)[j]?=some x.fl by rw[List.getElem?_map,hx];rfl)
   obtain⟨y0,_,rfl,⟨ax,cx,rfl,hbx,_⟩,_⟩:=hys
   have HBX:Hid (bW w ax x.name.length x.name):=hbx
   have r0:=aB (Ab 0 _ rfl) bw;rw[Nat.add_zero]at r0;clear Ab hx hbx
   have HS:∀{wl:World},Below wr.heap.size wr wl->wl.cell? ⟨w.heap.size,0,none⟩=some (v0)/\wl.cell? ⟨w.heap.size,1,none⟩=some (v1)/\wl.cell? ⟨w.heap.size,2,none⟩=some (.slice (some ⟨bx,off,none⟩) nv cv)/\wl.cell? ⟨w.heap.size,3,none⟩=some (.slice ap np cp)/\wl.cell? ⟨bx,off+j*2,none⟩=some (.slice ax x.name.length cx):=fun hb=>⟨aB (z0.cell (i:=0) rfl) hb,aB (z0.cell (i:=1) rfl) hb,aB (z0.cell (i:=2) rfl) hb,aB (z0.cell (i:=3) rfl) hb,aB r0 hb⟩
   have Al:=HS (wl:=wr.drew) (Below.refl _ _).drew;have H0:=lV m _ wr.drew (aO.below HM.out bw.drew) ax x.name.length cx x.name (bW.below HBX.out bw.drew);simp only[agg,List.toArray]at H0
   by_cases e0:ix (m.vars.map Va.name) x.name=some j
   .
    have ix0:=cJ e0;rw[ix0]at H0
    cases e1:ix (m.procs.map Pr.name) x.name with
    | none=>
     have ix1:=cU e1;go_wp2_with fail
     refine wp_region_held_drew (S:=fun wl=>wl.cell? ⟨w.heap.size,0,none⟩=some (v0)/\wl.cell? ⟨w.heap.size,1,none⟩=some (v1)/\wl.cell? ⟨w.heap.size,2,none⟩=some (.slice (some ⟨bx,off,none⟩) nv cv)/\wl.cell? ⟨w.heap.size,3,none⟩=some (.slice ap np cp)/\wl.cell? ⟨bx,off+j*2,none⟩=some (.slice ax x.name.length cx)) V2 Al (fun Aa=>?_)
     refine ta 0 ?_ Aa;refine ta 1 ?_ Aa;refine ta 2 ?_ Aa;try simp only[nrm]
     refine ta 3 ?_ Aa;refine ta 4 ?_ Aa;refine ta 5 ?_ Aa;try simp only[nrm]
     refine ta 6 ?_ Aa;refine ta 8 ?_ Aa;try simp only[nrm]
     refine ra 7 fun K hK=>?_
     go_simp
     (with_reducible refine H0.mono ?_)
     rintro r w0x ⟨rfl,hg0⟩
     have b0:Below wr.heap.size wr w0x:=(Below.refl wr.heap.size wr).drew.trans (aA hg0)
     have bw0:Below w.heap.size w w0x:=bw.trans (b0.mono bw.size)
     have HS1:=HS b0;have H1:=jS m _ w0x (aO.below HM.out bw0) ax x.name.length cx x.name (bW.below HBX.out bw0);simp only[agg,List.toArray]at H1;rw[ix1]at H1;go_wp2_with fail
     refine hK.out _ _ (HS1) (fun Aa=>?_)
     clear hK K;try simp only[nrm]
     refine ta 9 ?_ Aa;refine ta 10 ?_ Aa;try simp only[nrm]
     refine ta 11 ?_ Aa;refine ta 12 ?_ Aa;refine ta 13 ?_ Aa;try simp only[nrm]
     refine ta 14 ?_ Aa;refine ta 15 ?_ Aa;refine ta 16 ?_ Aa;try simp only[nrm]
     refine ta 17 ?_ Aa;try simp only[nrm]
     refine ra 18 fun K hK=>?_
     go_simp
     (with_reducible refine H1.mono ?_)
     rintro r w1x ⟨rfl,hg1⟩
     have b1:Below wr.heap.size wr w1x:=b0.trans ((aA hg1).mono b0.size)
     have bw1:Below w.heap.size w w1x:=bw.trans (b1.mono bw.size)
     have HS2:=HS b1;go_wp2_with fail
     refine hK.out _ _ (HS2) (fun Aa=>?_)
     clear hK K;try simp only[nrm]
     refine ta 19 ?_ Aa;refine ta 20 ?_ Aa;try simp only[nrm]
     refine wpAnyH_done V2 ?_ _
     have HG:Hid (w1.grownBy w1x none):=aD Hg.out (aI b1 none)
     have HV:Hid (∀i v,i<j+1->m.vars[i]?=some v->VOk m i v):=fun i v hi hv=>by
      by_cases e:i=j
      .
       subst e;rw[HXJ.out]at hv;cases hv;exact⟨e0,e1⟩
      .
       exact Af.out i v V6 hv
     clear HS Al Aa HS1 H0 hg0 HS2 H1 hg1;go_wp2_with fail;go_roundw
     case rel=>exact⟨j+1,by omega,by go_num,HV,HG⟩
     case measure=>simp[intOf];omega
    | some i1=>
     have ix1:=cJ e1;have i01:(0:Int)<=(i1:Int):=V6;go_wp2_with fail
     refine wp_region_held_drew (S:=fun wl=>wl.cell? ⟨w.heap.size,0,none⟩=some (v0)/\wl.cell? ⟨w.heap.size,1,none⟩=some (v1)/\wl.cell? ⟨w.heap.size,2,none⟩=some (.slice (some ⟨bx,off,none⟩) nv cv)/\wl.cell? ⟨w.heap.size,3,none⟩=some (.slice ap np cp)/\wl.cell? ⟨bx,off+j*2,none⟩=some (.slice ax x.name.length cx)) V2 Al (fun Aa=>?_)
     refine ta 0 ?_ Aa;refine ta 1 ?_ Aa;refine ta 2 ?_ Aa;try simp only[nrm]
     refine ta 3 ?_ Aa;refine ta 4 ?_ Aa;refine ta 5 ?_ Aa;try simp only[nrm]
     refine ta 6 ?_ Aa;refine ta 8 ?_ Aa;try simp only[nrm]
     refine ra 7 fun K hK=>?_
     go_simp
     (with_reducible refine H0.mono ?_)
     rintro r w0x ⟨rfl,hg0⟩
     have b0:Below wr.heap.size wr w0x:=(Below.refl wr.heap.size wr).drew.trans (aA hg0)
     have bw0:Below w.heap.size w w0x:=bw.trans (b0.mono bw.size)
     have HS1:=HS b0;have H1:=jS m _ w0x (aO.below HM.out bw0) ax x.name.length cx x.name (bW.below HBX.out bw0);simp only[agg,List.toArray]at H1;rw[ix1]at H1;go_wp2_with fail
     refine hK.out _ _ (HS1) (fun Aa=>?_)
     clear hK K;try simp only[nrm]
     refine ta 9 ?_ Aa;refine ta 10 ?_ Aa;try simp only[nrm]
     refine ta 11 ?_ Aa;refine ta 12 ?_ Aa;refine ta 13 ?_ Aa;try simp only[nrm]
     refine ta 14 ?_ Aa;refine ta 15 ?_ Aa;refine ta 16 ?_ Aa;try simp only[nrm]
     refine ta 17 ?_ Aa;try simp only[nrm]
     refine ra 18 fun K hK=>?_
     go_simp
     (with_reducible refine H1.mono ?_)
     rintro r w1x ⟨rfl,hg1⟩
     have b1:Below wr.heap.size wr w1x:=b0.trans ((aA hg1).mono b0.size)
     have bw1:Below w.heap.size w w1x:=bw.trans (b1.mono bw.size)
     have HS2:=HS b1;go_wp2_with fail
     refine hK.out _ _ (HS2) (fun Aa=>?_)
     clear hK K;try simp only[nrm]
     refine ta 19 ?_ Aa;refine ta 20 ?_ Aa;try simp only[nrm]
     refine wpAnyH_done V2 ?_ _
     have HF:Hid (nmB m=false):=nF (fun hh=>by have hv:=hh.1 j x HXJ.out;have h2:=hv.2;rw[e1]at h2;cases h2)
     have HG:Hid (w.grownBy w1x none):=aI bw1 none
     clear HS Al Aa HS1 H0 hg0 HS2 H1 hg1;exact U50
   .
    have ne0:=wJ e0;generalize ixI (m.vars.map Va.name) x.name=i0 at H0 ne0;go_wp2_with fail
    refine wp_region_held_drew (S:=fun wl=>wl.cell? ⟨w.heap.size,0,none⟩=some (v0)/\wl.cell? ⟨w.heap.size,1,none⟩=some (v1)/\wl.cell? ⟨w.heap.size,2,none⟩=some (.slice (some ⟨bx,off,none⟩) nv cv)/\wl.cell? ⟨w.heap.size,3,none⟩=some (.slice ap np cp)/\wl.cell? ⟨bx,off+j*2,none⟩=some (.slice ax x.name.length cx)) V2 Al (fun Aa=>?_)
    refine ta 0 ?_ Aa;refine ta 1 ?_ Aa;refine ta 2 ?_ Aa;try simp only[nrm]
    refine ta 3 ?_ Aa;refine ta 4 ?_ Aa;refine ta 5 ?_ Aa;try simp only[nrm]
    refine ta 6 ?_ Aa;refine ta 8 ?_ Aa;try simp only[nrm]
    refine ra 7 fun K hK=>?_
    go_simp
    (with_reducible refine H0.mono ?_)
    rintro r w0x ⟨rfl,hg0⟩
    have b0:Below wr.heap.size wr w0x:=(Below.refl wr.heap.size wr).drew.trans (aA hg0)
    have bw0:Below w.heap.size w w0x:=bw.trans (b0.mono bw.size)
    have HS1:=HS b0;go_wp2_with fail
    refine hK.out _ _ (HS1) (fun Aa=>?_)
    clear hK K;try simp only[nrm]
    refine ta 9 ?_ Aa;refine ta 10 ?_ Aa;try simp only[nrm]
    refine sa 11 ?_ Aa;refine sa 12 ?_ Aa;refine sa 13 ?_ Aa;try simp only[nrm]
    refine sa 14 ?_ Aa;refine sa 15 ?_ Aa;refine sa 16 ?_ Aa;try simp only[nrm]
    refine sa 17 ?_ Aa;refine sa 18 ?_ Aa;refine sa 19 ?_ Aa;try simp only[nrm]
    refine ta 20 ?_ Aa;try simp only[nrm]
    refine wpAnyH_done V2 ?_ _
    have HF:Hid (nmB m=false):=nF (fun hh=>by have hv:=hh.1 j x HXJ.out;exact e0 hv.1)
    have HG:Hid (w.grownBy w0x none):=aI bw0 none
    clear HS Al Aa HS1 H0 hg0;exact U50
  .
   have:nv=j:=V6
   subst this
   have HVS:Hid (∀i v,m.vars[i]?=some v->VOk m i v):=fun i v hv=>Af.out i v (by have:=dY hv;rw[HNV.out]at this;exact this) hv
   have Z2:Hid (Blk wr w.heap.size 35 [v0,v1,.slice av nv cv,.slice ap np cp]):=z0
   have Y2:Hid (w.grownBy wr none):=yw
   clear Af Hg hg z0 yw bw;go_wp2_with fail;clear k2;generalize wr=w2 at *
   go_loopw [4] (fun i wr=>∃j:Nat,j<=np/\i=.int .i64 j/\Hid (∀i q,i<j->m.procs[i]?=some q->aMo m i q)/\Hid (w2.grownBy wr none)) (fun i _=>np-(intOf i).toNat)
   case atStart=>exact⟨0,Nat.zero_le _,rfl,V32,aP _ _⟩
   case round=>
    obtain⟨j,hj,rfl,hallq,Hgq⟩:=hrel;have hg:=Hgq.out;have yw:=aD Y2.out hg;have bw:=aA yw;have z0:=Z2.out.below (aA hg) Z2.out.lt;have k3:=z0.cell (i:=3) rfl
    by_cases Ai:j<np
    .
     obtain⟨q,hq⟩:∃q,m.procs[j]?=some q:=⟨_,List.getElem?_eq_getElem (by rw[HNP.out];exact Ai)⟩
     have HQJ:Hid (m.procs[j]?=some q):=hq
     obtain⟨bp,ofp,ys,rfl,hys,Ab⟩:=aS.cellsAt HP9.out (show(m.procs.map Pr.fl)[j]?=some q.fl by rw[List.getElem?_map,hq];rfl)
     have hqq:=hys;obtain⟨u0,_,rfl,⟨an,cn,rfl,hbn,_⟩,u1,_,rfl,hu1,u2,_,rfl,hu2,u3,_,rfl,hu3,u4,_,rfl,hu4,rfl⟩:=hys;obtain⟨aa,ca,rfl,hA⟩:=hu2.list;obtain⟨al,cl,rfl,hLo⟩:=hu3.list;obtain⟨ab,cb,rfl,_⟩:=hu4.list;have ha9:=hA.len9;have hl9:=hLo.len9
     have el:(bH q.locals).length=q.locals.length:=by simp[bH]
     rw[el]at hl9;simp only[List.length_map,el]at ha9 Ab hqq
     obtain⟨na,hna⟩:∃z,z=q.params.length:=⟨_,rfl⟩
     obtain⟨nl,hnl⟩:∃z,z=q.locals.length:=⟨_,rfl⟩
     have HNA:Hid (q.params.length=na):=hna.symm
     have HNL:Hid (q.locals.length=nl):=hnl.symm
     rw[<-hna,<-hnl]at Ab hqq;rw[<-hna]at ha9;rw[<-hnl]at hl9;generalize (sts q.body).length=nb at *
     have hu1':u1=.bool q.opn:=hu1
     subst hu1'
     have HQ:Hid (aO w q.fl [.slice an q.name.length cn,.bool q.opn,.slice aa na ca,.slice al nl cl,.slice ab nb cb]):=hqq
     have HA:Hid (aS w aa ca 2 (q.params.map Pa.fl)):=hA
     have HLo:Hid (aS w al cl 1 (bH q.locals)):=hLo
     have HBN:Hid (bW w an q.name.length q.name):=hbn
     have r0:=aB (Ab 0 _ rfl) bw;have r1:=aB (Ab 1 _ rfl) bw;have r2:=aB (Ab 2 _ rfl) bw;have r3:=aB (Ab 3 _ rfl) bw;have r4:=aB (Ab 4 _ rfl) bw;rw[Nat.add_zero]at r0;have z5:=Blk.new wr 72 [.slice an q.name.length cn,.bool q.opn,.slice aa na ca,.slice al nl cl,.slice ab nb cb];have g5:=aC wr (.cells #[.slice an q.name.length cn,.bool q.opn,.slice aa na ca,.slice al nl cl,.slice ab nb cb] 72 (0,0)) none;simp only[List.toArray]at z5;have z05:=z0.below (aA g5) z0.lt;clear Ab hq hqq hA hLo hbn hu2 hu3 hu4 hna hnl el z0;go_upto_region 10 with fail;generalize wr.alloc (.cells #[.slice an q.name.length cn,.bool q.opn,.slice aa na ca,.slice al nl cl,.slice ab nb cb] 72 (0,0))=w5 at *;generalize wr.heap.size=gP at *;have y5:=aD yw g5;have g25:=aD hg g5
     have Z05:Hid (Blk w5 w.heap.size 35 [v0,v1,.slice av nv cv,.slice (some ⟨bp,ofp,none⟩) np cp]):=z05
     have Z55:Hid (Blk w5 gP 72 [.slice an q.name.length cn,.bool q.opn,.slice aa na ca,.slice al nl cl,.slice ab nb cb]):=z5
     have Y5:Hid (w.grownBy w5 none):=y5
     have G25:Hid (w2.grownBy w5 none):=g25
     clear r0 r1 r2 r3 r4 k3 bw yw hg Hgq g5 g25;have H1:=jS m _ w5 (aO.below HM.out (aA y5)) an q.name.length cn q.name (bW.below HBN.out (aA y5));simp only[agg,List.toArray]at H1;obtain⟨k0,k1,k2,k3⟩:=z05.c4;have q0:=z5.cell (i:=0) rfl
     by_cases e0:ix (m.procs.map Pr.name) q.name=some j
     .
      have HEQ:Hid (ix (m.procs.map Pr.name) q.name=some j):=e0
      rw[cJ e0]at H1;clear e0;go_wp2_with fail;refine H1.mono ?_;rintro r w6 ⟨rfl,hg6⟩
      have G6:Hid (w5.grownBy w6 none):=hg6
      clear H1 k0 k1 k2 k3 q0 z05 z5 y5 hg6;go_wp2_with fail
      go_loopw [6] (fun i wr=>∃k:Nat,k<=na/\i=.int .i64 k/\Hid (∀i a,i<k->q.params[i]?=some a->aJh m q i a)/\Hid (w5.grownBy wr none)) (fun i _=>na-(intOf i).toNat)
      case atStart=>exact⟨0,Nat.zero_le _,rfl,V32,G6⟩
      case round=>
       obtain⟨k,hk,rfl,Af,Hg⟩:=hrel;have hg:=Hg.out;have yw:=aD Y5.out hg;have bw:=aA yw;have z0:=Z05.out.below (aA hg) Z05.out.lt;have z5:=Z55.out.below (aA hg) Z55.out.lt;have p2:=z5.cell (i:=2) rfl
       by_cases hlk:k<na
       .
        obtain⟨x,hx⟩:∃x,q.params[k]?=some x:=⟨_,List.getElem?_eq_getElem (by rw[HNA.out];exact hlk)⟩
        have HXJ:Hid (q.params[k]?=some x):=hx
        obtain⟨bx,off,ys,rfl,hys,Ab⟩:=aS.cellsAt HA.out (show(q.params.map Pa.fl)[k]?=some x.fl by rw[List.getElem?_map,hx];rfl)
        obtain⟨y0,_,rfl,⟨ax,cx,rfl,hbx,_⟩,_⟩:=hys
        have HBX:Hid (bW w ax x.name.length x.name):=hbx
        have r0:=aB (Ab 0 _ rfl) bw;rw[Nat.add_zero]at r0;clear Ab hx hbx
        have HS:∀{wl:World},Below wr.heap.size wr wl->wl.cell? ⟨w.heap.size,0,none⟩=some (v0)/\wl.cell? ⟨w.heap.size,1,none⟩=some (v1)/\wl.cell? ⟨w.heap.size,2,none⟩=some (.slice av nv cv)/\wl.cell? ⟨w.heap.size,3,none⟩=some (.slice (some ⟨bp,ofp,none⟩) np cp)/\wl.cell? ⟨gP,0,none⟩=some (.slice an q.name.length cn)/\wl.cell? ⟨gP,1,none⟩=some (.bool q.opn)/\wl.cell? ⟨gP,2,none⟩=some (.slice (some ⟨bx,off,none⟩) na ca)/\wl.cell? ⟨gP,3,none⟩=some (.slice al nl cl)/\wl.cell? ⟨gP,4,none⟩=some (.slice ab nb cb)/\wl.cell? ⟨bx,off+k*2,none⟩=some (.slice ax x.name.length cx):=fun hb=>⟨aB (z0.cell (i:=0) rfl) hb,aB (z0.cell (i:=1) rfl) hb,aB (z0.cell (i:=2) rfl) hb,aB (z0.cell (i:=3) rfl) hb,aB (z5.cell (i:=0) rfl) hb,aB (z5.cell (i:=1) rfl) hb,aB (z5.cell (i:=2) rfl) hb,aB (z5.cell (i:=3) rfl) hb,aB (z5.cell (i:=4) rfl) hb,aB r0 hb⟩
        have Al:=HS (wl:=wr.drew) (Below.refl _ _).drew;have H0:=qV q _ wr.drew (aO.below HQ.out bw.drew) ax x.name.length cx x.name (bW.below HBX.out bw.drew);simp only[agg,List.toArray]at H0
        by_cases e0:ix (q.params.map Pa.name) x.name=some k
        .
         have ix0:=cJ e0;rw[ix0]at H0
         cases e1:ix (q.locals) x.name with
         | none=>
          have ix1:=cU e1
          cases e2:ix (m.vars.map Va.name) x.name with
          | none=>
           have ix2:=cU e2
           cases e3:ix (m.procs.map Pr.name) x.name with
           | none=>
            have ix3:=cU e3;go_wp2_with fail
            refine wp_region_held_drew (S:=fun wl=>wl.cell? ⟨w.heap.size,0,none⟩=some (v0)/\wl.cell? ⟨w.heap.size,1,none⟩=some (v1)/\wl.cell? ⟨w.heap.size,2,none⟩=some (.slice av nv cv)/\wl.cell? ⟨w.heap.size,3,none⟩=some (.slice (some ⟨bp,ofp,none⟩) np cp)/\wl.cell? ⟨gP,0,none⟩=some (.slice an q.name.length cn)/\wl.cell? ⟨gP,1,none⟩=some (.bool q.opn)/\wl.cell? ⟨gP,2,none⟩=some (.slice (some ⟨bx,off,none⟩) na ca)/\wl.cell? ⟨gP,3,none⟩=some (.slice al nl cl)/\wl.cell? ⟨gP,4,none⟩=some (.slice ab nb cb)/\wl.cell? ⟨bx,off+k*2,none⟩=some (.slice ax x.name.length cx)) V2 Al (fun Aa=>?_)
            refine ta 0 ?_ Aa;refine ta 1 ?_ Aa;refine ta 2 ?_ Aa;try simp only[nrm]
            refine ta 3 ?_ Aa;refine ta 4 ?_ Aa;refine ta 5 ?_ Aa;try simp only[nrm]
            refine ta 6 ?_ Aa;refine ta 8 ?_ Aa;try simp only[nrm]
            refine ra 7 fun K hK=>?_
            go_simp
            (with_reducible refine H0.mono ?_)
            rintro r w0x ⟨rfl,hg0⟩
            have b0:Below wr.heap.size wr w0x:=(Below.refl wr.heap.size wr).drew.trans (aA hg0)
            have bw0:Below w.heap.size w w0x:=bw.trans (b0.mono bw.size)
            have HS1:=HS b0;have H1:=kF q _ w0x (aO.below HQ.out bw0) ax x.name.length cx x.name (bW.below HBX.out bw0);simp only[agg,List.toArray]at H1;rw[ix1]at H1;go_wp2_with fail
            refine hK.out _ _ (HS1) (fun Aa=>?_)
            clear hK K;try simp only[nrm]
            refine ta 9 ?_ Aa;refine ta 10 ?_ Aa;try simp only[nrm]
            refine ta 11 ?_ Aa;refine ta 12 ?_ Aa;refine ta 13 ?_ Aa;try simp only[nrm]
            refine ta 14 ?_ Aa;refine ta 15 ?_ Aa;refine ta 16 ?_ Aa;try simp only[nrm]
            refine ta 17 ?_ Aa;try simp only[nrm]
            refine ra 18 fun K hK=>?_
            go_simp
            (with_reducible refine H1.mono ?_)
            rintro r w1x ⟨rfl,hg1⟩
            have b1:Below wr.heap.size wr w1x:=b0.trans ((aA hg1).mono b0.size)
            have bw1:Below w.heap.size w w1x:=bw.trans (b1.mono bw.size)
            have HS2:=HS b1;have H2:=lV m _ w1x (aO.below HM.out bw1) ax x.name.length cx x.name (bW.below HBX.out bw1);simp only[agg,List.toArray]at H2;rw[ix2]at H2;go_wp2_with fail
            refine hK.out _ _ (HS2) (fun Aa=>?_)
            clear hK K;try simp only[nrm]
            refine ta 19 ?_ Aa;refine ta 20 ?_ Aa;refine ta 21 ?_ Aa;try simp only[nrm]
            refine ta 22 ?_ Aa;refine ta 23 ?_ Aa;refine ta 24 ?_ Aa;try simp only[nrm]
            refine ta 25 ?_ Aa;refine ta 26 ?_ Aa;refine ta 27 ?_ Aa;try simp only[nrm]
            refine ta 28 ?_ Aa;try simp only[nrm]
            refine ra 29 fun K hK=>?_
            go_simp
            (with_reducible refine H2.mono ?_)
            rintro r w2x ⟨rfl,Be⟩
            have b2:Below wr.heap.size wr w2x:=b1.trans ((aA Be).mono b1.size)
            have bw2:Below w.heap.size w w2x:=bw.trans (b2.mono bw.size)
            have HS3:=HS b2;have H3:=jS m _ w2x (aO.below HM.out bw2) ax x.name.length cx x.name (bW.below HBX.out bw2);simp only[agg,List.toArray]at H3;rw[ix3]at H3;go_wp2_with fail
            refine hK.out _ _ (HS3) (fun Aa=>?_)
            clear hK K;try simp only[nrm]
            refine ta 30 ?_ Aa;refine ta 31 ?_ Aa;refine ta 32 ?_ Aa;try simp only[nrm]
            refine ta 33 ?_ Aa;refine ta 34 ?_ Aa;refine ta 35 ?_ Aa;try simp only[nrm]
            refine ta 36 ?_ Aa;refine ta 37 ?_ Aa;refine ta 38 ?_ Aa;try simp only[nrm]
            refine ta 39 ?_ Aa;try simp only[nrm]
            refine ra 40 fun K hK=>?_
            go_simp
            (with_reducible refine H3.mono ?_)
            rintro r w3x ⟨rfl,hg3⟩
            have b3:Below wr.heap.size wr w3x:=b2.trans ((aA hg3).mono b2.size)
            have bw3:Below w.heap.size w w3x:=bw.trans (b3.mono bw.size)
            have HS4:=HS b3;go_wp2_with fail
            refine hK.out _ _ (HS4) (fun Aa=>?_)
            clear hK K;try simp only[nrm]
            refine ta 41 ?_ Aa;refine ta 42 ?_ Aa;try simp only[nrm]
            refine wpAnyH_done V2 ?_ _
            have HG:Hid (w5.grownBy w3x none):=aD Hg.out (aI b3 none)
            have HV:Hid (∀i a,i<k+1->q.params[i]?=some a->aJh m q i a):=fun i v hi hv=>by
             by_cases e:i=k
             .
              subst e;rw[HXJ.out]at hv;cases hv;exact⟨e0,e1,e2,e3⟩
             .
              exact Af.out i v V6 hv
            clear HS Al Aa HS1 H0 hg0 HS2 H1 hg1 HS3 H2 Be HS4 H3 hg3;exact U127
           | some i3=>
            have ix3:=cJ e3;have i03:(0:Int)<=(i3:Int):=V6;go_wp2_with fail
            refine wp_region_held_drew (S:=fun wl=>wl.cell? ⟨w.heap.size,0,none⟩=some (v0)/\wl.cell? ⟨w.heap.size,1,none⟩=some (v1)/\wl.cell? ⟨w.heap.size,2,none⟩=some (.slice av nv cv)/\wl.cell? ⟨w.heap.size,3,none⟩=some (.slice (some ⟨bp,ofp,none⟩) np cp)/\wl.cell? ⟨gP,0,none⟩=some (.slice an q.name.length cn)/\wl.cell? ⟨gP,1,none⟩=some (.bool q.opn)/\wl.cell? ⟨gP,2,none⟩=some (.slice (some ⟨bx,off,none⟩) na ca)/\wl.cell? ⟨gP,3,none⟩=some (.slice al nl cl)/\wl.cell? ⟨gP,4,none⟩=some (.slice ab nb cb)/\wl.cell? ⟨bx,off+k*2,none⟩=some (.slice ax x.name.length cx)) V2 Al (fun Aa=>?_)
            refine ta 0 ?_ Aa;refine ta 1 ?_ Aa;refine ta 2 ?_ Aa;try simp only[nrm]
            refine ta 3 ?_ Aa;refine ta 4 ?_ Aa;refine ta 5 ?_ Aa;try simp only[nrm]
            refine ta 6 ?_ Aa;refine ta 8 ?_ Aa;try simp only[nrm]
            refine ra 7 fun K hK=>?_
            go_simp
            (with_reducible refine H0.mono ?_)
            rintro r w0x ⟨rfl,hg0⟩
            have b0:Below wr.heap.size wr w0x:=(Below.refl wr.heap.size wr).drew.trans (aA hg0)
            have bw0:Below w.heap.size w w0x:=bw.trans (b0.mono bw.size)
            have HS1:=HS b0;have H1:=kF q _ w0x (aO.below HQ.out bw0) ax x.name.length cx x.name (bW.below HBX.out bw0);simp only[agg,List.toArray]at H1;rw[ix1]at H1;go_wp2_with fail
            refine hK.out _ _ (HS1) (fun Aa=>?_)
            clear hK K;try simp only[nrm]
            refine ta 9 ?_ Aa;refine ta 10 ?_ Aa;try simp only[nrm]
            refine ta 11 ?_ Aa;refine ta 12 ?_ Aa;refine ta 13 ?_ Aa;try simp only[nrm]
            refine ta 14 ?_ Aa;refine ta 15 ?_ Aa;refine ta 16 ?_ Aa;try simp only[nrm]
            refine ta 17 ?_ Aa;try simp only[nrm]
            refine ra 18 fun K hK=>?_
            go_simp
            (with_reducible refine H1.mono ?_)
            rintro r w1x ⟨rfl,hg1⟩
            have b1:Below wr.heap.size wr w1x:=b0.trans ((aA hg1).mono b0.size)
            have bw1:Below w.heap.size w w1x:=bw.trans (b1.mono bw.size)
            have HS2:=HS b1;have H2:=lV m _ w1x (aO.below HM.out bw1) ax x.name.length cx x.name (bW.below HBX.out bw1);simp only[agg,List.toArray]at H2;rw[ix2]at H2;go_wp2_with fail
            refine hK.out _ _ (HS2) (fun Aa=>?_)
            clear hK K;try simp only[nrm]
            refine ta 19 ?_ Aa;refine ta 20 ?_ Aa;refine ta 21 ?_ Aa;try simp only[nrm]
            refine ta 22 ?_ Aa;refine ta 23 ?_ Aa;refine ta 24 ?_ Aa;try simp only[nrm]
            refine ta 25 ?_ Aa;refine ta 26 ?_ Aa;refine ta 27 ?_ Aa;try simp only[nrm]
            refine ta 28 ?_ Aa;try simp only[nrm]
            refine ra 29 fun K hK=>?_
            go_simp
            (with_reducible refine H2.mono ?_)
            rintro r w2x ⟨rfl,Be⟩
            have b2:Below wr.heap.size wr w2x:=b1.trans ((aA Be).mono b1.size)
            have bw2:Below w.heap.size w w2x:=bw.trans (b2.mono bw.size)
            have HS3:=HS b2;have H3:=jS m _ w2x (aO.below HM.out bw2) ax x.name.length cx x.name (bW.below HBX.out bw2);simp only[agg,List.toArray]at H3;rw[ix3]at H3;go_wp2_with fail
            refine hK.out _ _ (HS3) (fun Aa=>?_)
            clear hK K;try simp only[nrm]
            refine ta 30 ?_ Aa;refine ta 31 ?_ Aa;refine ta 32 ?_ Aa;try simp only[nrm]
            refine ta 33 ?_ Aa;refine ta 34 ?_ Aa;refine ta 35 ?_ Aa;try simp only[nrm]
            refine ta 36 ?_ Aa;refine ta 37 ?_ Aa;refine ta 38 ?_ Aa;try simp only[nrm]
            refine ta 39 ?_ Aa;try simp only[nrm]
            refine ra 40 fun K hK=>?_
            go_simp
            (with_reducible refine H3.mono ?_)
            rintro r w3x ⟨rfl,hg3⟩
            have b3:Below wr.heap.size wr w3x:=b2.trans ((aA hg3).mono b2.size)
            have bw3:Below w.heap.size w w3x:=bw.trans (b3.mono bw.size)
            have HS4:=HS b3;go_wp2_with fail
            refine hK.out _ _ (HS4) (fun Aa=>?_)
            clear hK K;try simp only[nrm]
            refine ta 41 ?_ Aa;refine ta 42 ?_ Aa;try simp only[nrm]
            refine wpAnyH_done V2 ?_ _
            have HF:Hid (nmB m=false):=nF (fun hh=>by have hv:=(hh.2 j q HQJ.out).2.1 k x HXJ.out;simp only[aJh,e3]at hv;simp at hv)
            have HG:Hid (w.grownBy w3x none):=aI bw3 none
            clear HS Al Aa HS1 H0 hg0 HS2 H1 hg1 HS3 H2 Be HS4 H3 hg3;exact U50
          | some i2=>
           have ix2:=cJ e2;have i02:(0:Int)<=(i2:Int):=V6;go_wp2_with fail
           refine wp_region_held_drew (S:=fun wl=>wl.cell? ⟨w.heap.size,0,none⟩=some (v0)/\wl.cell? ⟨w.heap.size,1,none⟩=some (v1)/\wl.cell? ⟨w.heap.size,2,none⟩=some (.slice av nv cv)/\wl.cell? ⟨w.heap.size,3,none⟩=some (.slice (some ⟨bp,ofp,none⟩) np cp)/\wl.cell? ⟨gP,0,none⟩=some (.slice an q.name.length cn)/\wl.cell? ⟨gP,1,none⟩=some (.bool q.opn)/\wl.cell? ⟨gP,2,none⟩=some (.slice (some ⟨bx,off,none⟩) na ca)/\wl.cell? ⟨gP,3,none⟩=some (.slice al nl cl)/\wl.cell? ⟨gP,4,none⟩=some (.slice ab nb cb)/\wl.cell? ⟨bx,off+k*2,none⟩=some (.slice ax x.name.length cx)) V2 Al (fun Aa=>?_)
           refine ta 0 ?_ Aa;refine ta 1 ?_ Aa;refine ta 2 ?_ Aa;try simp only[nrm]
           refine ta 3 ?_ Aa;refine ta 4 ?_ Aa;refine ta 5 ?_ Aa;try simp only[nrm]
           refine ta 6 ?_ Aa;refine ta 8 ?_ Aa;try simp only[nrm]
           refine ra 7 fun K hK=>?_
           go_simp
           (with_reducible refine H0.mono ?_)
           rintro r w0x ⟨rfl,hg0⟩
           have b0:Below wr.heap.size wr w0x:=(Below.refl wr.heap.size wr).drew.trans (aA hg0)
           have bw0:Below w.heap.size w w0x:=bw.trans (b0.mono bw.size)
           have HS1:=HS b0;have H1:=kF q _ w0x (aO.below HQ.out bw0) ax x.name.length cx x.name (bW.below HBX.out bw0);simp only[agg,List.toArray]at H1;rw[ix1]at H1;go_wp2_with fail
           refine hK.out _ _ (HS1) (fun Aa=>?_)
           clear hK K;try simp only[nrm]
           refine ta 9 ?_ Aa;refine ta 10 ?_ Aa;try simp only[nrm]
           refine ta 11 ?_ Aa;refine ta 12 ?_ Aa;refine ta 13 ?_ Aa;try simp only[nrm]
           refine ta 14 ?_ Aa;refine ta 15 ?_ Aa;refine ta 16 ?_ Aa;try simp only[nrm]
           refine ta 17 ?_ Aa;try simp only[nrm]
           refine ra 18 fun K hK=>?_
           go_simp
           (with_reducible refine H1.mono ?_)
           rintro r w1x ⟨rfl,hg1⟩
           have b1:Below wr.heap.size wr w1x:=b0.trans ((aA hg1).mono b0.size)
           have bw1:Below w.heap.size w w1x:=bw.trans (b1.mono bw.size)
           have HS2:=HS b1;have H2:=lV m _ w1x (aO.below HM.out bw1) ax x.name.length cx x.name (bW.below HBX.out bw1);simp only[agg,List.toArray]at H2;rw[ix2]at H2;go_wp2_with fail
           refine hK.out _ _ (HS2) (fun Aa=>?_)
           clear hK K;try simp only[nrm]
           refine ta 19 ?_ Aa;refine ta 20 ?_ Aa;refine ta 21 ?_ Aa;try simp only[nrm]
           refine ta 22 ?_ Aa;refine ta 23 ?_ Aa;refine ta 24 ?_ Aa;try simp only[nrm]
           refine ta 25 ?_ Aa;refine ta 26 ?_ Aa;refine ta 27 ?_ Aa;try simp only[nrm]
           refine ta 28 ?_ Aa;try simp only[nrm]
           refine ra 29 fun K hK=>?_
           go_simp
           (with_reducible refine H2.mono ?_)
           rintro r w2x ⟨rfl,Be⟩
           have b2:Below wr.heap.size wr w2x:=b1.trans ((aA Be).mono b1.size)
           have bw2:Below w.heap.size w w2x:=bw.trans (b2.mono bw.size)
           have HS3:=HS b2;go_wp2_with fail
           refine hK.out _ _ (HS3) (fun Aa=>?_)
           clear hK K;try simp only[nrm]
           refine ta 30 ?_ Aa;refine ta 31 ?_ Aa;refine ta 32 ?_ Aa;try simp only[nrm]
           refine sa 33 ?_ Aa;refine sa 34 ?_ Aa;refine sa 35 ?_ Aa;try simp only[nrm]
           refine sa 36 ?_ Aa;refine sa 37 ?_ Aa;refine sa 38 ?_ Aa;try simp only[nrm]
           refine sa 39 ?_ Aa;refine sa 40 ?_ Aa;refine sa 41 ?_ Aa;try simp only[nrm]
           refine ta 42 ?_ Aa;try simp only[nrm]
           refine wpAnyH_done V2 ?_ _
           have HF:Hid (nmB m=false):=nF (fun hh=>by have hv:=(hh.2 j q HQJ.out).2.1 k x HXJ.out;simp only[aJh,e2]at hv;simp at hv)
           have HG:Hid (w.grownBy w2x none):=aI bw2 none
           clear HS Al Aa HS1 H0 hg0 HS2 H1 hg1 HS3 H2 Be;exact U50
         | some i1=>
          have ix1:=cJ e1;have i01:(0:Int)<=(i1:Int):=V6;go_wp2_with fail
          refine wp_region_held_drew (S:=fun wl=>wl.cell? ⟨w.heap.size,0,none⟩=some (v0)/\wl.cell? ⟨w.heap.size,1,none⟩=some (v1)/\wl.cell? ⟨w.heap.size,2,none⟩=some (.slice av nv cv)/\wl.cell? ⟨w.heap.size,3,none⟩=some (.slice (some ⟨bp,ofp,none⟩) np cp)/\wl.cell? ⟨gP,0,none⟩=some (.slice an q.name.length cn)/\wl.cell? ⟨gP,1,none⟩=some (.bool q.opn)/\wl.cell? ⟨gP,2,none⟩=some (.slice (some ⟨bx,off,none⟩) na ca)/\wl.cell? ⟨gP,3,none⟩=some (.slice al nl cl)/\wl.cell? ⟨gP,4,none⟩=some (.slice ab nb cb)/\wl.cell? ⟨bx,off+k*2,none⟩=some (.slice ax x.name.length cx)) V2 Al (fun Aa=>?_)
          refine ta 0 ?_ Aa;refine ta 1 ?_ Aa;refine ta 2 ?_ Aa;try simp only[nrm]
          refine ta 3 ?_ Aa;refine ta 4 ?_ Aa;refine ta 5 ?_ Aa;try simp only[nrm]
          refine ta 6 ?_ Aa;refine ta 8 ?_ Aa;try simp only[nrm]
          refine ra 7 fun K hK=>?_
          go_simp
          (with_reducible refine H0.mono ?_)
          rintro r w0x ⟨rfl,hg0⟩
          have b0:Below wr.heap.size wr w0x:=(Below.refl wr.heap.size wr).drew.trans (aA hg0)
          have bw0:Below w.heap.size w w0x:=bw.trans (b0.mono bw.size)
          have HS1:=HS b0;have H1:=kF q _ w0x (aO.below HQ.out bw0) ax x.name.length cx x.name (bW.below HBX.out bw0);simp only[agg,List.toArray]at H1;rw[ix1]at H1;go_wp2_with fail
          refine hK.out _ _ (HS1) (fun Aa=>?_)
          clear hK K;try simp only[nrm]
          refine ta 9 ?_ Aa;refine ta 10 ?_ Aa;try simp only[nrm]
          refine ta 11 ?_ Aa;refine ta 12 ?_ Aa;refine ta 13 ?_ Aa;try simp only[nrm]
          refine ta 14 ?_ Aa;refine ta 15 ?_ Aa;refine ta 16 ?_ Aa;try simp only[nrm]
          refine ta 17 ?_ Aa;try simp only[nrm]
          refine ra 18 fun K hK=>?_
          go_simp
          (with_reducible refine H1.mono ?_)
          rintro r w1x ⟨rfl,hg1⟩
          have b1:Below wr.heap.size wr w1x:=b0.trans ((aA hg1).mono b0.size)
          have bw1:Below w.heap.size w w1x:=bw.trans (b1.mono bw.size)
          have HS2:=HS b1;go_wp2_with fail
          refine hK.out _ _ (HS2) (fun Aa=>?_)
          clear hK K;try simp only[nrm]
          refine ta 19 ?_ Aa;refine ta 20 ?_ Aa;refine ta 21 ?_ Aa;try simp only[nrm]
          refine sa 22 ?_ Aa;refine sa 23 ?_ Aa;refine sa 24 ?_ Aa;try simp only[nrm]
          refine sa 25 ?_ Aa;refine sa 26 ?_ Aa;refine sa 27 ?_ Aa;try simp only[nrm]
          refine sa 28 ?_ Aa;refine sa 29 ?_ Aa;refine sa 30 ?_ Aa;try simp only[nrm]
          refine ta 31 ?_ Aa;refine ta 32 ?_ Aa;try simp only[nrm]
          refine sa 33 ?_ Aa;refine sa 34 ?_ Aa;refine sa 35 ?_ Aa;try simp only[nrm]
          refine sa 36 ?_ Aa;refine sa 37 ?_ Aa;refine sa 38 ?_ Aa;try simp only[nrm]
          refine sa 39 ?_ Aa;refine sa 40 ?_ Aa;refine sa 41 ?_ Aa;try simp only[nrm]
          refine ta 42 ?_ Aa;try simp only[nrm]
          refine wpAnyH_done V2 ?_ _
          have HF:Hid (nmB m=false):=nF (fun hh=>by have hv:=(hh.2 j q HQJ.out).2.1 k x HXJ.out;simp only[aJh,e1]at hv;simp at hv)
          have HG:Hid (w.grownBy w1x none):=aI bw1 none
          clear HS Al Aa HS1 H0 hg0 HS2 H1 hg1;exact U50
        .
         have ne0:=wJ e0;generalize ixI (q.params.map Pa.name) x.name=i0 at H0 ne0;go_wp2_with fail
         refine wp_region_held_drew (S:=fun wl=>wl.cell? ⟨w.heap.size,0,none⟩=some (v0)/\wl.cell? ⟨w.heap.size,1,none⟩=some (v1)/\wl.cell? ⟨w.heap.size,2,none⟩=some (.slice av nv cv)/\wl.cell? ⟨w.heap.size,3,none⟩=some (.slice (some ⟨bp,ofp,none⟩) np cp)/\wl.cell? ⟨gP,0,none⟩=some (.slice an q.name.length cn)/\wl.cell? ⟨gP,1,none⟩=some (.bool q.opn)/\wl.cell? ⟨gP,2,none⟩=some (.slice (some ⟨bx,off,none⟩) na ca)/\wl.cell? ⟨gP,3,none⟩=some (.slice al nl cl)/\wl.cell? ⟨gP,4,none⟩=some (.slice ab nb cb)/\wl.cell? ⟨bx,off+k*2,none⟩=some (.slice ax x.name.length cx)) V2 Al (fun Aa=>?_)
         refine ta 0 ?_ Aa;refine ta 1 ?_ Aa;refine ta 2 ?_ Aa;try simp only[nrm]
         refine ta 3 ?_ Aa;refine ta 4 ?_ Aa;refine ta 5 ?_ Aa;try simp only[nrm]
         refine ta 6 ?_ Aa;refine ta 8 ?_ Aa;try simp only[nrm]
         refine ra 7 fun K hK=>?_
         go_simp
         (with_reducible refine H0.mono ?_)
         rintro r w0x ⟨rfl,hg0⟩
         have b0:Below wr.heap.size wr w0x:=(Below.refl wr.heap.size wr).drew.trans (aA hg0)
         have bw0:Below w.heap.size w w0x:=bw.trans (b0.mono bw.size)
         have HS1:=HS b0;go_wp2_with fail
         refine hK.out _ _ (HS1) (fun Aa=>?_)
         clear hK K;try simp only[nrm]
         refine ta 9 ?_ Aa;refine ta 10 ?_ Aa;try simp only[nrm]
         refine sa 11 ?_ Aa;refine sa 12 ?_ Aa;refine sa 13 ?_ Aa;try simp only[nrm]
         refine sa 14 ?_ Aa;refine sa 15 ?_ Aa;refine sa 16 ?_ Aa;try simp only[nrm]
         refine sa 17 ?_ Aa;refine sa 18 ?_ Aa;refine sa 19 ?_ Aa;try simp only[nrm]
         refine ta 20 ?_ Aa;refine ta 21 ?_ Aa;try simp only[nrm]
         refine sa 22 ?_ Aa;refine sa 23 ?_ Aa;refine sa 24 ?_ Aa;try simp only[nrm]
         refine sa 25 ?_ Aa;refine sa 26 ?_ Aa;refine sa 27 ?_ Aa;try simp only[nrm]
         refine sa 28 ?_ Aa;refine sa 29 ?_ Aa;refine sa 30 ?_ Aa;try simp only[nrm]
         refine ta 31 ?_ Aa;refine ta 32 ?_ Aa;try simp only[nrm]
         refine sa 33 ?_ Aa;refine sa 34 ?_ Aa;refine sa 35 ?_ Aa;try simp only[nrm]
         refine sa 36 ?_ Aa;refine sa 37 ?_ Aa;refine sa 38 ?_ Aa;try simp only[nrm]
         refine sa 39 ?_ Aa;refine sa 40 ?_ Aa;refine sa 41 ?_ Aa;try simp only[nrm]
         refine ta 42 ?_ Aa;try simp only[nrm]
         refine wpAnyH_done V2 ?_ _
         have HF:Hid (nmB m=false):=nF (fun hh=>by have hv:=(hh.2 j q HQJ.out).2.1 k x HXJ.out;exact e0 hv.1)
         have HG:Hid (w.grownBy w0x none):=aI bw0 none
         clear HS Al Aa HS1 H0 hg0;exact U50
       .
        have:na=k:=V6
        subst this
        have HPS:Hid (∀i a,q.params[i]?=some a->aJh m q i a):=fun i v hv=>Af.out i v (by have:=dY hv;rw[HNA.out]at this;exact this) hv
        have G7:Hid (w5.grownBy wr none):=Hg
        clear Af Hg hg z0 z5 yw bw;go_wp2_with fail;clear p2;generalize wr=w7 at *
        go_loopw [7] (fun i wr=>∃k:Nat,k<=nl/\i=.int .i64 k/\Hid (∀i a,i<k->q.locals[i]?=some a->aJl m q i a)/\Hid (w5.grownBy wr none)) (fun i _=>nl-(intOf i).toNat)
        case atStart=>exact⟨0,Nat.zero_le _,rfl,V32,G7⟩
        case round=>
         obtain⟨k,hk,rfl,Af,Hg⟩:=hrel;have hg:=Hg.out;have yw:=aD Y5.out hg;have bw:=aA yw;have z0:=Z05.out.below (aA hg) Z05.out.lt;have z5:=Z55.out.below (aA hg) Z55.out.lt;have p3:=z5.cell (i:=3) rfl
         by_cases hlk:k<nl
         .
          obtain⟨x,hx⟩:∃x,q.locals[k]?=some x:=⟨_,List.getElem?_eq_getElem (by rw[HNL.out];exact hlk)⟩
          have HXJ:Hid (q.locals[k]?=some x):=hx
          obtain⟨bx,off,ys,rfl,hys,Ab⟩:=aS.cellsAt HLo.out (show(bH q.locals)[k]?=some [Fl.b x] by unfold bH;rw[List.getElem?_map,hx];rfl)
          obtain⟨y0,_,rfl,⟨ax,cx,rfl,hbx,_⟩,_⟩:=hys
          have HBX:Hid (bW w ax x.length x):=hbx
          have r0:=aB (Ab 0 _ rfl) bw;simp only[Nat.add_zero,Nat.mul_one]at r0;clear Ab hx hbx
          have HS:∀{wl:World},Below wr.heap.size wr wl->wl.cell? ⟨w.heap.size,0,none⟩=some (v0)/\wl.cell? ⟨w.heap.size,1,none⟩=some (v1)/\wl.cell? ⟨w.heap.size,2,none⟩=some (.slice av nv cv)/\wl.cell? ⟨w.heap.size,3,none⟩=some (.slice (some ⟨bp,ofp,none⟩) np cp)/\wl.cell? ⟨gP,0,none⟩=some (.slice an q.name.length cn)/\wl.cell? ⟨gP,1,none⟩=some (.bool q.opn)/\wl.cell? ⟨gP,2,none⟩=some (.slice aa na ca)/\wl.cell? ⟨gP,3,none⟩=some (.slice (some ⟨bx,off,none⟩) nl cl)/\wl.cell? ⟨gP,4,none⟩=some (.slice ab nb cb)/\wl.cell? ⟨bx,off+k,none⟩=some (.slice ax x.length cx):=fun hb=>⟨aB (z0.cell (i:=0) rfl) hb,aB (z0.cell (i:=1) rfl) hb,aB (z0.cell (i:=2) rfl) hb,aB (z0.cell (i:=3) rfl) hb,aB (z5.cell (i:=0) rfl) hb,aB (z5.cell (i:=1) rfl) hb,aB (z5.cell (i:=2) rfl) hb,aB (z5.cell (i:=3) rfl) hb,aB (z5.cell (i:=4) rfl) hb,aB r0 hb⟩
          have Al:=HS (wl:=wr.drew) (Below.refl _ _).drew;have H0:=kF q _ wr.drew (aO.below HQ.out bw.drew) ax x.length cx x (bW.below HBX.out bw.drew);simp only[agg,List.toArray]at H0
          by_cases e0:ix (q.locals) x=some k
          .
           have ix0:=cJ e0;rw[ix0]at H0
           cases e1:ix (m.vars.map Va.name) x with
           | none=>
            have ix1:=cU e1
            cases e2:ix (m.procs.map Pr.name) x with
            | none=>
             have ix2:=cU e2;go_wp2_with fail
             refine wp_region_held_drew (S:=fun wl=>wl.cell? ⟨w.heap.size,0,none⟩=some (v0)/\wl.cell? ⟨w.heap.size,1,none⟩=some (v1)/\wl.cell? ⟨w.heap.size,2,none⟩=some (.slice av nv cv)/\wl.cell? ⟨w.heap.size,3,none⟩=some (.slice (some ⟨bp,ofp,none⟩) np cp)/\wl.cell? ⟨gP,0,none⟩=some (.slice an q.name.length cn)/\wl.cell? ⟨gP,1,none⟩=some (.bool q.opn)/\wl.cell? ⟨gP,2,none⟩=some (.slice aa na ca)/\wl.cell? ⟨gP,3,none⟩=some (.slice (some ⟨bx,off,none⟩) nl cl)/\wl.cell? ⟨gP,4,none⟩=some (.slice ab nb cb)/\wl.cell? ⟨bx,off+k,none⟩=some (.slice ax x.length cx)) V2 Al (fun Aa=>?_)
             refine ta 0 ?_ Aa;refine ta 1 ?_ Aa;refine ta 2 ?_ Aa;try simp only[nrm]
             refine ta 3 ?_ Aa;refine ta 4 ?_ Aa;refine ta 5 ?_ Aa;try simp only[nrm]
             refine ta 7 ?_ Aa;try simp only[nrm]
             refine ra 6 fun K hK=>?_
             go_simp
             (with_reducible refine H0.mono ?_)
             rintro r w0x ⟨rfl,hg0⟩
             have b0:Below wr.heap.size wr w0x:=(Below.refl wr.heap.size wr).drew.trans (aA hg0)
             have bw0:Below w.heap.size w w0x:=bw.trans (b0.mono bw.size)
             have HS1:=HS b0;have H1:=lV m _ w0x (aO.below HM.out bw0) ax x.length cx x (bW.below HBX.out bw0);simp only[agg,List.toArray]at H1;rw[ix1]at H1;go_wp2_with fail
             refine hK.out _ _ (HS1) (fun Aa=>?_)
             clear hK K;try simp only[nrm]
             refine ta 8 ?_ Aa;refine ta 9 ?_ Aa;try simp only[nrm]
             refine ta 10 ?_ Aa;refine ta 11 ?_ Aa;refine ta 12 ?_ Aa;try simp only[nrm]
             refine ta 13 ?_ Aa;refine ta 14 ?_ Aa;refine ta 15 ?_ Aa;try simp only[nrm]
             refine ra 16 fun K hK=>?_
             go_simp
             (with_reducible refine H1.mono ?_)
             rintro r w1x ⟨rfl,hg1⟩
             have b1:Below wr.heap.size wr w1x:=b0.trans ((aA hg1).mono b0.size)
             have bw1:Below w.heap.size w w1x:=bw.trans (b1.mono bw.size)
             have HS2:=HS b1;have H2:=jS m _ w1x (aO.below HM.out bw1) ax x.length cx x (bW.below HBX.out bw1);simp only[agg,List.toArray]at H2;rw[ix2]at H2;go_wp2_with fail
             refine hK.out _ _ (HS2) (fun Aa=>?_)
             clear hK K;try simp only[nrm]
             refine ta 17 ?_ Aa;refine ta 18 ?_ Aa;refine ta 19 ?_ Aa;try simp only[nrm]
             refine ta 20 ?_ Aa;refine ta 21 ?_ Aa;refine ta 22 ?_ Aa;try simp only[nrm]
             refine ta 23 ?_ Aa;refine ta 24 ?_ Aa;refine ta 25 ?_ Aa;try simp only[nrm]
             refine ra 26 fun K hK=>?_
             go_simp
             (with_reducible refine H2.mono ?_)
             rintro r w2x ⟨rfl,Be⟩
             have b2:Below wr.heap.size wr w2x:=b1.trans ((aA Be).mono b1.size)
             have bw2:Below w.heap.size w w2x:=bw.trans (b2.mono bw.size)
             have HS3:=HS b2;go_wp2_with fail
             refine hK.out _ _ (HS3) (fun Aa=>?_)
             clear hK K;try simp only[nrm]
             refine ta 27 ?_ Aa;refine ta 28 ?_ Aa;try simp only[nrm]
             refine wpAnyH_done V2 ?_ _
             have HG:Hid (w5.grownBy w2x none):=aD Hg.out (aI b2 none)
             have HV:Hid (∀i a,i<k+1->q.locals[i]?=some a->aJl m q i a):=fun i v hi hv=>by
              by_cases e:i=k
              .
               subst e;rw[HXJ.out]at hv;cases hv;exact⟨e0,e1,e2⟩
              .
               exact Af.out i v V6 hv
             clear HS Al Aa HS1 H0 hg0 HS2 H1 hg1 HS3 H2 Be;exact U127
            | some i2=>
             have ix2:=cJ e2;have i02:(0:Int)<=(i2:Int):=V6;go_wp2_with fail
             refine wp_region_held_drew (S:=fun wl=>wl.cell? ⟨w.heap.size,0,none⟩=some (v0)/\wl.cell? ⟨w.heap.size,1,none⟩=some (v1)/\wl.cell? ⟨w.heap.size,2,none⟩=some (.slice av nv cv)/\wl.cell? ⟨w.heap.size,3,none⟩=some (.slice (some ⟨bp,ofp,none⟩) np cp)/\wl.cell? ⟨gP,0,none⟩=some (.slice an q.name.length cn)/\wl.cell? ⟨gP,1,none⟩=some (.bool q.opn)/\wl.cell? ⟨gP,2,none⟩=some (.slice aa na ca)/\wl.cell? ⟨gP,3,none⟩=some (.slice (some ⟨bx,off,none⟩) nl cl)/\wl.cell? ⟨gP,4,none⟩=some (.slice ab nb cb)/\wl.cell? ⟨bx,off+k,none⟩=some (.slice ax x.length cx)) V2 Al (fun Aa=>?_)
             refine ta 0 ?_ Aa;refine ta 1 ?_ Aa;refine ta 2 ?_ Aa;try simp only[nrm]
             refine ta 3 ?_ Aa;refine ta 4 ?_ Aa;refine ta 5 ?_ Aa;try simp only[nrm]
             refine ta 7 ?_ Aa;try simp only[nrm]
             refine ra 6 fun K hK=>?_
             go_simp
             (with_reducible refine H0.mono ?_)
             rintro r w0x ⟨rfl,hg0⟩
             have b0:Below wr.heap.size wr w0x:=(Below.refl wr.heap.size wr).drew.trans (aA hg0)
             have bw0:Below w.heap.size w w0x:=bw.trans (b0.mono bw.size)
             have HS1:=HS b0;have H1:=lV m _ w0x (aO.below HM.out bw0) ax x.length cx x (bW.below HBX.out bw0);simp only[agg,List.toArray]at H1;rw[ix1]at H1;go_wp2_with fail
             refine hK.out _ _ (HS1) (fun Aa=>?_)
             clear hK K;try simp only[nrm]
             refine ta 8 ?_ Aa;refine ta 9 ?_ Aa;try simp only[nrm]
             refine ta 10 ?_ Aa;refine ta 11 ?_ Aa;refine ta 12 ?_ Aa;try simp only[nrm]
             refine ta 13 ?_ Aa;refine ta 14 ?_ Aa;refine ta 15 ?_ Aa;try simp only[nrm]
             refine ra 16 fun K hK=>?_
             go_simp
             (with_reducible refine H1.mono ?_)
             rintro r w1x ⟨rfl,hg1⟩
             have b1:Below wr.heap.size wr w1x:=b0.trans ((aA hg1).mono b0.size)
             have bw1:Below w.heap.size w w1x:=bw.trans (b1.mono bw.size)
             have HS2:=HS b1;have H2:=jS m _ w1x (aO.below HM.out bw1) ax x.length cx x (bW.below HBX.out bw1);simp only[agg,List.toArray]at H2;rw[ix2]at H2;go_wp2_with fail
             refine hK.out _ _ (HS2) (fun Aa=>?_)
             clear hK K;try simp only[nrm]
             refine ta 17 ?_ Aa;refine ta 18 ?_ Aa;refine ta 19 ?_ Aa;try simp only[nrm]
             refine ta 20 ?_ Aa;refine ta 21 ?_ Aa;refine ta 22 ?_ Aa;try simp only[nrm]
             refine ta 23 ?_ Aa;refine ta 24 ?_ Aa;refine ta 25 ?_ Aa;try simp only[nrm]
             refine ra 26 fun K hK=>?_
             go_simp
             (with_reducible refine H2.mono ?_)
             rintro r w2x ⟨rfl,Be⟩
             have b2:Below wr.heap.size wr w2x:=b1.trans ((aA Be).mono b1.size)
             have bw2:Below w.heap.size w w2x:=bw.trans (b2.mono bw.size)
             have HS3:=HS b2;go_wp2_with fail
             refine hK.out _ _ (HS3) (fun Aa=>?_)
             clear hK K;try simp only[nrm]
             refine ta 27 ?_ Aa;refine ta 28 ?_ Aa;try simp only[nrm]
             refine wpAnyH_done V2 ?_ _
             have HF:Hid (nmB m=false):=nF (fun hh=>by have hv:=(hh.2 j q HQJ.out).2.2 k x HXJ.out;simp only[aJl,e2]at hv;simp at hv)
             have HG:Hid (w.grownBy w2x none):=aI bw2 none
             clear HS Al Aa HS1 H0 hg0 HS2 H1 hg1 HS3 H2 Be;exact U50
           | some i1=>
            have ix1:=cJ e1;have i01:(0:Int)<=(i1:Int):=V6;go_wp2_with fail
            refine wp_region_held_drew (S:=fun wl=>wl.cell? ⟨w.heap.size,0,none⟩=some (v0)/\wl.cell? ⟨w.heap.size,1,none⟩=some (v1)/\wl.cell? ⟨w.heap.size,2,none⟩=some (.slice av nv cv)/\wl.cell? ⟨w.heap.size,3,none⟩=some (.slice (some ⟨bp,ofp,none⟩) np cp)/\wl.cell? ⟨gP,0,none⟩=some (.slice an q.name.length cn)/\wl.cell? ⟨gP,1,none⟩=some (.bool q.opn)/\wl.cell? ⟨gP,2,none⟩=some (.slice aa na ca)/\wl.cell? ⟨gP,3,none⟩=some (.slice (some ⟨bx,off,none⟩) nl cl)/\wl.cell? ⟨gP,4,none⟩=some (.slice ab nb cb)/\wl.cell? ⟨bx,off+k,none⟩=some (.slice ax x.length cx)) V2 Al (fun Aa=>?_)
            refine ta 0 ?_ Aa;refine ta 1 ?_ Aa;refine ta 2 ?_ Aa;try simp only[nrm]
            refine ta 3 ?_ Aa;refine ta 4 ?_ Aa;refine ta 5 ?_ Aa;try simp only[nrm]
            refine ta 7 ?_ Aa;try simp only[nrm]
            refine ra 6 fun K hK=>?_
            go_simp
            (with_reducible refine H0.mono ?_)
            rintro r w0x ⟨rfl,hg0⟩
            have b0:Below wr.heap.size wr w0x:=(Below.refl wr.heap.size wr).drew.trans (aA hg0)
            have bw0:Below w.heap.size w w0x:=bw.trans (b0.mono bw.size)
            have HS1:=HS b0;have H1:=lV m _ w0x (aO.below HM.out bw0) ax x.length cx x (bW.below HBX.out bw0);simp only[agg,List.toArray]at H1;rw[ix1]at H1;go_wp2_with fail
            refine hK.out _ _ (HS1) (fun Aa=>?_)
            clear hK K;try simp only[nrm]
            refine ta 8 ?_ Aa;refine ta 9 ?_ Aa;try simp only[nrm]
            refine ta 10 ?_ Aa;refine ta 11 ?_ Aa;refine ta 12 ?_ Aa;try simp only[nrm]
            refine ta 13 ?_ Aa;refine ta 14 ?_ Aa;refine ta 15 ?_ Aa;try simp only[nrm]
            refine ra 16 fun K hK=>?_
            go_simp
            (with_reducible refine H1.mono ?_)
            rintro r w1x ⟨rfl,hg1⟩
            have b1:Below wr.heap.size wr w1x:=b0.trans ((aA hg1).mono b0.size)
            have bw1:Below w.heap.size w w1x:=bw.trans (b1.mono bw.size)
            have HS2:=HS b1;go_wp2_with fail
            refine hK.out _ _ (HS2) (fun Aa=>?_)
            clear hK K;try simp only[nrm]
            refine ta 17 ?_ Aa;refine ta 18 ?_ Aa;refine ta 19 ?_ Aa;try simp only[nrm]
            refine sa 20 ?_ Aa;refine sa 21 ?_ Aa;refine sa 22 ?_ Aa;try simp only[nrm]
            refine sa 23 ?_ Aa;refine sa 24 ?_ Aa;refine sa 25 ?_ Aa;try simp only[nrm]
            refine sa 26 ?_ Aa;refine sa 27 ?_ Aa;try simp only[nrm]
            refine ta 28 ?_ Aa;try simp only[nrm]
            refine wpAnyH_done V2 ?_ _
            have HF:Hid (nmB m=false):=nF (fun hh=>by have hv:=(hh.2 j q HQJ.out).2.2 k x HXJ.out;simp only[aJl,e1]at hv;simp at hv)
            have HG:Hid (w.grownBy w1x none):=aI bw1 none
            clear HS Al Aa HS1 H0 hg0 HS2 H1 hg1;exact U50
          .
           have ne0:=wJ e0;generalize ixI (q.locals) x=i0 at H0 ne0;go_wp2_with fail
           refine wp_region_held_drew (S:=fun wl=>wl.cell? ⟨w.heap.size,0,none⟩=some (v0)/\wl.cell? ⟨w.heap.size,1,none⟩=some (v1)/\wl.cell? ⟨w.heap.size,2,none⟩=some (.slice av nv cv)/\wl.cell? ⟨w.heap.size,3,none⟩=some (.slice (some ⟨bp,ofp,none⟩) np cp)/\wl.cell? ⟨gP,0,none⟩=some (.slice an q.name.length cn)/\wl.cell? ⟨gP,1,none⟩=some (.bool q.opn)/\wl.cell? ⟨gP,2,none⟩=some (.slice aa na ca)/\wl.cell? ⟨gP,3,none⟩=some (.slice (some ⟨bx,off,none⟩) nl cl)/\wl.cell? ⟨gP,4,none⟩=some (.slice ab nb cb)/\wl.cell? ⟨bx,off+k,none⟩=some (.slice ax x.length cx)) V2 Al (fun Aa=>?_)
           refine ta 0 ?_ Aa;refine ta 1 ?_ Aa;refine ta 2 ?_ Aa;try simp only[nrm]
           refine ta 3 ?_ Aa;refine ta 4 ?_ Aa;refine ta 5 ?_ Aa;try simp only[nrm]
           refine ta 7 ?_ Aa;try simp only[nrm]
           refine ra 6 fun K hK=>?_
           go_simp
           (with_reducible refine H0.mono ?_)
           rintro r w0x ⟨rfl,hg0⟩
           have b0:Below wr.heap.size wr w0x:=(Below.refl wr.heap.size wr).drew.trans (aA hg0)
           have bw0:Below w.heap.size w w0x:=bw.trans (b0.mono bw.size)
           have HS1:=HS b0;go_wp2_with fail
           refine hK.out _ _ (HS1) (fun Aa=>?_)
           clear hK K;try simp only[nrm]
           refine ta 8 ?_ Aa;refine ta 9 ?_ Aa;try simp only[nrm]
           refine sa 10 ?_ Aa;refine sa 11 ?_ Aa;refine sa 12 ?_ Aa;try simp only[nrm]
           refine sa 13 ?_ Aa;refine sa 14 ?_ Aa;refine sa 15 ?_ Aa;try simp only[nrm]
           refine sa 16 ?_ Aa;refine sa 17 ?_ Aa;try simp only[nrm]
           refine ta 18 ?_ Aa;refine ta 19 ?_ Aa;try simp only[nrm]
           refine sa 20 ?_ Aa;refine sa 21 ?_ Aa;refine sa 22 ?_ Aa;try simp only[nrm]
           refine sa 23 ?_ Aa;refine sa 24 ?_ Aa;refine sa 25 ?_ Aa;try simp only[nrm]
           refine sa 26 ?_ Aa;refine sa 27 ?_ Aa;try simp only[nrm]
           refine ta 28 ?_ Aa;try simp only[nrm]
           refine wpAnyH_done V2 ?_ _
           have HF:Hid (nmB m=false):=nF (fun hh=>by have hv:=(hh.2 j q HQJ.out).2.2 k x HXJ.out;exact e0 hv.1)
           have HG:Hid (w.grownBy w0x none):=aI bw0 none
           clear HS Al Aa HS1 H0 hg0;exact U50
         .
          have:nl=k:=V6
          subst this
          have HLS:Hid (∀i x,q.locals[i]?=some x->aJl m q i x):=fun i v hv=>Af.out i v (by have:=dY hv;rw[HNL.out]at this;exact this) hv
          have HQS:Hid (∀i q,i<j+1->m.procs[i]?=some q->aMo m i q):=fun i v hi hv=>by
           by_cases e:i=j
           .
            subst e;rw[HQJ.out]at hv;cases hv;exact⟨HEQ.out,HPS.out,HLS.out⟩
           .
            exact hallq.out i v V6 hv
          have HG:Hid (w2.grownBy wr none):=aD G25.out hg
          clear Af Hg hg z0 z5 yw bw;go_wp2_with fail;go_roundw
          case rel=>exact⟨j+1,by omega,by go_num,HQS,HG⟩
          case measure=>simp[intOf];omega
     .
      have ne0:=wJ e0
      have HF:Hid (nmB m=false):=nF (fun hh=>e0 (hh.2 j q HQJ.out).1)
      generalize ixI (m.procs.map Pr.name) q.name=i0 at H1 ne0;clear e0;go_wp2_with fail;refine H1.mono ?_;rintro r w6 ⟨rfl,hg6⟩;have yg:=aD y5 hg6;clear H1 k0 k1 k2 k3 q0 z05 z5 y5 hg6;exact U136
    .
     have:np=j:=V6
     subst this
     have HF:Hid (nmB m=true):=aGa ⟨HVS.out,fun i v hv=>hallq.out i v (by have:=dY hv;rw[HNP.out]at this;exact this) hv⟩
     clear hallq;go_wp2_with fail;go_ret;exact⟨aE HF.out.symm,yw⟩
end Go.Proofs.YtnelibmaancmkaaGreatDoor

import Derived.Test.YtegkhlkjfeafjaaGreatDoorPackH
namespace Go.Proofs.YtegkhlkjfeafjaaGreatDoor
open Go.RowKit
set_option linter.unusedVariables false
set_option linter.unusedSimpArgs false
set_option maxRecDepth 100000
theorem U280{p:Prop}(h:p:=by
 go_wp2
 go_ret
 exact⟨aE HE.out.symm,HB.out⟩):p:=h
theorem U311{p:Prop}(h:p:=by
 go_wp2
 go_roundw
 case rel=>exact⟨j+1,by omega,by go_num,HN,HG⟩
 case measure=>simp[intOf];omega):p:=h
theorem M948{p q:Prop}(k:q)(h:Kx q->p:=by
 intro kQ
 try simp only[nrm]
 refine sa 22 ?_
 refine sa 23 ?_
 refine sa 24 ?_
 try simp only[nrm]
 refine sa 25 ?_
 refine sa 26 ?_
 refine sa 27 ?_
 try simp only[nrm]
 refine sa 28 ?_
 refine sa 29 ?_
 exact kQ.o):p:=h ⟨k⟩
theorem M9215{p q:Prop}(k:q)(h:Kx q->p:=by
 intro kQ
 refine ta 12 ?_
 refine ta 13 ?_
 refine ta 14 ?_
 try simp only[nrm]
 refine ta 15 ?_
 refine ta 16 ?_
 refine ta 17 ?_
 try simp only[nrm]
 refine ta 18 ?_
 exact kQ.o):p:=h ⟨k⟩
theorem M9224{p q:Prop}(k:q)(h:Kx q->p:=by
 intro kQ
 refine ta 12 ?_
 refine ta 13 ?_
 refine ta 14 ?_
 try simp only[nrm]
 refine ta 15 ?_
 refine ta 16 ?_
 refine ta 17 ?_
 exact kQ.o):p:=h ⟨k⟩
theorem M9137{p q:Prop}(k:q)(h:Kx q->p:=by
 intro kQ
 try simp only[nrm]
 refine ta 30 ?_
 refine ta 31 ?_
 try simp only[nrm]
 exact kQ.o):p:=h ⟨k⟩
theorem M9148{p q:Prop}(k:q)(h:Kx q->p:=by
 intro kQ
 try simp only[nrm]
 refine sa 18 ?_
 refine sa 19 ?_
 refine sa 20 ?_
 try simp only[nrm]
 exact kQ.o):p:=h ⟨k⟩
theorem M9169{p q:Prop}(k:q)(h:Kx q->p:=by
 intro kQ
 try simp only[nrm]
 refine sa 19 ?_
 refine sa 20 ?_
 refine sa 21 ?_
 exact kQ.o):p:=h ⟨k⟩
theorem M9176{p q:Prop}(k:q)(h:Kx q->p:=by
 intro kQ
 refine ta 7 ?_
 refine ta 8 ?_
 try simp only[nrm]
 refine sa 9 ?_
 refine sa 10 ?_
 refine sa 11 ?_
 try simp only[nrm]
 refine sa 12 ?_
 try simp only[nrm]
 exact kQ.o):p:=h ⟨k⟩
noncomputable def aN2 (ck:Mo->List Fa->Int) (fc:Mo->Fa) (x:Wd):Bool:=
 decide (1<=x.mods.length) && (decide (x.mods.length<=8) && (decide (x.faces.length=x.mods.length) && (decide (x.script.length<=2000) && (fsB x.faces && (aN6 ck fc x.mods x.faces && (x.script.all (aOj x.faces) && aOa (x.faces[x.faces.length-1]?.getD ⟨[],[]⟩)))))))
theorem aQj {ck:Mo->List Fa->Int}{fc:Mo->Fa}{x:Wd}(h:aN6 ck fc x.mods x.faces=false):aN2 ck fc x=false:=by unfold aN2;rw[h];simp
theorem aOe {ck:Mo->List Fa->Int}{fc:Mo->Fa}{x:Wd}(h:x.script.all (aOj x.faces)=false):aN2 ck fc x=false:=by unfold aN2;rw[h];simp
theorem aO8 {ck:Mo->List Fa->Int}{fc:Mo->Fa}{l:List Mo}{fs:List Fa}{j:Nat}(hj:j<l.length)(h:aN7 ck fc fs (l[j]?.getD ⟨[],[],[],[]⟩) j=false):aN6 ck fc l fs=false:=by
 unfold aN6;rw[zH3]
 exact⟨j,List.mem_range.2 hj,by rw[h];simp⟩
set_option maxHeartbeats 16000000 in
theorem aPl (ck:Mo->List Fa->Int)(fc:Mo->Fa)(HC:aRk 14 (fun _=>True) ck)(HO:aRj 16 (fun _=>True) fc)(x:Wd)(vs:List Value)(w:World)(h:aO w x.fl vs)(hs:aH x.fl<=1048576):
  Calls Tryz.prog 5 #[.agg vs.toArray] w fun e w'=>e=.returned (.bool (aN2 ck fc x))/\Below w.heap.size w w':=by
 obtain⟨hsm,hsf⟩:=aPv hs;obtain⟨v0,_,rfl,hm',v1,_,rfl,hf',v2,_,rfl,hs',rfl⟩:=h;obtain⟨am,cm,rfl,hm⟩:=hm'.list;obtain⟨af,cf,rfl,hf⟩:=hf'.list;obtain⟨az,cs,rfl,hz⟩:=hs'.list;have hm9:=hm.len9;have hf9:=hf.len9;have hz9:=hz.len9;have hfc:=hf.cap;rw[zB2]at hm9 hf9 hz9 hfc;rw[zB2,zB2,zB2];have HSM:=hid hsm;have HFS:=hid hsf;have HLM:=hid hm;have HLF:=hid hf;have HLS:=hid hz
 obtain⟨nm,hnm⟩:∃q,q=x.mods.length:=⟨_,rfl⟩
 obtain⟨nf,hnf⟩:∃q,q=x.faces.length:=⟨_,rfl⟩
 obtain⟨ns,hns⟩:∃q,q=x.script.length:=⟨_,rfl⟩
 have HNM:=hid hnm.symm;have HNF:=hid hnf.symm;have HNS:=hid hns.symm;rw[<-hnm]at hm9 ⊢;rw[<-hnf]at hf9 hfc ⊢;rw[<-hns]at hz9 ⊢;have xW:=Blk.new w 33 [.slice am nm cm,.slice af nf cf,.slice az ns cs]
 have y0:Below w.heap.size w (w.alloc (.cells #[.slice am nm cm,.slice af nf cf,.slice az ns cs] 33 (0,0))):=(zD2 _ _).alloc (zB0 _) _
 simp only[List.toArray]at xW;clear hm hf hz hm' hf' hs' hs hsm hsf hnm hnf hns
 show Calls Tryz.prog 5 #[.agg #[.slice am nm cm,.slice af nf cf,.slice az ns cs]] w _
 go_enter Tryz.func5,Tryz.ntmps5;go_upto_region 2 with fail;generalize w.alloc (.cells #[.slice am nm cm,.slice af nf cf,.slice az ns cs] 33 (0,0))=w0 at *;have q1:=xW.k 1;have q2:=xW.k 2
 by_cases h1:1<=nm
 case neg=>
  have l1:(nm:Int)<1:=V6
  have HE:Hid (aN2 ck fc x=false):=by show _=_;unfold aN2;rw[HNM.out];simp[h1]
  have HB:=hid y0;clear xW y0;exact U280
 by_cases h2:nm<=8
 case neg=>
  have l1:¬((nm:Int)<1):=V6
  have l2:(nm:Int) > 8:=V6
  have HE:Hid (aN2 ck fc x=false):=by show _=_;unfold aN2;rw[HNM.out];simp[h2]
  have HB:=hid y0;clear xW y0;exact U280
 have l1:¬((nm:Int)<1):=V6
 have l2:¬((nm:Int) > 8):=V6
 by_cases h3:nf=nm
 case neg=>
  have l3:((nf:Int) != (nm:Int))=true:=by simp;omega
  have HE:Hid (aN2 ck fc x=false):=by show _=_;unfold aN2;rw[HNM.out,HNF.out];simp[h3]
  have HB:=hid y0;clear xW y0 h3;exact U280
 have l3:((nf:Int) != (nm:Int))=false:=by simp;omega
 by_cases h4:ns<=2000
 case neg=>
  have l4:(ns:Int) > 2000:=V6
  have HE:Hid (aN2 ck fc x=false):=by show _=_;unfold aN2;rw[HNS.out];simp[h4]
  have HB:=hid y0;clear xW y0 h3;exact U280
 have l4:¬((ns:Int) > 2000):=V6
 have HFO0:=zF x.faces af nf cf w0 (aS.below HLF.out y0) HNF.out HFS.out
 cases hfb:fsB x.faces
 case false=>
  rw[hfb]at HFO0
  have HE:Hid (aN2 ck fc x=false):=by show _=_;unfold aN2;rw[hfb];simp
  have hq3:nf<=nm/\nm<=nf:=V6;clear h3;go_wp2_with fail;refine HFO0.mono ?_;rintro e w1 ⟨rfl,g1⟩;have HB:=hid (y0.trans ((aA g1).mono y0.size));clear HFO0 xW y0 g1 q1 q2;exact U280
 rw[hfb]at HFO0;have HFB:=hid hfb;have hq3:nf<=nm/\nm<=nf:=V6;clear h3 hfb;go_wp2_with fail;refine HFO0.mono ?_;rintro e w1 ⟨rfl,g1⟩;have y1:=hid (y0.trans ((aA g1).mono y0.size));have xW1:=hid (xW.below (aA g1) xW.lt);clear HFO0 xW y0 g1 q1 q2;go_wp2_with fail
 go_loopw [4] (fun i wr=>∃j:Nat,j<=nm/\i=.int .i64 j/\Hid (∀i,i<j->aN7 ck fc x.faces (x.mods[i]?.getD ⟨[],[],[],[]⟩) i=true)/\Hid (w1.grownBy wr none)) (fun i _=>nm-(intOf i).toNat)
 case atStart=>exact⟨0,zD1 _,rfl,V101,aN0 _ _⟩
 case round=>
  obtain⟨j,hj,rfl,Af,hg⟩:=hrel
  by_cases Ai:j<nm
  .
   obtain⟨x0,hx⟩:∃x0,x.mods[j]?=some x0:=⟨_,zA0 (by rw[HNM.out];exact Ai)⟩
   obtain⟨y,hy⟩:∃y,x.faces[j]?=some y:=⟨_,zA0 (by rw[HNF.out];omega)⟩
   have HX:Hid (aN7 ck fc x.faces (x.mods[j]?.getD ⟨[],[],[],[]⟩) j=(decide (x0.name.length=0) || (decide (ck x0 (x.faces.take j)=0) && aN3 (fc x0) y))):=by show _=_;rw[hx];unfold aN7;rw[hy];rfl
   have hsx:=HSM.out x0 (zA3 hx);have HSC:=aO1 x.mods am nm cm (.slice af nf cf) (.slice az ns cs) j x0 wr (aS.below HLM.out (y1.out.trans ((aA hg.out).mono y1.out.size))) HNM.out hx
   obtain⟨bm,om,ys,rfl,hys,Ab⟩:=aS.cellsAt HLM.out (show(x.mods.map Mo.fl)[j]?=some x0.fl by rw[zA2,hx];rfl)
   obtain⟨bf,of,zs,rfl,hzs,hcz⟩:=aS.cellsAt HLF.out (show(x.faces.map Fa.fl)[j]?=some y.fl by rw[zA2,hy];rfl)
   have hys':=hys;have hzs':=hzs;obtain⟨s0,_,rfl,⟨a0,c0,rfl,_,hq1,hq2,_⟩,s1,_,rfl,hl1,s2,_,rfl,hl2,s3,_,rfl,hl3,rfl⟩:=hys';obtain⟨a1,c1,rfl,_⟩:=hl1.list;obtain⟨a2,c2,rfl,_⟩:=hl2.list;obtain⟨a3,c3,rfl,_⟩:=hl3.list;obtain⟨t0,_,rfl,⟨i0,j0,rfl,_⟩,t1,_,rfl,hl4,rfl⟩:=hzs';obtain⟨i1,j1,rfl,_⟩:=hl4.list;have bw:=y1.out.trans ((aA hg.out).mono y1.out.size);refine M9162 ?_;intro p0 p1 p2 p3;have r0:=aB (hcz 0 _ rfl) bw;have r1:=aB (hcz 1 _ rfl) bw;rw[zG2]at p0 r0
   have HCK:Hid (∀w2,Below w.heap.size w w2->Calls Tryz.prog 14 #[.agg #[.slice a0 x0.name.length c0,.slice a1 (bH x0.uses).length c1,.slice a2 (x0.vars.map Va.fl).length c2,.slice a3 (x0.procs.map Pr.fl).length c3],.slice (some ⟨bf,of,none⟩) j cf] w2 fun e w'=>e=.returned (.int .i64 (ck x0 (x.faces.take j)))/\w2.grownBy w' none):=fun w2 hb=>
    HC x0 (x.faces.take j) _ _ j cf w2 trivial (hys.below hb) hsx (by have:=(aS.take HLF.out j).below hb;rwa [<-List.map_take]at this) (by rw[List.length_take,HNF.out];omega) (fun f hf=>HFS.out f (List.mem_of_mem_take hf))
   have HFO:Hid (∀w2,Below w.heap.size w w2->Calls Tryz.prog 16 #[.agg #[.slice a0 x0.name.length c0,.slice a1 (bH x0.uses).length c1,.slice a2 (x0.vars.map Va.fl).length c2,.slice a3 (x0.procs.map Pr.fl).length c3]] w2 fun e w'=>∃nv pv,e=.returned (.agg #[nv,pv])/\aO w' (fc x0).fl [nv,pv]/\w2.grownBy w' none):=fun w2 hb=>HO x0 _ w2 trivial (hys.below hb) hsx
   have HLK:Hid (∀w2 nv pv,Below w.heap.size w w2->aO w2 (fc x0).fl [nv,pv]->Calls Tryz.prog 15 #[.agg #[nv,pv],.agg #[.slice i0 y.name.length j0,.slice i1 (y.procs.map Fp.fl).length j1]] w2 fun e w'=>e=.returned (.bool (aN3 (fc x0) y))/\w2.grownBy w' none):=fun w2 nv pv hb hr=>aO2 (fc x0) y _ _ w2 hr (hzs.below hb)
   clear Ab hcz hx hy hys hzs hl1 hl2 hl3 hl4 hsx hq1 hq2;generalize (bH x0.uses).length=n1 at *;generalize (x0.vars.map Va.fl).length=n2 at *;generalize (x0.procs.map Pr.fl).length=n3 at *;generalize y.name.length=m0 at *;generalize (y.procs.map Fp.fl).length=m1 at *;generalize hn0':x0.name.length=n0 at *;clear hn0';have hjn:(j:Int)<(nm:Int):=V6;have hjf:(j:Int)<(nf:Int):=V6;have hjc:(j:Int)<=(cf:Int):=V6;have xW:=(xW1.out.below (aA hg.out) xW1.out.lt);obtain⟨b0,b1,b2⟩:=xW.c3;generalize hcv:ck x0 (x.faces.take j)=cv at HX HCK;generalize hlk:aN3 (fc x0) y=lk at HX HLK;clear hcv hlk
   by_cases hz:n0=0
   .
    have hzb:((n0:Int) == 0)=true:=by simp;omega
    rw[hzb]at HSC
    have HN:Hid (∀i,i<j+1->aN7 ck fc x.faces (x.mods[i]?.getD ⟨[],[],[],[]⟩) i=true):=by
     intro i hi
     by_cases e:i=j
     .
      rw[e,HX.out];simp[hz]
     .
      exact Af.out i V6
    clear hz hzb;go_wp2_with fail;refine HSC.mono ?_;rintro e w2 ⟨rfl,g2⟩;have HG:=hid (aD hg.out g2);clear HSC g2 b0 b1 b2 p0 p1 p2 p3 r0 r1 xW bw;exact U311
   .
    have hzb:((n0:Int) == 0)=false:=by simp;omega
    rw[hzb]at HSC;go_wp2_with fail;refine HSC.mono ?_;rintro e w2 ⟨rfl,g2⟩;have G2:=aD hg.out g2;have bb:=aA g2;replace p0:=aB p0 bb;replace p1:=aB p1 bb;replace p2:=aB p2 bb;replace p3:=aB p3 bb;replace r0:=aB r0 bb;replace r1:=aB r1 bb;replace b0:=aB b0 bb;replace b1:=aB b1 bb;clear HSC b2 xW
    have HS1:Hid (∀wl:World,Below w2.heap.size w2 wl->wl.cell? ⟨w.heap.size,0,none⟩=some (.slice (some ⟨bm,om,none⟩) nm cm)/\wl.cell? ⟨w.heap.size,1,none⟩=some (.slice (some ⟨bf,of,none⟩) nf cf)/\wl.cell? ⟨bm,om+j*4,none⟩=some (.slice a0 n0 c0)/\wl.cell? ⟨bm,om+j*4+1,none⟩=some (.slice a1 n1 c1)/\wl.cell? ⟨bm,om+j*4+2,none⟩=some (.slice a2 n2 c2)/\wl.cell? ⟨bm,om+j*4+3,none⟩=some (.slice a3 n3 c3)/\wl.cell? ⟨bf,of+j*2,none⟩=some (.slice i0 m0 j0)/\wl.cell? ⟨bf,of+j*2+1,none⟩=some (.slice i1 m1 j1)):=fun wl hb=>⟨aB b0 hb,aB b1 hb,aB p0 hb,aB p1 hb,aB p2 hb,aB p3 hb,aB r0 hb,aB r1 hb⟩
    have yw2:=bw.trans (bb.mono bw.size);clear p0 p1 p2 p3 r0 r1 b0 b1 bw bb g2;go_wp2_with fail
    have bd:Below w2.heap.size w2 w2.drew:=(zD2 _ _).drew
    have hS0:=HS1.out _ bd
    refine zK3 (S:=fun wl=>wl.cell? ⟨w.heap.size,0,none⟩=some (.slice (some ⟨bm,om,none⟩) nm cm)/\wl.cell? ⟨w.heap.size,1,none⟩=some (.slice (some ⟨bf,of,none⟩) nf cf)/\wl.cell? ⟨bm,om+j*4,none⟩=some (.slice a0 n0 c0)/\wl.cell? ⟨bm,om+j*4+1,none⟩=some (.slice a1 n1 c1)/\wl.cell? ⟨bm,om+j*4+2,none⟩=some (.slice a2 n2 c2)/\wl.cell? ⟨bm,om+j*4+3,none⟩=some (.slice a3 n3 c3)/\wl.cell? ⟨bf,of+j*2,none⟩=some (.slice i0 m0 j0)/\wl.cell? ⟨bf,of+j*2+1,none⟩=some (.slice i1 m1 j1)) V90 hS0 (fun Aa=>?_)
    refine M94 ?_;refine ta 6 ?_;refine ta 7 ?_;refine ta 8 ?_;try simp only[nrm]
    have HK:=HCK.out w2.drew (yw2.trans (bd.mono yw2.size))
    by_cases hcv:cv=0
    .
     subst hcv
     refine ra 9 fun K hK=>?_
     go_simp
     (with_reducible refine HK.mono ?_)
     rintro e w3 ⟨rfl,g3⟩;have b3:=bd.trans (aA g3);have hS3:=HS1.out _ b3;go_wp2_with fail
     refine hK.out _ _ (hS3) (fun Aa=>?_)
     clear hK K;try simp only[nrm]
     refine ta 10 ?_;refine ta 11 ?_;refine ta 12 ?_;refine M965 ?_;refine ta 16 ?_;refine ta 18 ?_;refine ta 19 ?_;try simp only[nrm]
     refine ta 20 ?_;refine ta 21 ?_;refine ta 22 ?_;try simp only[nrm]
     have HF:=HFO.out w3 (yw2.trans (b3.mono yw2.size))
     refine ra 17 fun K hK=>?_
     go_simp
     (with_reducible refine HF.mono ?_)
     rintro e w4 ⟨nv,pv,rfl,hr4,g4⟩;have b4:=b3.trans ((aA g4).mono b3.size);have hS4:=HS1.out _ b4;go_wp2_with fail
     refine hK.out _ _ (hS4) (fun Aa=>?_)
     clear hK K;try simp only[nrm]
     have HL:=HLK.out w4 nv pv (yw2.trans (b4.mono yw2.size)) hr4
     refine ra 23 fun K hK=>?_
     go_simp
     (with_reducible refine HL.mono ?_)
     rintro e w5 ⟨rfl,g5⟩;have b5:=b4.trans ((aA g5).mono b4.size);have hS5:=HS1.out _ b5;go_wp2_with fail
     refine hK.out _ _ (hS5) (fun Aa=>?_)
     clear hK K;try simp only[nrm]
     cases lk
     .
      refine ta 24 ?_;refine ta 25 ?_;try simp only[nrm]
      refine zL0 V90 ?_ _
      have HE:Hid (aN2 ck fc x=false):=by
       show _=_
       refine aQj (aO8 (j:=j) (by rw[HNM.out];exact Ai) ?_)
       rw[HX.out]
       simp[hz]
      have HB:=hid (yw2.trans (b5.mono yw2.size));clear Aa hS0 hS3 hS4 hS5 HK HF HL HCK HFO HLK b3 b4 b5 g3 g4 g5 hr4 bd;exact U280
     .
      refine ta 24 ?_;refine ta 25 ?_;try simp only[nrm]
      refine zL0 V90 ?_ _
      have HN:Hid (∀i,i<j+1->aN7 ck fc x.faces (x.mods[i]?.getD ⟨[],[],[],[]⟩) i=true):=by
       intro i hi
       by_cases e:i=j
       .
        rw[e,HX.out];simp
       .
        exact Af.out i V6
      have HG:=hid (aD G2 (aI b5 none));clear Aa hS0 hS3 hS4 hS5 HK HF HL HCK HFO HLK b3 b4 b5 g3 g4 g5 hr4 bd yw2 G2;exact U311
    .
     have hcb:(cv != 0)=true:=by simpa using hcv
     refine ra 9 fun K hK=>?_
     go_simp
     (with_reducible refine HK.mono ?_)
     rintro e w3 ⟨rfl,g3⟩;have b3:=bd.trans (aA g3);have hS3:=HS1.out _ b3;go_wp2_with fail
     refine hK.out _ _ (hS3) (fun Aa=>?_)
     clear hK K;refine M9138 ?_;refine sa 12 ?_;refine sa 13 ?_;refine sa 14 ?_;try simp only[nrm]
     refine sa 15 ?_;refine sa 16 ?_;refine sa 17 ?_;refine M9148 ?_;refine sa 21 ?_;refine sa 22 ?_;refine sa 23 ?_;try simp only[nrm]
     refine sa 24 ?_;try simp only[nrm]
     refine ta 25 ?_;try simp only[nrm]
     refine zL0 V90 ?_ _
     have HE:Hid (aN2 ck fc x=false):=by
      show _=_
      refine aQj (aO8 (j:=j) (by rw[HNM.out];exact Ai) ?_)
      rw[HX.out]
      simp[hz,hcv]
     have HB:=hid (yw2.trans (b3.mono yw2.size));clear Aa hS0 hS3 HK HCK HFO HLK b3 g3 bd;exact U280
  .
   have:nm=j:=V6
   subst this
   have HMB:aN6 ck fc x.mods x.faces=true:=by
    unfold aN6;rw[zF3];intro i hi
    exact Af.out i (by rw[<-HNM.out];exact List.mem_range.1 hi)
   replace HMB:Hid (aN6 ck fc x.mods x.faces=true):=HMB
   have xw:=(xW1.out.below (aA hg.out) xW1.out.lt);have b2:=xw.k 2;clear Af xw;go_wp2_with fail;have HG0:=hid hg;clear b2 hg
   go_loopw [5,6] (fun i _ wr=>∃j:Nat,j<=ns/\i=.int .i64 j/\Hid (∀u,u<j->aOj x.faces (x.script[u]?.getD ⟨0,0,0,[],0⟩)=true)/\Hid (w1.grownBy wr none)) (fun i _ _=>ns-(intOf i).toNat)
   case atStart=>exact⟨0,zD1 _,rfl,V101,HG0⟩
   case round=>
    obtain⟨j,hj,rfl,Af,hg⟩:=hrel;clear HG0
    by_cases Ai:j<ns
    .
     obtain⟨z,hz⟩:∃z,x.script[j]?=some z:=⟨_,zA0 (by rw[HNS.out];exact Ai)⟩
     have HZJ:=hid hz
     have HZM:Hid (z ∈ x.script):=zA3 hz
     have bw:=y1.out.trans ((aA hg.out).mono y1.out.size)
     obtain⟨bz,oz,ys,rfl,hys,Ab⟩:=aS.cellsAt HLS.out (show(x.script.map Ac.fl)[j]?=some z.fl by rw[zA2,hz];rfl)
     obtain⟨s0,_,rfl,rfl,s1,_,rfl,rfl,s2,_,rfl,rfl,s3,_,rfl,hl3,s4,_,rfl,rfl,rfl⟩:=hys;obtain⟨aa,ca,rfl,hla⟩:=hl3.list;rw[zB2]at Ab;refine M9162 ?_;intro p0 p1 p2 p3;have p4:=aB (Ab 4 _ rfl) bw;rw[zG2]at p0
     have HAC:Hid (aOj x.faces z=(rng z.kind 0 4 && decide (z.args.length<=4) && z.args.all aOk && aOq z.n && (decide (z.kind ≠ 0) || (rng z.to 0 ((nf:Int)-1) && rng z.proc 0 (((x.faces[z.to.toNat]?.getD ⟨[],[]⟩).procs.length:Int)-1))))):=by show _=_;rw[<-HNF.out];rfl
     have HLA:=hid hla
     obtain⟨na,hna⟩:∃q,q=z.args.length:=⟨_,rfl⟩
     have HNA:=hid hna.symm;rw[<-hna]at p3 HAC;generalize z.kind=kd at *;generalize z.to=tt at *;generalize z.proc=pp at *;generalize z.n=nn at *;generalize hal:z.args.all aOk=al at *;have HAL:=hid hal;clear hz Ab hl3 hla hna hal;have xW:=(xW1.out.below (aA hg.out) xW1.out.lt);have q2:=xW.k 2;have xA:=Blk.new wr 56 [.int .i64 kd,.int .i64 tt,.int .i64 pp,.slice aa na ca,.int .i64 nn]
     have yA:Below wr.heap.size wr (wr.alloc (.cells #[.int .i64 kd,.int .i64 tt,.int .i64 pp,.slice aa na ca,.int .i64 nn] 56 (0,0))):=(zD2 _ _).alloc (zB0 _) _
     have xW2:=xW.below yA xW.lt;have yw3:=bw.trans (yA.mono bw.size);have G3:=aD hg.out (aI yA none);simp only[List.toArray]at xA;have hjs:(j:Int)<(ns:Int):=V6;go_upto_region 14 with fail;generalize wr.alloc (.cells #[.int .i64 kd,.int .i64 tt,.int .i64 pp,.slice aa na ca,.int .i64 nn] 56 (0,0))=w3 at *;generalize wr.heap.size=gA at *;clear p0 p1 p2 p3 p4 q2
     have HS2:Hid (∀wl:World,Below w3.heap.size w3 wl->wl.cell? ⟨gA,0,none⟩=some (.int .i64 kd)/\wl.cell? ⟨gA,1,none⟩=some (.int .i64 tt)/\wl.cell? ⟨gA,2,none⟩=some (.int .i64 pp)/\wl.cell? ⟨gA,3,none⟩=some (.slice aa na ca)/\wl.cell? ⟨gA,4,none⟩=some (.int .i64 nn)/\wl.cell? ⟨w.heap.size,1,none⟩=some (.slice af nf cf)):=fun wl hb=>⟨aB (xA.k 0) hb,aB (xA.k 1) hb,aB (xA.k 2) hb,aB (xA.k 3) hb,aB (xA.k 4) hb,aB (xW2.k 1) hb⟩
     have bd:Below w3.heap.size w3 w3.drew:=(zD2 _ _).drew
     have hS0:=HS2.out _ bd;clear xA xW xW2 yA bw hg
     by_cases k1:kd<0
     .
      refine zK3 (S:=fun wl=>wl.cell? ⟨gA,0,none⟩=some (.int .i64 kd)/\wl.cell? ⟨gA,1,none⟩=some (.int .i64 tt)/\wl.cell? ⟨gA,2,none⟩=some (.int .i64 pp)/\wl.cell? ⟨gA,3,none⟩=some (.slice aa na ca)/\wl.cell? ⟨gA,4,none⟩=some (.int .i64 nn)/\wl.cell? ⟨w.heap.size,1,none⟩=some (.slice af nf cf)) V90 hS0 (fun Aa=>?_)
      refine ta 0 ?_;refine ta 1 ?_;refine ta 2 ?_;try simp only[nrm]
      refine M9131 ?_;refine M9176 ?_;refine M989 ?_;refine M9148 ?_;refine ta 21 ?_;try simp only[nrm]
      refine zL0 V90 ?_ _
      have HE:Hid (aN2 ck fc x=false):=by
       show _=_
       refine aOe (zH3.2 ⟨z,HZM.out, ?_⟩);rw[HAC.out]
       simp[rng,show ¬(0<=kd) by omega]
      have HB:=hid (yw3.trans (bd.mono yw3.size));clear Aa hS0 bd HS2;exact U280
     .
      by_cases k2:kd > 4
      .
       refine zK3 (S:=fun wl=>wl.cell? ⟨gA,0,none⟩=some (.int .i64 kd)/\wl.cell? ⟨gA,1,none⟩=some (.int .i64 tt)/\wl.cell? ⟨gA,2,none⟩=some (.int .i64 pp)/\wl.cell? ⟨gA,3,none⟩=some (.slice aa na ca)/\wl.cell? ⟨gA,4,none⟩=some (.int .i64 nn)/\wl.cell? ⟨w.heap.size,1,none⟩=some (.slice af nf cf)) V90 hS0 (fun Aa=>?_)
       refine M94 ?_;refine ta 6 ?_;refine M9176 ?_;refine M989 ?_;refine M9148 ?_;refine ta 21 ?_;try simp only[nrm]
       refine zL0 V90 ?_ _
       have HE:Hid (aN2 ck fc x=false):=by
        show _=_
        refine aOe (zH3.2 ⟨z,HZM.out, ?_⟩);rw[HAC.out]
        simp[rng,show ¬(kd<=4) by omega]
       have HB:=hid (yw3.trans (bd.mono yw3.size));clear Aa hS0 bd HS2;exact U280
      .
       have hrk:rng kd 0 4=true:=by simp[rng];omega
       have HK:=aP1 aa ca z.args na w3.drew HNA.out (aS.below HLA.out (yw3.trans (bd.mono yw3.size)));rw[HAL.out]at HK
       cases hav:(decide (na<=4) && al)
       .
        rw[hav]at HK
        refine zK3 (S:=fun wl=>wl.cell? ⟨gA,0,none⟩=some (.int .i64 kd)/\wl.cell? ⟨gA,1,none⟩=some (.int .i64 tt)/\wl.cell? ⟨gA,2,none⟩=some (.int .i64 pp)/\wl.cell? ⟨gA,3,none⟩=some (.slice aa na ca)/\wl.cell? ⟨gA,4,none⟩=some (.int .i64 nn)/\wl.cell? ⟨w.heap.size,1,none⟩=some (.slice af nf cf)) V90 hS0 (fun Aa=>?_)
        refine M94 ?_;refine M927 ?_;refine ta 10 ?_;try simp only[nrm]
        refine ra 11 fun K hK=>?_
        go_simp
        (with_reducible refine HK.mono ?_)
        rintro e w4 ⟨rfl,g4⟩;have b4:=bd.trans (aA g4);have hS4:=HS2.out _ b4;go_wp2_with fail
        refine hK.out _ _ (hS4) (fun Aa=>?_)
        clear hK K;try simp only[nrm]
        clear HK;refine ta 12 ?_;refine M989 ?_;refine M9148 ?_;refine ta 21 ?_;try simp only[nrm]
        refine zL0 V90 ?_ _
        have HE:Hid (aN2 ck fc x=false):=by
         show _=_
         refine aOe (zH3.2 ⟨z,HZM.out, ?_⟩);rw[HAC.out]
         rw[show(rng kd 0 4 && decide (na<=4) && al)=false by rw[Bool.and_assoc,hav];simp];simp
        have HB:=hid (yw3.trans (b4.mono yw3.size));clear Aa hS0 hS4 b4 HS2 g4;exact U280
       .
        rw[hav]at HK;have HWR:=aOo nn
        refine zK3 (S:=fun wl=>wl.cell? ⟨gA,0,none⟩=some (.int .i64 kd)/\wl.cell? ⟨gA,1,none⟩=some (.int .i64 tt)/\wl.cell? ⟨gA,2,none⟩=some (.int .i64 pp)/\wl.cell? ⟨gA,3,none⟩=some (.slice aa na ca)/\wl.cell? ⟨gA,4,none⟩=some (.int .i64 nn)/\wl.cell? ⟨w.heap.size,1,none⟩=some (.slice af nf cf)) V90 hS0 (fun Aa=>?_)
        refine M94 ?_;refine M927 ?_;refine ta 10 ?_;try simp only[nrm]
        refine ra 11 fun K hK=>?_
        go_simp
        (with_reducible refine HK.mono ?_)
        rintro e w4 ⟨rfl,g4⟩;have b4:=bd.trans (aA g4);have hS4:=HS2.out _ b4;go_wp2_with fail
        refine hK.out _ _ (hS4) (fun Aa=>?_)
        clear hK K;try simp only[nrm]
        clear HK;refine M9215 ?_;try simp only[nrm]
        cases hfb:aOq nn
        .
         have hnb:(nn != aQm nn)=true:=by have:=hfb;unfold aOq at this;simpa using this
         have HW2:=HWR w4
         refine ra 19 fun K hK=>?_
         go_simp
         (with_reducible refine HW2.mono ?_)
         rintro e w4' ⟨rfl,e4⟩;subst e4;go_wp2_with fail
         refine hK.out _ _ (hS4) (fun Aa=>?_)
         clear hK K;try simp only[nrm]
         refine ta 20 ?_;refine ta 21 ?_;try simp only[nrm]
         refine zL0 V90 ?_ _
         have HE:Hid (aN2 ck fc x=false):=by
          show _=_
          refine aOe (zH3.2 ⟨z,HZM.out, ?_⟩);rw[HAC.out];rw[hfb];simp
         have HB:=hid (yw3.trans (b4.mono yw3.size));clear Aa hS0 hS4 b4 HS2 g4 HW2 HWR;exact U280
        .
         have hnb:(nn != aQm nn)=false:=by have:=hfb;unfold aOq at this;simpa using this
         have HW2:=HWR w4
         refine ra 19 fun K hK=>?_
         go_simp
         (with_reducible refine HW2.mono ?_)
         rintro e w4' ⟨rfl,e4⟩;have e4':=e4.symm;subst e4';go_wp2_with fail
         refine hK.out _ _ (hS4) (fun Aa=>?_)
         clear hK K;try simp only[nrm]
         refine ta 20 ?_;refine ta 21 ?_;try simp only[nrm]
         refine zL0 V90 ?_ _
         have hpre:(rng kd 0 4 && decide (na<=4) && al && aOq nn)=true:=by rw[hrk,Bool.true_and,hav,hfb];rfl
         rw[hpre,Bool.true_and]at HAC;clear Aa hS0 hS4 HW2 HWR g4 hav hrk hfb hnb hpre;go_wp2_with fail
         have bd6:Below w4.heap.size w4 w4.drew:=(zD2 _ _).drew
         have b6:=b4.trans (bd6.mono b4.size);have hS6:=HS2.out _ b6
         by_cases k0:kd=0
         .
          have kb:(kd == 0)=true:=by simpa using k0
          by_cases t1:tt<0
          .
           refine zK3 (S:=fun wl=>wl.cell? ⟨gA,0,none⟩=some (.int .i64 kd)/\wl.cell? ⟨gA,1,none⟩=some (.int .i64 tt)/\wl.cell? ⟨gA,2,none⟩=some (.int .i64 pp)/\wl.cell? ⟨gA,3,none⟩=some (.slice aa na ca)/\wl.cell? ⟨gA,4,none⟩=some (.int .i64 nn)/\wl.cell? ⟨w.heap.size,1,none⟩=some (.slice af nf cf)) V90 hS6 (fun Aa=>?_)
           refine M94 ?_;refine ta 6 ?_;refine ta 7 ?_;try simp only[nrm]
           refine sa 8 ?_;refine sa 9 ?_;refine sa 10 ?_;try simp only[nrm]
           refine sa 11 ?_;try simp only[nrm]
           refine ta 12 ?_;refine ta 13 ?_;refine M9100 ?_;refine ta 17 ?_;refine ta 18 ?_;refine M9169 ?_;refine M948 ?_;refine M9137 ?_;refine zL0 V90 ?_ _
           have HE:Hid (aN2 ck fc x=false):=by
            show _=_
            refine aOe (zH3.2 ⟨z,HZM.out, ?_⟩);rw[HAC.out]
            simp[k0,rng,show ¬(0<=tt) by omega]
           have HB:=hid (yw3.trans (b6.mono yw3.size));clear Aa hS6 b6 HS2;exact U280
          .
           by_cases t2:tt ≥ (nm:Int)
           .
            refine zK3 (S:=fun wl=>wl.cell? ⟨gA,0,none⟩=some (.int .i64 kd)/\wl.cell? ⟨gA,1,none⟩=some (.int .i64 tt)/\wl.cell? ⟨gA,2,none⟩=some (.int .i64 pp)/\wl.cell? ⟨gA,3,none⟩=some (.slice aa na ca)/\wl.cell? ⟨gA,4,none⟩=some (.int .i64 nn)/\wl.cell? ⟨w.heap.size,1,none⟩=some (.slice af nf cf)) V90 hS6 (fun Aa=>?_)
            refine M94 ?_;refine M927 ?_;refine ta 10 ?_;refine ta 11 ?_;try simp only[nrm]
            refine ta 12 ?_;refine ta 13 ?_;refine M9100 ?_;refine ta 17 ?_;refine ta 18 ?_;refine M9169 ?_;refine M948 ?_;refine M9137 ?_;refine zL0 V90 ?_ _
            have HE:Hid (aN2 ck fc x=false):=by
             show _=_
             refine aOe (zH3.2 ⟨z,HZM.out, ?_⟩);rw[HAC.out]
             simp[k0,rng];intro h1 h2;omega
            have HB:=hid (yw3.trans (b6.mono yw3.size));clear Aa hS6 b6 HS2;exact U280
           .
            obtain⟨tn,rfl⟩:∃tn:Nat,tt=tn:=⟨tt.toNat,by omega⟩
            by_cases u1:pp<0
            .
             refine zK3 (S:=fun wl=>wl.cell? ⟨gA,0,none⟩=some (.int .i64 kd)/\wl.cell? ⟨gA,1,none⟩=some (.int .i64 (tn:Int))/\wl.cell? ⟨gA,2,none⟩=some (.int .i64 pp)/\wl.cell? ⟨gA,3,none⟩=some (.slice aa na ca)/\wl.cell? ⟨gA,4,none⟩=some (.int .i64 nn)/\wl.cell? ⟨w.heap.size,1,none⟩=some (.slice af nf cf)) V90 hS6 (fun Aa=>?_)
             refine M94 ?_;refine M927 ?_;refine ta 10 ?_;refine ta 11 ?_;try simp only[nrm]
             refine M9215 ?_;refine M9169 ?_;refine M948 ?_;refine M9137 ?_;refine zL0 V90 ?_ _
             have HE:Hid (aN2 ck fc x=false):=by
              show _=_
              refine aOe (zH3.2 ⟨z,HZM.out, ?_⟩);rw[HAC.out]
              simp[k0,rng,show ¬(0<=pp) by omega]
             have HB:=hid (yw3.trans (b6.mono yw3.size));clear Aa hS6 b6 HS2;exact U280
            .
             obtain⟨fy,hfy⟩:∃fy,x.faces[tn]?=some fy:=⟨_,zA0 (by rw[HNF.out];omega)⟩
             obtain⟨bf,of,zs,rfl,hzs,hcz⟩:=aS.cellsAt HLF.out (show(x.faces.map Fa.fl)[tn]?=some fy.fl by rw[zA2,hfy];rfl)
             obtain⟨t0,_,rfl,⟨i0,j0,rfl,_⟩,t1',_,rfl,hl4,rfl⟩:=hzs;obtain⟨i1,j1,rfl,hL4⟩:=hl4.list;have hp9:=hL4.len9;rw[zB2]at hp9 hcz
             have HFY:Hid (((x.faces[(tn:Int).toNat]?.getD ⟨[],[]⟩).procs.length:Int)=fy.procs.length):=by show _=_;rw[Int.toNat_natCast,hfy];rfl
             rw[HFY.out]at HAC;generalize fy.procs.length=np at *;have htf:(tn:Int)<(nf:Int):=V6;have y6:=yw3.trans (b6.mono yw3.size);have rr:=aB (hcz 1 _ rfl) y6
             have hS7:((w4.drew.cell? ⟨gA,0,none⟩=some (.int .i64 kd)/\w4.drew.cell? ⟨gA,1,none⟩=some (.int .i64 (tn:Int))/\w4.drew.cell? ⟨gA,2,none⟩=some (.int .i64 pp)/\w4.drew.cell? ⟨gA,3,none⟩=some (.slice aa na ca)/\w4.drew.cell? ⟨gA,4,none⟩=some (.int .i64 nn)/\w4.drew.cell? ⟨w.heap.size,1,none⟩=some (.slice (some ⟨bf,of,none⟩) nf cf))/\w4.drew.cell? ⟨bf,of+tn*2+1,none⟩=some (.slice i1 np j1)):=⟨hS6,rr⟩
             clear hcz hl4 hL4 hfy
             by_cases u2:pp ≥ (np:Int)
             .
              refine zK3 (S:=fun wl=>(wl.cell? ⟨gA,0,none⟩=some (.int .i64 kd)/\wl.cell? ⟨gA,1,none⟩=some (.int .i64 (tn:Int))/\wl.cell? ⟨gA,2,none⟩=some (.int .i64 pp)/\wl.cell? ⟨gA,3,none⟩=some (.slice aa na ca)/\wl.cell? ⟨gA,4,none⟩=some (.int .i64 nn)/\wl.cell? ⟨w.heap.size,1,none⟩=some (.slice (some ⟨bf,of,none⟩) nf cf))/\wl.cell? ⟨bf,of+tn*2+1,none⟩=some (.slice i1 np j1)) V90 hS7 (fun Aa=>?_)
              refine M94 ?_;refine M927 ?_;refine ta 10 ?_;refine ta 11 ?_;try simp only[nrm]
              refine M9224 ?_;refine M946 ?_;refine ta 28 ?_;refine ta 29 ?_;refine M9137 ?_;refine zL0 V90 ?_ _
              have HE:Hid (aN2 ck fc x=false):=by
               show _=_
               refine aOe (zH3.2 ⟨z,HZM.out, ?_⟩);rw[HAC.out]
               simp[k0,rng];intros;omega
              have HB:=hid (yw3.trans (b6.mono yw3.size));clear Aa hS6 hS7 rr b6 HS2;exact U280
             .
              refine zK3 (S:=fun wl=>(wl.cell? ⟨gA,0,none⟩=some (.int .i64 kd)/\wl.cell? ⟨gA,1,none⟩=some (.int .i64 (tn:Int))/\wl.cell? ⟨gA,2,none⟩=some (.int .i64 pp)/\wl.cell? ⟨gA,3,none⟩=some (.slice aa na ca)/\wl.cell? ⟨gA,4,none⟩=some (.int .i64 nn)/\wl.cell? ⟨w.heap.size,1,none⟩=some (.slice (some ⟨bf,of,none⟩) nf cf))/\wl.cell? ⟨bf,of+tn*2+1,none⟩=some (.slice i1 np j1)) V90 hS7 (fun Aa=>?_)
              refine M94 ?_;refine M927 ?_;refine ta 10 ?_;refine ta 11 ?_;try simp only[nrm]
              refine M9224 ?_;refine M946 ?_;refine ta 28 ?_;refine ta 29 ?_;refine M9137 ?_;refine zL0 V90 ?_ _
              have HN:Hid (∀u,u<j+1->aOj x.faces (x.script[u]?.getD ⟨0,0,0,[],0⟩)=true):=by
               intro u hu
               by_cases e:u=j
               .
                rw[e,HZJ.out,zI3,HAC.out];simp[k0,rng];omega
               .
                exact Af.out u V6
              have HG:=hid (aD G3 (aI b6 none));clear Aa hS6 hS7 rr y6 b6 bd6 HS2 yw3 G3 b4 bd;exact U311
         .
          have kb:(kd == 0)=false:=by simpa using k0
          refine zK3 (S:=fun wl=>wl.cell? ⟨gA,0,none⟩=some (.int .i64 kd)/\wl.cell? ⟨gA,1,none⟩=some (.int .i64 tt)/\wl.cell? ⟨gA,2,none⟩=some (.int .i64 pp)/\wl.cell? ⟨gA,3,none⟩=some (.slice aa na ca)/\wl.cell? ⟨gA,4,none⟩=some (.int .i64 nn)/\wl.cell? ⟨w.heap.size,1,none⟩=some (.slice af nf cf)) V90 hS6 (fun Aa=>?_)
          refine ta 0 ?_;refine ta 1 ?_;refine ta 2 ?_;try simp only[nrm]
          refine M9131 ?_;refine sa 7 ?_;refine sa 8 ?_;refine sa 9 ?_;refine M9118 ?_;refine sa 18 ?_;refine M9169 ?_;refine M948 ?_;refine sa 30 ?_;try simp only[nrm]
          refine ta 31 ?_;try simp only[nrm]
          refine zL0 V90 ?_ _
          have HN:Hid (∀u,u<j+1->aOj x.faces (x.script[u]?.getD ⟨0,0,0,[],0⟩)=true):=by
           intro u hu
           by_cases e:u=j
           .
            rw[e,HZJ.out,zI3,HAC.out];simp[k0]
           .
            exact Af.out u V6
          have HG:=hid (aD G3 (aI b6 none));clear Aa hS6 b6 bd6 HS2 yw3 G3 b4 bd;exact U311
    .
     have:ns=j:=V6
     subst this
     have HAB:x.script.all (aOj x.faces)=true:=by
      rw[zF3];intro z hz;obtain⟨u,hu⟩:=zI1 hz
      have:=Af.out u (by rw[<-HNS.out];exact(zC1.1 hu).1)
      rw[hu]at this;exact this
     replace HAB:Hid (x.script.all (aOj x.faces)=true):=HAB
     clear Af;have HM:=hid HMB.out
     obtain⟨fy,hfy⟩:∃fy,x.faces[nm-1]?=some fy:=⟨_,zA0 (by rw[HNF.out];omega)⟩
     have bw:=y1.out.trans ((aA hg.out).mono y1.out.size)
     obtain⟨bf,of,zs,rfl,hzs,hcz⟩:=aS.cellsAt HLF.out (show(x.faces.map Fa.fl)[nm-1]?=some fy.fl by rw[zA2,hfy];rfl)
     have hzs0:=hzs;obtain⟨t0,_,rfl,⟨i0,j0,rfl,_⟩,t1,_,rfl,hl4,rfl⟩:=hzs;obtain⟨i1,j1,rfl,hL4⟩:=hl4.list;have hp9:=hL4.len9;rw[zB2]at hp9 hcz hzs0;have HLP:=hid hL4;have r0:=aB (hcz 0 _ rfl) bw;have r1:=aB (hcz 1 _ rfl) bw;rw[zG2]at r0
     obtain⟨k,hk⟩:∃k,nm=k+1:=⟨nm-1,by omega⟩
     have hwrap:IntKind.i64.wrap ((nm:Int)-1)=(nm:Int)-1:=by rw[IntKind.wrap_i64];omega
     have htn:((nm:Int)-1).toNat=nm-1:=V6;have hg0:(0:Int)<=(nm:Int)-1:=V6;have hgn:(nm:Int)-1<(nf:Int):=V6;clear hk
     have HLAST:Hid (x.faces[x.faces.length-1]?.getD ⟨[],[]⟩=fy):=by show _=_;rw[HNF.out,show nf-1=nm-1 by omega,hfy];rfl
     have xW:=(xW1.out.below (aA hg.out) xW1.out.lt);have q1:=xW.k 1;have q2:=xW.k 2;generalize fy.name.length=m0 at *
     obtain⟨np,hnp⟩:∃q,q=fy.procs.length:=⟨_,rfl⟩
     have HNP:=hid hnp.symm;rw[<-hnp]at r1 hp9 hzs0;have xF:=Blk.new wr 52 [.slice i0 m0 j0,.slice i1 np j1]
     have yF:Below wr.heap.size wr (wr.alloc (.cells #[.slice i0 m0 j0,.slice i1 np j1] 52 (0,0))):=(zD2 _ _).alloc (zB0 _) _
     have y3:=bw.trans (yF.mono bw.size);have hv3:=hzs0.below y3;simp only[List.toArray]at xF;clear hcz hl4 hL4 hfy hnp hzs0 xW;go_upto_region 19 with fail;generalize wr.alloc (.cells #[.slice i0 m0 j0,.slice i1 np j1] 52 (0,0))=w3 at *;generalize wr.heap.size=gF at *;clear r0 r1 q1 q2 bw yF;obtain⟨q0,q1⟩:=xF.c2;have kc:=Lib.run_convert_bytes_const (P:=Tryz.prog) w3 43 5 #[.int .u8 109,.int .u8 97,.int .u8 105,.int .u8 110] 4 4 Tryz.underlying43 Tryz.underlying5;have ym:=aC w3 (.cells #[.int .u8 109,.int .u8 97,.int .u8 105,.int .u8 110] 5 (4,5)) none;have hr:=aO9 w3;simp only[List.size_toArray,zB1,zC3,Nat.reduceAdd]at kc
     have HP:=fun c2=>uN fy _ _ (hv3.below (aA ym)) _ 4 c2 aOv hr
     simp only[agg,List.toArray]at HP;have xFm:=xF.below (aA ym) xF.lt;go_wp2_with fail;refine(HP _).mono ?_;rintro e w4 ⟨rfl,g4⟩;have xF4:=xFm.below (aA g4) xFm.lt;have y4:=y3.trans ((aA (aD ym g4)).mono y3.size);have c1:=xF4.k 1;clear HP kc q0 q1 xF xFm xF4 ym g4 hr y3 hv3
     have HFIN:Hid (∀b:Bool,aOa fy=b->aN2 ck fc x=b):=by
      intro b hb
      have:aN2 ck fc x=aOa fy:=by
       unfold aN2
       have d1:decide (1<=nm)=true:=zB3 V6
       have d2:decide (nm<=8)=true:=zB3 V6
       have d3:decide (nf=nm)=true:=zB3 V6
       have d4:decide (ns<=2000)=true:=zB3 V6
       rw[HM.out,HAB.out,HFB.out,HLAST.out,HNM.out,HNF.out,HNS.out,d1,d2,d3,d4];simp only[Bool.true_and]
      rw[this,hb]
     cases hx:ix (fy.procs.map Fp.name) aOv with
     | none=>
      have HE:Hid (aN2 ck fc x=false):=HFIN.out _ (by unfold aOa;rw[hx])
      have hi:=cU hx;rw[hi];clear hx hi;go_wp2;go_ret;exact⟨aE HE.out.symm,y4⟩
     | some i=>
      obtain⟨q,hq⟩:∃q,fy.procs[i]?=some q:=by
       obtain⟨Ai,_⟩:=zC1.1 (aIk hx).1
       exact⟨_,zA0 (by simpa using Ai)⟩
      have hi:ixI (fy.procs.map Fp.name) aOv=i:=by unfold ixI;rw[hx]
      obtain⟨bp,op,ys,rfl,hys,Ab⟩:=aS.cellsAt HLP.out (show(fy.procs.map Fp.fl)[i]?=some q.fl by rw[zA2,hq];rfl)
      obtain⟨s0,_,rfl,_,s1,_,rfl,⟨a1,d1,rfl,_,hd1,hd2,_⟩,rfl⟩:=hys;have r1:=aB (Ab 1 _ rfl) y4
      have hin:(i:Int)<(np:Int):=by have:=(zC1.1 hq).1;rw[HNP.out]at this;omega
      have HM2:Hid (aOa fy=decide (q.kinds.length=0)):=by show _=_;unfold aOa;rw[hx];simp only[hq,zI3]
      have hk9:q.kinds.length<=9223372036854775807:=by unfold maxLen at hd2;omega
      generalize q.kinds.length=nk at *;rw[hi];clear hx hi hq Ab hd1 hd2
      by_cases hnk:nk=0
      .
       have hkb:((nk:Int) == 0)=true:=by simp;omega
       have HE:Hid (aN2 ck fc x=true):=HFIN.out _ (by rw[HM2.out];simpa using hnk)
       clear hnk;go_wp2;go_ret;exact⟨aE HE.out.symm,y4⟩
      .
       have hkb:((nk:Int) == 0)=false:=by simp;omega
       have HE:Hid (aN2 ck fc x=false):=HFIN.out _ (by rw[HM2.out];simpa using hnk)
       clear hnk;go_wp2;go_ret;exact⟨aE HE.out.symm,y4⟩
end Go.Proofs.YtegkhlkjfeafjaaGreatDoor

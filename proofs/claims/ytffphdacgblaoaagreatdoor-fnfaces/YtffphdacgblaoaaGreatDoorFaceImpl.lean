import Derived.Test.YtffphdacgblaoaaGreatDoorPackR
namespace Go.Proofs.YtffphdacgblaoaaGreatDoor
open Go.RowKit
set_option linter.unusedVariables false
set_option linter.unusedSimpArgs false
set_option maxRecDepth 100000
theorem U48{p:Prop}(h:p:=by
 go_wp2
 go_roundw
 case rel=>exact⟨j+1,by omega,by go_num,HS⟩
 case measure=>simp[intOf];omega):p:=h
theorem aHy (m:Mo){q:Pr}(hq:q ∈ m.procs):q.name.length+q.params.length+m.procs.length<=aL m.fl:=by
 have h1:=aX (List.mem_map_of_mem (f:=Pr.fl) hq)
 have e:aL q.fl=q.name.length+((q.params.map Pa.fl).length+aH (q.params.map Pa.fl)+(0+aL [.l 1 (dC q.locals),.l 6 (sts q.body)])):=by simp[Pr.fl,aL,Fl.len]
 have e2:aL m.fl=m.name.length+(Fl.len (.l 1 (dC m.uses))+(Fl.len (.l 2 (m.vars.map Va.fl))+((m.procs.map Pr.fl).length+aH (m.procs.map Pr.fl)))):=by simp[Mo.fl,aL,Fl.len]
 rw[e]at h1;rw[e2];simp only[zB2]at h1 ⊢
 omega
set_option maxHeartbeats 8000000 in
theorem aCy (m:Mo)(vs:List Value)(w:World)(hT:nF w)(h:cC w m.fl vs)(hs:aL m.fl<=1048576):
  Calls Tryz.prog 7 #[agg vs] w fun e w'=>∃nv pv,e=.returned (.agg #[nv,pv])/\aTf w w' nv pv (jK m):=by
 have hM:=h;obtain⟨v0,_,rfl,⟨a0,c0,rfl,hB0,hc0,_,hz0⟩,v1,_,rfl,_,v2,_,rfl,_,v3,_,rfl,h3,rfl⟩:=h;obtain⟨a3,c3,rfl,hL⟩:=h3.list
 have hnp:m.procs.length<=1048576:=by
  have:(m.procs.map Pr.fl).length<=aL m.fl:=by simp[Mo.fl,aL,Fl.len];omega
  rw[zB2]at this
  omega
 have hnn:m.name.length<=1048576:=by have:m.name.length<=aL m.fl:=(by simp[Mo.fl,aL,Fl.len]);omega
 have HMl:Hid (∀q ∈ m.procs,q.name.length+q.params.length<=1048576):=fun q hq=>by have:=aHy m hq;omega
 have x0:=(Blk.new w 27 [.slice a0 m.name.length c0,v1,v2,.slice a3 (m.procs.map Pr.fl).length c3]).old (o:=.cells #[.slice none 0 0,.slice none 0 0] 35 (0,0));have z0:=Blk.new (w.alloc (.cells #[.slice a0 m.name.length c0,v1,v2,.slice a3 (m.procs.map Pr.fl).length c3] 27 (0,0))) 35 [.slice none 0 0,.slice none 0 0]
 have y0:Below w.heap.size w ((w.alloc (.cells #[.slice a0 m.name.length c0,v1,v2,.slice a3 (m.procs.map Pr.fl).length c3] 27 (0,0))).alloc (.cells #[.slice none 0 0,.slice none 0 0] 35 (0,0))):=((zD2 _ _).alloc (zB0 _) _).alloc Q9 _
 have H1:=aAe m _ _ (hT.below y0) (hM.below y0) hs;simp only[List.toArray]at x0 z0 H1
 have hgz:(w.alloc (.cells #[.slice a0 m.name.length c0,v1,v2,.slice a3 (m.procs.map Pr.fl).length c3] 27 (0,0))).heap.size=w.heap.size+1:=by simp
 rw[hgz]at z0;clear hgz
 obtain⟨np,hNP⟩:∃z,z=m.procs.length:=⟨_,rfl⟩
 have HNP:=hid hNP.symm;rw[zB2,<-hNP]at x0 z0 y0 H1;rw[zB2];rw[<-hNP]at hnp ⊢;clear hM h3 hNP hT;simp only[agg];have HL:=hid hL;have HB0:=hid hB0;clear hL hB0;go_enter Tryz.func7,Tryz.ntmps7;go_upto_region 1 with fail;generalize (w.alloc (.cells #[.slice a0 m.name.length c0,v1,v2,.slice a3 np c3] 27 (0,0))).alloc (.cells #[.slice none 0 0,.slice none 0 0] 35 (0,0))=w1 at *;obtain⟨q0,q1,q2,q3⟩:=x0.c4
 cases hf:lN m
 .
  have HF:Hid (jK m=⟨[],[]⟩):=by show jK m=_;unfold jK;rw[hf];rfl
  rw[hf]at H1;clear hf;go_wp2_with fail;refine H1.mono ?_;rintro e w2 ⟨rfl,hg⟩;have z2:=z0.below (aA hg) z0.lt;have y2:=y0.trans ((aA hg).mono y0.size);clear H1 q0 q1 q2 q3 x0 z0 y0 hg;obtain⟨d0,d1⟩:=z2.c2;have f0:=z2.free 0;have f1:=z2.free 1;have z3:=(z2.set (i:=0) (.slice none 0 0)).set (i:=1) (.slice none 0 0)
  have y3:Below w.heap.size w ((w2.setCell ⟨w.heap.size+1,0,none⟩ (.slice none 0 0)).setCell ⟨w.heap.size+1,1,none⟩ (.slice none 0 0)):=(y2.setCell (Nat.le_succ _) _).setCell (Nat.le_succ _) _
  go_wp2_with fail;generalize (w2.setCell ⟨w.heap.size+1,0,none⟩ (.slice none 0 0)).setCell ⟨w.heap.size+1,1,none⟩ (.slice none 0 0)=w3 at *;obtain⟨e0,e1⟩:=z3.c2
  refine zI2 (v:=.agg #[.slice none 0 0,.slice none 0 0]) (by simp only[results,Tryz.results7];simp[go_sem,e0,e1]) rfl ⟨_,_,rfl,⟨[],by rw[HF.out];exact Fg.nil w3 y3.size⟩,y3⟩
 .
  have HF:Hid (jK m=aFu m):=by show jK m=_;unfold jK;rw[hf];rfl
  rw[hf]at H1;clear hf;go_wp2_with fail;refine H1.mono ?_;rintro e w2 ⟨rfl,hg⟩;have x2:=x0.below (aA hg) x0.lt;have z2:=z0.below (aA hg) z0.lt;have y2:=y0.trans ((aA hg).mono y0.size);clear H1 q0 q1 q2 q3 x0 z0 y0 hg;have q0:=x2.k 0;have HC:=aKm a0 m.name.length c0 m.name w2 (eG.below HB0.out y2) hz0 hnn;go_wp2_with fail;refine HC.mono ?_;rintro e w3 ⟨nv,rfl,on,bn⟩;have hnb:=HB0.out.2.1
  have G3:Fg w3 w.heap.size w3.heap.size nv (.slice none 0 0) [] ⟨m.name,[]⟩:=Fg.first (on.wide y2.size (zB0 _)) hnb (zF2 y2.size bn.size)
  obtain⟨an,cn,rfl,_,_,_,_⟩:=dK on.own;have x3:=x2.below bn x2.lt;have z3:=z2.below bn z2.lt;have y3:=y2.trans (bn.mono y2.size);clear HC q0 x2 z2 y2 on bn;have f4:=Blk.new w3 35 [.slice an m.name.length cn,.slice none 0 0]
  have b4:Below w3.heap.size w3 (w3.alloc (.cells #[.slice an m.name.length cn,.slice none 0 0] 35 (0,0))):=(zD2 _ _).alloc (zB0 _) _
  have S4:Hid (∃pv l,FSt w w.heap.size (w.heap.size+1) w3.heap.size [.slice a0 m.name.length c0,v1,v2,.slice a3 np c3] (.slice an m.name.length cn) m.name m.procs (w3.alloc (.cells #[.slice an m.name.length cn,.slice none 0 0] 35 (0,0))) 0 pv l):=
   ⟨_,_,⟨x3.below b4 x3.lt,z3.below b4 z3.lt,f4,by have:=(G3.stays (gT.of b4 (zB0 _))).wide (zB0 _) b4.size;simpa [jY] using this,y3.trans (b4.mono y3.size),by have:=x3.lt;omega,by have:=z3.lt;omega,y3.size⟩⟩
  have X4:=x3.below b4 x3.lt;have k3:=X4.k 3;clear x3 z3 y3 f4 b4 G3 hnb;go_upto_region 4 with fail;generalize w3.alloc (.cells #[.slice an m.name.length cn,.slice none 0 0] 35 (0,0))=w4 at *;generalize w3.heap.size=gF at *;clear X4;go_wp2_with fail;clear k3
  go_loopw [17] (fun i wr=>∃j:Nat,j<=np/\i=.int .i64 j/\Hid (∃pv l,FSt w w.heap.size (w.heap.size+1) gF [.slice a0 m.name.length c0,v1,v2,.slice a3 np c3] (.slice an m.name.length cn) m.name m.procs wr j pv l)) (fun i _=>np-(intOf i).toNat)
  case atStart=>exact⟨0,zD1 _,rfl,S4⟩
  case round=>
   obtain⟨j,hj,rfl,hst⟩:=hrel;obtain⟨pv,l,st⟩:=hst.out;clear S4 hst
   by_cases Aj:j<np
   .
    obtain⟨q,hq⟩:∃q,m.procs[j]?=some q:=⟨_,zA0 (by rw[HNP.out];exact Aj)⟩
    obtain⟨bx,offx,rfl⟩:=bQ.addr HL.out (by rw[zB2,HNP.out];omega)
    obtain⟨vs,Ai,Ab⟩:=(bQ.el HL.out (show(m.procs.map Pr.fl)[j]?=some q.fl by rw[zA2,hq];rfl)).vals
    obtain⟨u0,_,rfl,⟨aq,cq,rfl,hbq,_,_,hzq⟩,u1,_,rfl,rfl,u2,_,rfl,hp2,u3,_,rfl,hp3,u4,_,rfl,hp4,rfl⟩:=Ai;obtain⟨ap,cp,rfl,hLp⟩:=hp2.list;obtain⟨al,cl,rfl,_⟩:=hp3.list;obtain⟨ab,cb,rfl,_⟩:=hp4.list;generalize (dC q.locals).length=nl at *;generalize (sts q.body).length=nb at *;have hqm:=HMl.out q (zA3 hq);have HQ:=hid hq
    obtain⟨pp,hpp⟩:∃z,z=q.params.length:=⟨_,rfl⟩
    have HPP:=hid hpp.symm;rw[zB2,<-hpp]at Ab;rw[<-hpp]at hqm;have hb:=st.b;have r0:=aC (Ab 0 _ rfl) hb;have r1:=aC (Ab 1 _ rfl) hb;have r2:=aC (Ab 2 _ rfl) hb;have r3:=aC (Ab 3 _ rfl) hb;have r4:=aC (Ab 4 _ rfl) hb;rw[zG1]at r0;have x5:=Blk.new wr 55 [.slice aq q.name.length cq,.bool q.opn,.slice ap pp cp,.slice al nl cl,.slice ab nb cb]
    have b5:Below wr.heap.size wr (wr.alloc (.cells #[.slice aq q.name.length cq,.bool q.opn,.slice ap pp cp,.slice al nl cl,.slice ab nb cb] 55 (0,0))):=(zD2 _ _).alloc (zB0 _) _
    have ST5:=hid (st.grow b5);simp only[List.toArray]at x5;have hg5:=x5.lt;clear Ab hq hpp hb hp2 hp3 hp4 b5 st;go_upto_region 7 with fail;generalize wr.alloc (.cells #[.slice aq q.name.length cq,.bool q.opn,.slice ap pp cp,.slice al nl cl,.slice ab nb cb] 55 (0,0))=w5 at *;generalize wr.heap.size=gQ at *;clear r0 r1 r2 r3 r4;have k1:=x5.k 1
    cases ho:q.opn
    .
     rw[ho]at k1
     have HS:Hid (∃pv l,FSt w w.heap.size (w.heap.size+1) gF [.slice a0 m.name.length c0,v1,v2,.slice (some ⟨bx,offx,none⟩) np c3] (.slice an m.name.length cn) m.name m.procs w5 (j+1) pv l):=⟨_,_,ST5.out.skip HQ.out ho⟩
     clear ST5 x5 ho;exact U48
    .
     rw[ho]at k1;have st:=ST5.out;have bw:=st.b;have HBq:=hid (hbq.below bw);have HLp:=hid (hLp.below bw);have xF:=st.f;obtain⟨aP,cP,hpv,_,_,_,_⟩:=dK st.g.row
     simp only at hpv
     subst hpv
     obtain⟨nf,hnf⟩:∃z,z=(jY (m.procs.take j)).length:=⟨_,rfl⟩
     have HNF:=hid hnf.symm
     have hnf9:nf<=1048576:=by have h1:=vK (m.procs.take j);rw[List.length_take]at h1;have:=HNP.out;omega
     have An:(dR q.params).length=pp:=by unfold dR;rw[zB2,HPP.out]
     rw[<-hnf]at xF;have xF0:=xF
     have HROW:Hid (w5.ownsRow w.heap.size 59 2 (.slice aP nf cP) nf (mY l)):=by have:=st.g.row;simp only at this;rw[HNF.out]at this;exact this
     have HST:Hid (FSt w w.heap.size (w.heap.size+1) gF [.slice a0 m.name.length c0,v1,v2,.slice (some ⟨bx,offx,none⟩) np c3] (.slice an m.name.length cn) m.name m.procs w5 j (.slice aP nf cP) l):=by have:=st;rw[HNF.out]at this;exact this
     have bws:=bw.size;clear ST5 st hnf
     have HSB:∀wl,Blk wl gF 35 [.slice an m.name.length cn,.slice aP nf cP]->Blk wl gQ 55 [.slice aq q.name.length cq,.bool q.opn,.slice ap pp cp,.slice al nl cl,.slice ab nb cb]->wl.cell? ⟨gF,1,none⟩=some (.slice aP nf cP)/\wl.cell? ⟨gQ,0,none⟩=some (.slice aq q.name.length cq)/\wl.cell? ⟨gQ,2,none⟩=some (.slice ap pp cp):=fun wl b1 b2=>⟨b1.k 1,b2.k 0,b2.k 2⟩
     have HC:=aKm aq q.name.length cq q.name w5.drew HBq.out hzq Q0;go_wp2_with fail;have hS0:=HSB w5.drew xF x5
     refine rl 12 (S:=fun wl=>wl.cell? ⟨gF,1,none⟩=some (.slice aP nf cP)/\wl.cell? ⟨gQ,0,none⟩=some (.slice aq q.name.length cq)/\wl.cell? ⟨gQ,2,none⟩=some (.slice ap pp cp)) Q1 hS0 (fun Aa=>?_)
     refine la 0 ?_;refine la 1 ?_;refine la 2 ?_;try simp only[nrm]
     refine la 3 ?_;refine la 5 ?_;refine la 6 ?_;try simp only[nrm]
     try simp only[nrm]
     refine da 4 fun K hK=>?_
     go_simp
     (with_reducible refine HC.mono ?_)
     rintro e wa ⟨va,rfl,oa,ba⟩
     have ba':Below w5.heap.size w5 wa:=(zD2 w5.heap.size w5).drew.trans ba
     have hSa:=HSB wa (xF.below ba' xF.lt) (x5.below ba' x5.lt);obtain⟨ay,cy,rfl,_,_,_,_⟩:=dK oa.own;have HK:=aKf q.params ap pp cp wa HPP.out (HLp.out.below ba') Q0;go_wp2_with fail
     refine hK.out _ _ (hSa) (fun Aa=>?_)
     clear hK K;try simp only[Act.put,List.getElem_toArray,List.getElem_cons_zero,List.getElem_cons_succ,List.setIfInBounds_toArray,List.set_cons_zero,List.set_cons_succ]
     refine da 7 fun K hK=>?_
     go_simp
     (with_reducible refine HK.mono ?_)
     rintro e wb ⟨vb,rfl,ob,bb⟩;have bb':=ba'.trans (bb.mono ba'.size);have hSb:=HSB wb (xF.below bb' xF.lt) (x5.below bb' x5.lt);obtain⟨az,cz,rfl,_,_,_,_⟩:=dK ob.own;go_wp2_with fail
     refine hK.out _ _ (hSb) (fun Aa=>?_)
     clear hK K;try simp only[Act.put,List.getElem_toArray,List.getElem_cons_zero,List.getElem_cons_succ,List.setIfInBounds_toArray,List.set_cons_zero,List.set_cons_succ]
     refine la 8 ?_;try simp only[nrm]
     have xC:=Blk.new wb 59 [.slice ay q.name.length cy,.slice az pp cz]
     have bc:Below wb.heap.size wb (wb.alloc (.cells #[.slice ay q.name.length cy,.slice az pp cz] 59 (0,0))):=(zD2 _ _).alloc (zB0 _) _
     have bc':=bb'.trans (bc.mono bb'.size);have hSc:=HSB _ (xF.below bc' xF.lt) (x5.below bc' x5.lt)
     have ROWC:=jN HROW.out (fun g hg=>bc'.block g (HROW.out.lt g hg).2)
     simp only[List.toArray]at xC
     refine da 9 fun K hK=>?_
     go_simp
     refine hK.out _ _ (hSc) (fun Aa=>?_)
     clear hK K;try simp only[Act.put,List.getElem_toArray,List.getElem_cons_zero,List.getElem_cons_succ,List.setIfInBounds_toArray,List.set_cons_zero,List.set_cons_succ]
     generalize wb.alloc (.cells #[.slice ay q.name.length cy,.slice az pp cz] 59 (0,0))=wc at *
     refine da 10 fun K hK=>?_
     rw[if_pos Q1];refine aA8 _ _ rfl w.heap.size _ nf l rfl ROWC wb.heap.size (.slice ay q.name.length cy) (.slice az pp cz) rfl xC rfl rfl hnf9 (zF2 bws bc'.size) ?_;intro v4 w4' ho4 Bd
     have hob:Ob wb 3 wa.heap.size wb.heap.size (.slice az pp cz) (dR q.params).length (iV (dR q.params)):=by rw[An];exact ob
     obtain⟨HST4,xF4⟩:=HST.out.push HQ.out ho ba' oa HBq.out.2.1 bb hob bc (by rw[HNF.out];exact ho4) Bd
     have x54:=(x5.below bc' x5.lt).below_row Bd (oU ROWC (x5.below bc' x5.lt) Q5);obtain⟨a4,c4,rfl,_,_,_,_⟩:=dK ho4
     refine hK.out _ _ ((HSB _ xF4 x54)) (fun Aa=>?_)
     clear hK K;try simp only[Act.put,List.getElem_toArray,List.getElem_cons_zero,List.getElem_cons_succ,List.setIfInBounds_toArray,List.set_cons_zero,List.set_cons_succ]
     refine la 11 ?_;try simp only[nrm]
     have hc4:=xF4.k 1;have hf4:=xF4.free 1
     have HS:Hid (∃pv l,FSt w w.heap.size (w.heap.size+1) gF [.slice a0 m.name.length c0,v1,v2,.slice (some ⟨bx,offx,none⟩) np c3] (.slice an m.name.length cn) m.name m.procs (w4'.setCell ⟨gF,1,none⟩ (.slice a4 (nf+1) c4)) (j+1) pv l):=⟨_,_,HST4⟩
     refine ea fun K hK=>?_
     go_simp;refine hK.out _ _ ?_;clear hK K Aa HSB hS0 hSa hSb hSc hc4 hf4 HST4 xF4 x54 ho4 Bd xC bc bc' ROWC oa ob hob ba ba' bb bb' HC HK xF xF0 x5 k1 HST HROW;exact U48
   .
    have:np=j:=Q0
    subst this;obtain⟨aP,cP,hpv,_,_,_,_⟩:=dK st.g.row
    simp only at hpv
    subst hpv;have hG:=st.g
    have e1:m.procs.take np=m.procs:=zD3 (by rw[HNP.out];exact zB0 _)
    rw[e1]at hG;have sF:=st.f;have sR:=st.r;have sb:=st.b;rw[e1]at sF;generalize (jY m.procs).length=nf at *;obtain⟨q0,q1⟩:=sF.c2;obtain⟨d0,d1⟩:=sR.c2;have f0:=sR.free 0;have f1:=sR.free 1;have z9:=(sR.set (i:=0) (.slice an m.name.length cn)).set (i:=1) (.slice aP nf cP)
    have G9:Hid (Fg ((wr.setCell ⟨w.heap.size+1,0,none⟩ (.slice an m.name.length cn)).setCell ⟨w.heap.size+1,1,none⟩ (.slice aP nf cP)) w.heap.size wr.heap.size (.slice an m.name.length cn) (.slice aP nf cP) l ⟨m.name,jY m.procs⟩):=(hG.other sR).other (sR.set (i:=0) (.slice an m.name.length cn))
    have y9:Below w.heap.size w ((wr.setCell ⟨w.heap.size+1,0,none⟩ (.slice an m.name.length cn)).setCell ⟨w.heap.size+1,1,none⟩ (.slice aP nf cP)):=(sb.setCell (Nat.le_succ _) _).setCell (Nat.le_succ _) _
    have hsz9:((wr.setCell ⟨w.heap.size+1,0,none⟩ (.slice an m.name.length cn)).setCell ⟨w.heap.size+1,1,none⟩ (.slice aP nf cP)).heap.size=wr.heap.size:=by simp
    go_wp2_with fail;generalize (wr.setCell ⟨w.heap.size+1,0,none⟩ (.slice an m.name.length cn)).setCell ⟨w.heap.size+1,1,none⟩ (.slice aP nf cP)=w9 at *;simp only[List.set_cons_zero,List.set_cons_succ]at z9;obtain⟨e0,e2⟩:=z9.c2
    refine zI2 (v:=.agg #[.slice an m.name.length cn,.slice aP nf cP]) (by simp only[results,Tryz.results7];simp[go_sem,e0,e2]) rfl ⟨_,_,rfl,⟨l,by rw[HF.out,hsz9];exact G9.out⟩,y9⟩
end Go.Proofs.YtffphdacgblaoaaGreatDoor

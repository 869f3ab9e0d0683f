import Derived.Test.YtffphdacgblaoaaGreatDoorSpSay6
namespace Go.Proofs.YtffphdacgblaoaaGreatDoor
open Go.RowKit
set_option linter.unusedVariables false
set_option linter.unusedSimpArgs false
set_option maxRecDepth 100000
theorem Q15{p:Prop}(h:p:=by simp[show sI ⟨#[32,59,10]⟩=[32,59,10] from rfl]):p:=h
theorem Q31{p:Prop}(h:p:=by show _+6<=_;(try simp only[ll]);omega):p:=h
theorem Q38{p:Prop}(h:p:=by show _+4<=_;(try simp only[ll]);omega):p:=h
theorem Q61{p:Prop}(h:p:=by simp[show sI ⟨#[69,78,68]⟩=[69,78,68] from rfl]):p:=h
theorem U8{p:Prop}(h:p:=by
 go_wp2
 go_roundw
 case rel=>exact⟨j+1,by omega,by go_num,HG'⟩
 case measure=>simp[intOf];omega):p:=h
theorem U18{p:Prop}(h:p:=by
 show Sg _ _ _ _ _ _ _ _
 rw[HNX.out,HE.out]
 simpa [zD0] using this):p:=h
theorem M943{p q:Prop}(k:q)(h:Kx q->p:=by
 intro kQ
 have hsk0:aL e0.fl<=1048576:=by simp only[exs,aH]at hs2;omega
 have hk0:=hks
 have S0:=sJ e0
 have sw0:=lU e0 hk0
 revert sw0;revert S0;revert hk0;revert hsk0
 exact kQ.o):p:=h ⟨k⟩
theorem M950{p q:Prop}(k:q)(h:Kx q->p:=by
 intro kQ
 simp only[eI,zC0,and_true]at hks
 obtain⟨us0,hv0,Af⟩:=(h3.el (i:=0) rfl).vals
 revert Af;revert hv0;revert us0;revert hks
 exact kQ.o):p:=h ⟨k⟩
def aG5 (l:List St):Prop:=∀(w0 w:World) (a:Option Addr) (c base:Nat) (L:List Int) (v:Value),bQ w0 a c 6 (sts l)->Below w0.heap.size w0 w->w0.heap.size<=base->base<=w.heap.size->Own w base v L.length L->gJ l=true->L.length+(prB l).length<=1000000000->aH (sts l)<=1048576 →
 Calls Tryz.prog 56 #[v,.slice a l.length c] w fun e w'=>∃v',e=.returned v'/\Own w' base v' (L++prB l).length (L++prB l)/\Wr L.length base w w'
theorem Sg.with {w0 ws w:World}{n0 base:Nat}{B C:World->Prop}{L:List Int}{v:Value}(h:Sg w0 ws n0 base B w L v)(hc:C w)(hk:∀x y,C x->aG base none x y->C y):Sg w0 ws n0 base C w L v:=
 ⟨h.own,hc,hk,h.wrote,h.hn,h.bel,h.le,h.h0⟩
theorem Sg.any {w0 ws w:World}{n0 base:Nat}{B:World->Prop}{L:List Int}{v:Value}(h:Sg w0 ws n0 base B w L v):Sg w0 ws n0 base (fun _=>True) w L v:=h.with trivial (fun _ _ _ _=>trivial)
theorem nW {α:Type}{l:List α}(h:l.length=1):∃x,l=[x]:=by
 match l,h with
 | [x],_=>exact⟨x,rfl⟩
theorem aMt {α:Type}{l:List α}(h:l.length=2):∃x y,l=[x,y]:=by
 match l,h with
 | [x,y],_=>exact⟨x,y,rfl⟩
set_option maxHeartbeats 16000000 in
theorem aK7 (l:List St)(H:∀k n name ks bs es,St.mk k n name ks bs es ∈ l->aG5 bs/\aG5 es):aG5 l:=by
 intro w0 w a c base L v hr hb h0 hle ho hok Am hs
 have hln:(sts l).length=l.length:=by simp[bL]
 have hn9:l.length<=9223372036854775807:=by have h7:=hr.cap;have h6:=hr.most;unfold maxLen at h6;omega
 obtain⟨nl,hnl⟩:∃z,z=l.length:=⟨_,rfl⟩
 rw[<-hnl]at hln hn9 ⊢;have HNL:=hid hnl.symm;clear hnl;have HH:=hid H;have HR:=hid hr
 have HOK:Hid (∀x ∈ l,xD x=true):=by rw[mR,zF3]at hok;exact hok
 have HG:Hid (Sg w0 w L.length base (fun _=>True) w (L++prB (l.take 0)) v):=by
  show Sg _ _ _ _ _ _ _ _
  have:Sg w0 w L.length base (fun _=>True) w L v:=⟨ho,trivial,fun _ _ _ _=>trivial,Wr.refl _ _ _,zB0 _,hb,hle,h0⟩
  simpa [prB] using this
 clear H hr hok ho hb;go_enter Tryz.func56,Tryz.ntmps56;go_wp2_with fail
 go_loopw [0,5,6] (fun b i _ wr=>∃j:Nat,j<=nl/\i=.int .i64 j/\Hid (Sg w0 w L.length base (fun _=>True) wr (L++prB (l.take j)) b)) (fun _ i _ _=>nl-(intOf i).toNat)
 case atStart=>exact⟨0,zD1 _,rfl,HG⟩
 case round=>
  obtain⟨j,hj,rfl,hGr⟩:=hrel;have Gr:=hGr.out;clear HG hGr
  by_cases Aj:j<nl
  .
   obtain⟨b3,o3,rfl⟩:=bQ.addr HR.out (by rw[hln];omega)
   obtain⟨x,hx⟩:∃x,l[j]?=some x:=⟨l[j]'(by rw[HNL.out];exact Aj),zA0 _⟩
   have Bc:(sts l)[j]?=some x.fl:=by rw[bL,zA2,hx];rfl
   obtain⟨us,Ai,Ab⟩:=(bQ.el HR.out Bc).vals;have hsx:=zF2 (aX (zA3 Bc)) hs;have hokx:=HOK.out x (zA3 hx);have HNX:=hid (sM hx);obtain⟨k,n,name,ks,bs,es⟩:=x
   obtain⟨HSB,HSE⟩:Hid (aG5 bs)/\Hid (aG5 es):=HH.out k n name ks bs es (zA3 hx)
   obtain⟨hloc,hks,hokb',hoke'⟩:=aV hokx;have hokb:=hid hokb';have hoke:=hid hoke';clear hokb' hoke' hokx hx Bc
   have es9:aL (St.mk k n name ks bs es).fl=name.length+((exs ks).length+aH (exs ks))+((sts bs).length+aH (sts bs))+((sts es).length+aH (sts es)):=by simp[St.fl,aL,Fl.len] <;> omega
   rw[es9]at hsx;have hs1:name.length<=1048576:=Q0
   have hs2:aH (exs ks)<=1048576:=Q0
   have hs3:aH (sts bs)<=1048576:=Q0
   have hs4:aH (sts es)<=1048576:=Q0
   clear hsx es9;unfold St.fl at Ai;obtain⟨y0,_,rfl,rfl,y1,_,rfl,rfl,y2,_,rfl,⟨a2,c2,rfl,h2,hc2,_⟩,y3,_,rfl,h3',y4,_,rfl,Be,y5,_,rfl,h5',rfl⟩:=Ai;obtain⟨a3,c3,rfl,h3⟩:=h3'.list;obtain⟨a4,c4,rfl,h4⟩:=Be.list;obtain⟨a5,c5,rfl,h5⟩:=h5'.list;clear h3' Be h5';have HRB:=hid h4;have HRE:=hid h5
   have t0:wr.cell? ⟨b3,o3+j*6,none⟩=some (.int .i64 k):=aC (Ab 0 _ rfl) Gr.bel
   have t1:wr.cell? ⟨b3,o3+j*6+1,none⟩=some (.int .i64 n):=aC (Ab 1 _ rfl) Gr.bel
   have t2:wr.cell? ⟨b3,o3+j*6+2,none⟩=some (.slice a2 name.length c2):=aC (Ab 2 _ rfl) Gr.bel
   have t3:wr.cell? ⟨b3,o3+j*6+3,none⟩=some (.slice a3 (exs ks).length c3):=aC (Ab 3 _ rfl) Gr.bel
   have t4:wr.cell? ⟨b3,o3+j*6+4,none⟩=some (.slice a4 (sts bs).length c4):=aC (Ab 4 _ rfl) Gr.bel
   have t5:wr.cell? ⟨b3,o3+j*6+5,none⟩=some (.slice a5 (sts es).length c5):=aC (Ab 5 _ rfl) Gr.bel
   clear Ab h4 h5;refine M925 ?_;intro hbl hel;rw[hbl]at t4;rw[hel]at t5;clear hbl hel
   obtain⟨nn,hnn⟩:∃z,z=name.length:=⟨_,rfl⟩
   rw[<-hnn]at h2 hs1 hc2 t2;have HNA:=hid hnn.symm
   obtain⟨nb,hnb⟩:∃z,z=bs.length:=⟨_,rfl⟩
   obtain⟨ne,Aw⟩:∃z,z=es.length:=⟨_,rfl⟩
   rw[<-hnb]at t4;rw[<-Aw]at t5;have HNB:=hid hnb.symm;have HNE:=hid Aw.symm;clear hnn hnb Aw;obtain⟨hlen1,hlen2,hlen3,_⟩:=mI hloc;have h8:k=0\/k=1\/k=2\/k=3\/k=4\/k=5\/k=6\/k=7:=Q0;clear hlen2 hlen3
   rcases h8 with rfl|rfl|rfl|rfl|rfl|rfl|rfl|rfl
   .
    simp[cO]at hlen1
    obtain⟨e0,rfl⟩:=nW (l:=ks) Q0
    have An:(exs [e0]).length=1:=by simp[aQ]
    rw[An]at t3;obtain⟨b4,o4,rfl⟩:=h3.addr Q18
    obtain⟨cc,rfl⟩:∃cc,c3=cc+1:=⟨c3-1,by have:=h3.cap;rw[An]at this;omega⟩
    refine M950 ?_;clear hks;intro hks us0 hv0 Af;obtain⟨u00,u01,u02,u03,u04,rfl⟩:=eZ (hv0.len.trans (cF e0));refine M92 ?_;intro Au As Ar Aq Ap;clear Af;refine M943 ?_;intro hsk0 hk0 S0 sw0;unfold Sw at sw0
    have HE:Hid (prS (.mk 0 n name [e0] bs es)=name++[32,58,61]++cS e0++[32,59,10]):=by
     show _=_
     have e9:prS (.mk 0 n name [e0] bs es)=name++[32,58,61]++(32 :: prE e0)++[59,10]:=by simp[prS,lE,fZ]
     rw[e9,sw0]
     simp[zD0]
    have hsz2:(L++prB (l.take j)++(name++[32,58,61]++cS e0++[32,59,10])).length<=1000000000:=by rw[<-HE.out,zD0,<-HNX.out];have:=iL l (j+1);simp only[zA1]at this ⊢;omega
    simp only[zA1,zB1,zC3]at hsz2
    have hnp:0<nn:=by rw[<-HNA.out];exact dV (mH hloc Q5)
    clear hloc h3;have x0:=Blk.new wr 116 [.int .i64 0,.int .i64 n,.slice a2 nn c2,.slice (some ⟨b4,o4,none⟩) 1 (cc+1),.slice a4 nb c4,.slice a5 ne c5]
    have Gs:Sg w0 w L.length base (fun x=>Blk x wr.heap.size 116 [.int .i64 0,.int .i64 n,.slice a2 nn c2,.slice (some ⟨b4,o4,none⟩) 1 (cc+1),.slice a4 nb c4,.slice a5 ne c5]) (wr.alloc (.cells #[.int .i64 0,.int .i64 n,.slice a2 nn c2,.slice (some ⟨b4,o4,none⟩) 1 (cc+1),.slice a4 nb c4,.slice a5 ne c5] 116 (0,0))) (L++prB (l.take j)) u0:=(Gr.alloc _).with x0 (dB Q5)
    have q0:=x0.k 0;clear x0 Gr;go_upto_region 5 with fail;generalize wr.alloc (.cells #[.int .i64 0,.int .i64 n,.slice a2 nn c2,.slice (some ⟨b4,o4,none⟩) 1 (cc+1),.slice a4 nb c4,.slice a5 ne c5] 116 (0,0))=w1 at *;generalize wr.heap.size=gx at *;clear t0 t1 t2 t3 t4 t5;go_upto_region 8 with fail;clear q0;have G73:=Gs.drew
    refine zK1 (S:=fun wx=>wx.cell? ⟨gx,2,none⟩=some (.slice a2 nn c2)/\wx.cell? ⟨gx,3,none⟩=some (.slice (some ⟨b4,o4,none⟩) 1 (cc+1))/\wx.cell? ⟨b4,o4,none⟩=some u00/\wx.cell? ⟨b4,o4+1,none⟩=some u01/\wx.cell? ⟨b4,o4+2,none⟩=some u02/\wx.cell? ⟨b4,o4+3,none⟩=some u03/\wx.cell? ⟨b4,o4+4,none⟩=some u04) Q1 ⟨G73.k 2,G73.k 3,aC Au G73.bel,aC As G73.bel,aC Ar G73.bel,aC Aq G73.bel,aC Ap G73.bel⟩ (fun Aa=>?_)
    generalize w1.drew=w73 at *;clear Gs;refine M918 ?_;refine ta 5 ?_;refine ta 6 ?_;refine ta 7 ?_;try simp only[nrm]
    refine ta 8 ?_;try simp only[nrm]
    refine ra 3 fun K hK=>?_
    rw[if_pos Q1];refine G73.row_wp _ _ rfl rfl a2 nn c2 name rfl (G73.row h2) hnp Q7 ?_;intro v75 w75 G75 gr75
    refine hK.out _ _ ⟨G75.k 2,G75.k 3,aC Au G75.bel,aC As G75.bel,aC Ar G75.bel,aC Aq G75.bel,aC Ap G75.bel⟩ (fun Aa=>?_)
    clear hK K G73;try simp only[nrm]
    refine ra 4 fun K hK=>?_
    rw[if_pos Q1];refine G75.str_wp _ _ rfl rfl ⟨#[32,58,61]⟩ rfl Q12 ?_;intro v77 w77 G77 gr77
    replace G77:Sg w0 w L.length base _ w77 (L++prB (l.take j)++name++[32,58,61]) v77:=G77
    refine hK.out _ _ ⟨G77.k 2,G77.k 3,aC Au G77.bel,aC As G77.bel,aC Ar G77.bel,aC Aq G77.bel,aC Ap G77.bel⟩ (fun Aa=>?_)
    clear hK K G75;try simp only[nrm]
    refine ra 9 fun K hK=>?_
    go_simp;have H79:=S0 w0 w77 _ base (L++prB (l.take j)++name++[32,58,61]) v77 hv0 G77.bel G77.h0 G77.le G77.own hk0 Q7 hsk0;simp only[agg]at H79;refine H79.mono ?_;rintro e w79 ⟨v79,rfl,ho79,hw79⟩;have G79:=G77.step hw79 ho79;clear H79 ho79 hw79;go_wp2_with fail
    refine hK.out _ _ ⟨G79.k 2,G79.k 3,aC Au G79.bel,aC As G79.bel,aC Ar G79.bel,aC Aq G79.bel,aC Ap G79.bel⟩ (fun Aa=>?_)
    clear hK K G77;try simp only[nrm]
    refine ta 10 ?_;try simp only[nrm]
    refine zK2 Q1 ?_ _
    go_wp2_with (at_builtin;refine Sg.str_list G79 rfl _ _ rfl rfl ⟨#[32,59,10]⟩ rfl Q12 ?_)
    intro v80 w80 G80 _;replace G80:=G80.cast (M:=L++prB (l.take j)++name++[32,58,61]++cS e0++[32,59,10]) Q15;clear G79
    have HG':Hid (Sg w0 w L.length base (fun _=>True) w80 (L++prB (l.take (j+1))) v80):=by
     have:=G80.any
     exact U18
    clear G80;exact U8
   .
    simp[cO]at hlen1
    obtain⟨e0,e1,rfl⟩:=aMt (l:=ks) Q0
    have An:(exs [e0,e1]).length=2:=by simp[aQ]
    rw[An]at t3;obtain⟨b4,o4,rfl⟩:=h3.addr Q18
    obtain⟨cc,rfl⟩:∃cc,c3=cc+2:=⟨c3-2,by have:=h3.cap;rw[An]at this;omega⟩
    refine M950 ?_;clear hks;intro hks us0 hv0 Af;obtain⟨u00,u01,u02,u03,u04,rfl⟩:=eZ (hv0.len.trans (cF e0));refine M92 ?_;intro Au As Ar Aq Ap;clear Af
    have hsk0:aL e0.fl<=1048576:=by simp only[exs,aH]at hs2;omega
    have hk0:=hks.1;have S0:=sJ e0;have sw0:=lU e0 hk0;unfold Sw at sw0;obtain⟨us1,hv1,hcl1⟩:=(h3.el (i:=1) rfl).vals;obtain⟨u10,u11,u12,u13,u14,rfl⟩:=eZ (hv1.len.trans (cF e1));refine M948 ?_;intro hc10 hc11 hc12 hc13 hc14;clear hcl1
    have hsk1:aL e1.fl<=1048576:=by simp only[exs,aH]at hs2;omega
    have hk1:=hks.2;have S1:=sJ e1;have sw1:=lU e1 hk1;unfold Sw at sw1
    have HE:Hid (prS (.mk 1 n name [e0,e1] bs es)=name++[32,91]++cS e0++[32,93,32,58,61]++cS e1++[32,59,10]):=by
     show _=_
     have e9:prS (.mk 1 n name [e0,e1] bs es)=name++[32,91]++(32 :: prE e0)++[93,32,58,61]++(32 :: prE e1)++[59,10]:=by simp[prS,lE,fZ]
     rw[e9,sw0,sw1]
     simp[zD0]
    have hsz2:(L++prB (l.take j)++(name++[32,91]++cS e0++[32,93,32,58,61]++cS e1++[32,59,10])).length<=1000000000:=by rw[<-HE.out,zD0,<-HNX.out];have:=iL l (j+1);simp only[zA1]at this ⊢;omega
    simp only[zA1,zB1,zC3]at hsz2
    have hnp:0<nn:=by rw[<-HNA.out];exact dV (mH hloc Q5)
    clear hloc h3;have x0:=Blk.new wr 116 [.int .i64 1,.int .i64 n,.slice a2 nn c2,.slice (some ⟨b4,o4,none⟩) 2 (cc+2),.slice a4 nb c4,.slice a5 ne c5]
    have Gs:Sg w0 w L.length base (fun x=>Blk x wr.heap.size 116 [.int .i64 1,.int .i64 n,.slice a2 nn c2,.slice (some ⟨b4,o4,none⟩) 2 (cc+2),.slice a4 nb c4,.slice a5 ne c5]) (wr.alloc (.cells #[.int .i64 1,.int .i64 n,.slice a2 nn c2,.slice (some ⟨b4,o4,none⟩) 2 (cc+2),.slice a4 nb c4,.slice a5 ne c5] 116 (0,0))) (L++prB (l.take j)) u0:=(Gr.alloc _).with x0 (dB Q5)
    have q0:=x0.k 0;clear x0 Gr;go_upto_region 5 with fail;generalize wr.alloc (.cells #[.int .i64 1,.int .i64 n,.slice a2 nn c2,.slice (some ⟨b4,o4,none⟩) 2 (cc+2),.slice a4 nb c4,.slice a5 ne c5] 116 (0,0))=w1 at *;generalize wr.heap.size=gx at *;clear t0 t1 t2 t3 t4 t5;go_upto_region 10 with fail;clear q0;have G81:=Gs.drew
    refine zK1 (S:=fun wx=>wx.cell? ⟨gx,2,none⟩=some (.slice a2 nn c2)/\wx.cell? ⟨gx,3,none⟩=some (.slice (some ⟨b4,o4,none⟩) 2 (cc+2))/\wx.cell? ⟨b4,o4,none⟩=some u00/\wx.cell? ⟨b4,o4+1,none⟩=some u01/\wx.cell? ⟨b4,o4+2,none⟩=some u02/\wx.cell? ⟨b4,o4+3,none⟩=some u03/\wx.cell? ⟨b4,o4+4,none⟩=some u04) Q1 ⟨G81.k 2,G81.k 3,aC Au G81.bel,aC As G81.bel,aC Ar G81.bel,aC Aq G81.bel,aC Ap G81.bel⟩ (fun Aa=>?_)
    generalize w1.drew=w81 at *;clear Gs;refine M918 ?_;refine ta 5 ?_;refine ta 6 ?_;refine ta 7 ?_;try simp only[nrm]
    refine ta 8 ?_;try simp only[nrm]
    refine ra 3 fun K hK=>?_
    rw[if_pos Q1];refine G81.row_wp _ _ rfl rfl a2 nn c2 name rfl (G81.row h2) hnp Q7 ?_;intro v83 w83 G83 gr83
    refine hK.out _ _ ⟨G83.k 2,G83.k 3,aC Au G83.bel,aC As G83.bel,aC Ar G83.bel,aC Aq G83.bel,aC Ap G83.bel⟩ (fun Aa=>?_)
    clear hK K G81;try simp only[nrm]
    refine ra 4 fun K hK=>?_
    rw[if_pos Q1];refine G83.str_wp _ _ rfl rfl ⟨#[32,91]⟩ rfl Q10 ?_;intro v85 w85 G85 gr85
    replace G85:Sg w0 w L.length base _ w85 (L++prB (l.take j)++name++[32,91]) v85:=G85
    refine hK.out _ _ ⟨G85.k 2,G85.k 3,aC Au G85.bel,aC As G85.bel,aC Ar G85.bel,aC Aq G85.bel,aC Ap G85.bel⟩ (fun Aa=>?_)
    clear hK K G83;try simp only[nrm]
    refine ra 9 fun K hK=>?_
    go_simp;have H87:=S0 w0 w85 _ base (L++prB (l.take j)++name++[32,91]) v85 hv0 G85.bel G85.h0 G85.le G85.own hk0 Q7 hsk0;simp only[agg]at H87;refine H87.mono ?_;rintro e w87 ⟨v87,rfl,ho87,hw87⟩;have G87:=G85.step hw87 ho87;clear H87 ho87 hw87;go_wp2_with fail
    refine hK.out _ _ ⟨G87.k 2,G87.k 3,aC Au G87.bel,aC As G87.bel,aC Ar G87.bel,aC Aq G87.bel,aC Ap G87.bel⟩ (fun Aa=>?_)
    clear hK K G85;try simp only[nrm]
    refine ra 10 fun K hK=>?_
    rw[if_pos Q1];refine G87.str_wp _ _ rfl rfl ⟨#[32,93,32,58,61]⟩ rfl Q24 ?_;intro v89 w89 G89 gr89
    replace G89:Sg w0 w L.length base _ w89 (L++prB (l.take j)++name++[32,91]++cS e0++[32,93,32,58,61]) v89:=G89
    refine hK.out _ _ ⟨G89.k 2,G89.k 3,aC Au G89.bel,aC As G89.bel,aC Ar G89.bel,aC Aq G89.bel,aC Ap G89.bel⟩ (fun Aa=>?_)
    clear hK K G87;try simp only[nrm]
    refine ta 11 ?_;try simp only[nrm]
    refine zK2 Q1 ?_ _;have q3:=G89.k 3;have d0:=aC hc10 G89.bel;have d1:=aC hc11 G89.bel;have d2:=aC hc12 G89.bel;have d3:=aC hc13 G89.bel;have d4:=aC hc14 G89.bel;go_wp2_with fail;have H90:=S1 w0 w89 _ base (L++prB (l.take j)++name++[32,91]++cS e0++[32,93,32,58,61]) v89 hv1 G89.bel G89.h0 G89.le G89.own hk1 Q7 hsk1;simp only[agg]at H90;refine H90.mono ?_;rintro e w90 ⟨v90,rfl,ho90,hw90⟩;have G90:=G89.step hw90 ho90;clear H90 ho90 hw90;clear q3 d0 d1 d2 d3 d4 G89
    go_wp2_with (at_builtin;refine Sg.str_list G90 rfl _ _ rfl rfl ⟨#[32,59,10]⟩ rfl Q12 ?_)
    intro v91 w91 G91 _;replace G91:=G91.cast (M:=L++prB (l.take j)++name++[32,91]++cS e0++[32,93,32,58,61]++cS e1++[32,59,10]) Q15;clear G90
    have HG':Hid (Sg w0 w L.length base (fun _=>True) w91 (L++prB (l.take (j+1))) v91):=by
     have:=G91.any
     exact U18
    clear G91;exact U8
   .
    simp[cO]at hlen1
    obtain⟨e0,rfl⟩:=nW (l:=ks) Q0
    have An:(exs [e0]).length=1:=by simp[aQ]
    rw[An]at t3;obtain⟨b4,o4,rfl⟩:=h3.addr Q18
    obtain⟨cc,rfl⟩:∃cc,c3=cc+1:=⟨c3-1,by have:=h3.cap;rw[An]at this;omega⟩
    refine M950 ?_;clear hks;intro hks us0 hv0 Af;obtain⟨u00,u01,u02,u03,u04,rfl⟩:=eZ (hv0.len.trans (cF e0));refine M92 ?_;intro Au As Ar Aq Ap;clear Af;refine M943 ?_;intro hsk0 hk0 S0 sw0;unfold Sw at sw0
    have HE:Hid (prS (.mk 2 n name [e0] bs es)=[73,70]++cS e0++[32,84,72,69,78,10]++prB bs++[69,76,83,69,10]++prB es++[69,78,68]++[32,59,10]):=by
     show _=_
     have e9:prS (.mk 2 n name [e0] bs es)=[73,70]++(32 :: prE e0)++[84,72,69,78,10]++prB bs++[69,76,83,69,10]++prB es++[69,78,68,32,59,10]:=by simp[prS,lE,fZ]
     rw[e9,sw0]
     simp[zD0]
    have hsz2:(L++prB (l.take j)++([73,70]++cS e0++[32,84,72,69,78,10]++prB bs++[69,76,83,69,10]++prB es++[69,78,68]++[32,59,10])).length<=1000000000:=by rw[<-HE.out,zD0,<-HNX.out];have:=iL l (j+1);simp only[zA1]at this ⊢;omega
    simp only[zA1,zB1,zC3]at hsz2;clear hloc h3;have x0:=Blk.new wr 116 [.int .i64 2,.int .i64 n,.slice a2 nn c2,.slice (some ⟨b4,o4,none⟩) 1 (cc+1),.slice a4 nb c4,.slice a5 ne c5]
    have Gs:Sg w0 w L.length base (fun x=>Blk x wr.heap.size 116 [.int .i64 2,.int .i64 n,.slice a2 nn c2,.slice (some ⟨b4,o4,none⟩) 1 (cc+1),.slice a4 nb c4,.slice a5 ne c5]) (wr.alloc (.cells #[.int .i64 2,.int .i64 n,.slice a2 nn c2,.slice (some ⟨b4,o4,none⟩) 1 (cc+1),.slice a4 nb c4,.slice a5 ne c5] 116 (0,0))) (L++prB (l.take j)) u0:=(Gr.alloc _).with x0 (dB Q5)
    have q0:=x0.k 0;clear x0 Gr;go_upto_region 5 with fail;generalize wr.alloc (.cells #[.int .i64 2,.int .i64 n,.slice a2 nn c2,.slice (some ⟨b4,o4,none⟩) 1 (cc+1),.slice a4 nb c4,.slice a5 ne c5] 116 (0,0))=w1 at *;generalize wr.heap.size=gx at *;clear t0 t1 t2 t3 t4 t5;go_upto_region 13 with fail;clear q0;have G92:=Gs.drew
    refine zK1 (S:=fun wx=>wx.cell? ⟨gx,3,none⟩=some (.slice (some ⟨b4,o4,none⟩) 1 (cc+1))/\wx.cell? ⟨b4,o4,none⟩=some u00/\wx.cell? ⟨b4,o4+1,none⟩=some u01/\wx.cell? ⟨b4,o4+2,none⟩=some u02/\wx.cell? ⟨b4,o4+3,none⟩=some u03/\wx.cell? ⟨b4,o4+4,none⟩=some u04) Q1 ⟨G92.k 3,aC Au G92.bel,aC As G92.bel,aC Ar G92.bel,aC Aq G92.bel,aC Ap G92.bel⟩ (fun Aa=>?_)
    generalize w1.drew=w92 at *;clear Gs;refine M927 ?_;refine ta 4 ?_;refine ta 5 ?_;try simp only[nrm]
    refine ra 1 fun K hK=>?_
    rw[if_pos Q1];refine G92.str_wp _ _ rfl rfl ⟨#[73,70]⟩ rfl Q10 ?_;intro v94 w94 G94 gr94
    replace G94:Sg w0 w L.length base _ w94 (L++prB (l.take j)++[73,70]) v94:=G94
    refine hK.out _ _ ⟨G94.k 3,aC Au G94.bel,aC As G94.bel,aC Ar G94.bel,aC Aq G94.bel,aC Ap G94.bel⟩ (fun Aa=>?_)
    clear hK K G92;try simp only[nrm]
    refine ra 6 fun K hK=>?_
    go_simp;have H96:=S0 w0 w94 _ base (L++prB (l.take j)++[73,70]) v94 hv0 G94.bel G94.h0 G94.le G94.own hk0 Q7 hsk0;simp only[agg]at H96;refine H96.mono ?_;rintro e w96 ⟨v96,rfl,ho96,hw96⟩;have G96:=G94.step hw96 ho96;clear H96 ho96 hw96;go_wp2_with fail
    refine hK.out _ _ ⟨G96.k 3,aC Au G96.bel,aC As G96.bel,aC Ar G96.bel,aC Aq G96.bel,aC Ap G96.bel⟩ (fun Aa=>?_)
    clear hK K G94;try simp only[nrm]
    refine ra 7 fun K hK=>?_
    rw[if_pos Q1];refine G96.str_wp _ _ rfl rfl ⟨#[32,84,72,69,78,10]⟩ rfl Q31 ?_;intro v98 w98 G98 gr98
    replace G98:Sg w0 w L.length base _ w98 (L++prB (l.take j)++[73,70]++cS e0++[32,84,72,69,78,10]) v98:=G98
    refine hK.out _ _ ⟨G98.k 3,aC Au G98.bel,aC As G98.bel,aC Ar G98.bel,aC Aq G98.bel,aC Ap G98.bel⟩ (fun Aa=>?_)
    clear hK K G96;try simp only[nrm]
    refine ta 8 ?_;try simp only[nrm]
    refine zK2 Q1 ?_ _;have q4:=G98.k 4;have HC:=HSB.out w0 w98 _ _ base (L++prB (l.take j)++[73,70]++cS e0++[32,84,72,69,78,10]) v98 HRB.out G98.bel G98.h0 G98.le G98.own hokb.out Q7 hs3;rw[HNB.out]at HC;go_wp2_with fail;refine HC.mono ?_;rintro e w99 ⟨v99,rfl,ho99,hw99⟩;have G99:=G98.step hw99 ho99;clear HC ho99 hw99 q4 G98
    go_wp2_with (at_builtin;refine Sg.str_list G99 rfl _ _ rfl rfl ⟨#[69,76,83,69,10]⟩ rfl Q24 ?_)
    intro v100 w100 G100 _
    replace G100:=G100.cast (M:=L++prB (l.take j)++[73,70]++cS e0++[32,84,72,69,78,10]++prB bs++[69,76,83,69,10]) (by simp[show sI ⟨#[69,76,83,69,10]⟩=[69,76,83,69,10] from rfl])
    clear G99;have q5:=G100.k 5;have HC:=HSE.out w0 w100 _ _ base (L++prB (l.take j)++[73,70]++cS e0++[32,84,72,69,78,10]++prB bs++[69,76,83,69,10]) v100 HRE.out G100.bel G100.h0 G100.le G100.own hoke.out Q7 hs4;rw[HNE.out]at HC;go_wp2_with fail;refine HC.mono ?_;rintro e w101 ⟨v101,rfl,ho101,hw101⟩;have G101:=G100.step hw101 ho101;clear HC ho101 hw101 q5 G100
    go_wp2_with (at_builtin;refine Sg.str_list G101 rfl _ _ rfl rfl ⟨#[69,78,68]⟩ rfl Q12 ?_)
    intro v102 w102 G102 _;replace G102:=G102.cast (M:=L++prB (l.take j)++[73,70]++cS e0++[32,84,72,69,78,10]++prB bs++[69,76,83,69,10]++prB es++[69,78,68]) Q61;clear G101
    go_wp2_with (at_builtin;refine Sg.str_list G102 rfl _ _ rfl rfl ⟨#[32,59,10]⟩ rfl Q12 ?_)
    intro v103 w103 G103 _;replace G103:=G103.cast (M:=L++prB (l.take j)++[73,70]++cS e0++[32,84,72,69,78,10]++prB bs++[69,76,83,69,10]++prB es++[69,78,68]++[32,59,10]) Q15;clear G102
    have HG':Hid (Sg w0 w L.length base (fun _=>True) w103 (L++prB (l.take (j+1))) v103):=by
     have:=G103.any
     exact U18
    clear G103;exact U8
   .
    simp[cO]at hlen1
    obtain⟨e0,rfl⟩:=nW (l:=ks) Q0
    have An:(exs [e0]).length=1:=by simp[aQ]
    rw[An]at t3;obtain⟨b4,o4,rfl⟩:=h3.addr Q18
    obtain⟨cc,rfl⟩:∃cc,c3=cc+1:=⟨c3-1,by have:=h3.cap;rw[An]at this;omega⟩
    refine M950 ?_;clear hks;intro hks us0 hv0 Af;obtain⟨u00,u01,u02,u03,u04,rfl⟩:=eZ (hv0.len.trans (cF e0));refine M92 ?_;intro Au As Ar Aq Ap;clear Af;refine M943 ?_;intro hsk0 hk0 S0 sw0;unfold Sw at sw0
    have HE:Hid (prS (.mk 3 n name [e0] bs es)=[87,72,73,76,69]++cS e0++[32,68,79,10]++prB bs++[69,78,68]++[32,59,10]):=by
     show _=_
     have e9:prS (.mk 3 n name [e0] bs es)=[87,72,73,76,69]++(32 :: prE e0)++[68,79,10]++prB bs++[69,78,68,32,59,10]:=by simp[prS,lE,fZ]
     rw[e9,sw0]
     simp[zD0]
    have hsz2:(L++prB (l.take j)++([87,72,73,76,69]++cS e0++[32,68,79,10]++prB bs++[69,78,68]++[32,59,10])).length<=1000000000:=by rw[<-HE.out,zD0,<-HNX.out];have:=iL l (j+1);simp only[zA1]at this ⊢;omega
    simp only[zA1,zB1,zC3]at hsz2;clear hloc h3;have x0:=Blk.new wr 116 [.int .i64 3,.int .i64 n,.slice a2 nn c2,.slice (some ⟨b4,o4,none⟩) 1 (cc+1),.slice a4 nb c4,.slice a5 ne c5]
    have Gs:Sg w0 w L.length base (fun x=>Blk x wr.heap.size 116 [.int .i64 3,.int .i64 n,.slice a2 nn c2,.slice (some ⟨b4,o4,none⟩) 1 (cc+1),.slice a4 nb c4,.slice a5 ne c5]) (wr.alloc (.cells #[.int .i64 3,.int .i64 n,.slice a2 nn c2,.slice (some ⟨b4,o4,none⟩) 1 (cc+1),.slice a4 nb c4,.slice a5 ne c5] 116 (0,0))) (L++prB (l.take j)) u0:=(Gr.alloc _).with x0 (dB Q5)
    have q0:=x0.k 0;clear x0 Gr;go_upto_region 5 with fail;generalize wr.alloc (.cells #[.int .i64 3,.int .i64 n,.slice a2 nn c2,.slice (some ⟨b4,o4,none⟩) 1 (cc+1),.slice a4 nb c4,.slice a5 ne c5] 116 (0,0))=w1 at *;generalize wr.heap.size=gx at *;clear t0 t1 t2 t3 t4 t5;go_upto_region 17 with fail;clear q0;have G104:=Gs.drew
    refine zK1 (S:=fun wx=>wx.cell? ⟨gx,3,none⟩=some (.slice (some ⟨b4,o4,none⟩) 1 (cc+1))/\wx.cell? ⟨b4,o4,none⟩=some u00/\wx.cell? ⟨b4,o4+1,none⟩=some u01/\wx.cell? ⟨b4,o4+2,none⟩=some u02/\wx.cell? ⟨b4,o4+3,none⟩=some u03/\wx.cell? ⟨b4,o4+4,none⟩=some u04) Q1 ⟨G104.k 3,aC Au G104.bel,aC As G104.bel,aC Ar G104.bel,aC Aq G104.bel,aC Ap G104.bel⟩ (fun Aa=>?_)
    generalize w1.drew=w104 at *;clear Gs;refine M927 ?_;refine ta 4 ?_;refine ta 5 ?_;try simp only[nrm]
    refine ra 1 fun K hK=>?_
    rw[if_pos Q1];refine G104.str_wp _ _ rfl rfl ⟨#[87,72,73,76,69]⟩ rfl Q24 ?_;intro v106 w106 G106 gr106
    replace G106:Sg w0 w L.length base _ w106 (L++prB (l.take j)++[87,72,73,76,69]) v106:=G106
    refine hK.out _ _ ⟨G106.k 3,aC Au G106.bel,aC As G106.bel,aC Ar G106.bel,aC Aq G106.bel,aC Ap G106.bel⟩ (fun Aa=>?_)
    clear hK K G104;try simp only[nrm]
    refine ra 6 fun K hK=>?_
    go_simp;have H108:=S0 w0 w106 _ base (L++prB (l.take j)++[87,72,73,76,69]) v106 hv0 G106.bel G106.h0 G106.le G106.own hk0 Q7 hsk0;simp only[agg]at H108;refine H108.mono ?_;rintro e w108 ⟨v108,rfl,ho108,hw108⟩;have G108:=G106.step hw108 ho108;clear H108 ho108 hw108;go_wp2_with fail
    refine hK.out _ _ ⟨G108.k 3,aC Au G108.bel,aC As G108.bel,aC Ar G108.bel,aC Aq G108.bel,aC Ap G108.bel⟩ (fun Aa=>?_)
    clear hK K G106;try simp only[nrm]
    refine ra 7 fun K hK=>?_
    rw[if_pos Q1];refine G108.str_wp _ _ rfl rfl ⟨#[32,68,79,10]⟩ rfl Q38 ?_;intro v110 w110 G110 gr110
    replace G110:Sg w0 w L.length base _ w110 (L++prB (l.take j)++[87,72,73,76,69]++cS e0++[32,68,79,10]) v110:=G110
    refine hK.out _ _ ⟨G110.k 3,aC Au G110.bel,aC As G110.bel,aC Ar G110.bel,aC Aq G110.bel,aC Ap G110.bel⟩ (fun Aa=>?_)
    clear hK K G108;try simp only[nrm]
    refine ta 8 ?_;try simp only[nrm]
    refine zK2 Q1 ?_ _;have q4:=G110.k 4;have HC:=HSB.out w0 w110 _ _ base (L++prB (l.take j)++[87,72,73,76,69]++cS e0++[32,68,79,10]) v110 HRB.out G110.bel G110.h0 G110.le G110.own hokb.out Q7 hs3;rw[HNB.out]at HC;go_wp2_with fail;refine HC.mono ?_;rintro e w111 ⟨v111,rfl,ho111,hw111⟩;have G111:=G110.step hw111 ho111;clear HC ho111 hw111 q4 G110
    go_wp2_with (at_builtin;refine Sg.str_list G111 rfl _ _ rfl rfl ⟨#[69,78,68]⟩ rfl Q12 ?_)
    intro v112 w112 G112 _;replace G112:=G112.cast (M:=L++prB (l.take j)++[87,72,73,76,69]++cS e0++[32,68,79,10]++prB bs++[69,78,68]) Q61;clear G111
    go_wp2_with (at_builtin;refine Sg.str_list G112 rfl _ _ rfl rfl ⟨#[32,59,10]⟩ rfl Q12 ?_)
    intro v113 w113 G113 _;replace G113:=G113.cast (M:=L++prB (l.take j)++[87,72,73,76,69]++cS e0++[32,68,79,10]++prB bs++[69,78,68]++[32,59,10]) Q15;clear G112
    have HG':Hid (Sg w0 w L.length base (fun _=>True) w113 (L++prB (l.take (j+1))) v113):=by
     have:=G113.any
     exact U18
    clear G113;exact U8
   .
    simp[cO]at hlen1
    obtain⟨e0,rfl⟩:=nW (l:=ks) Q0
    have An:(exs [e0]).length=1:=by simp[aQ]
    rw[An]at t3;obtain⟨b4,o4,rfl⟩:=h3.addr Q18
    obtain⟨cc,rfl⟩:∃cc,c3=cc+1:=⟨c3-1,by have:=h3.cap;rw[An]at this;omega⟩
    refine M950 ?_;clear hks;intro hks us0 hv0 Af;obtain⟨u00,u01,u02,u03,u04,rfl⟩:=eZ (hv0.len.trans (cF e0));refine M92 ?_;intro Au As Ar Aq Ap;clear Af;refine M943 ?_;intro hsk0 hk0 S0 sw0;unfold Sw at sw0
    have HE:Hid (prS (.mk 4 n name [e0] bs es)=[82,69,84,85,82,78]++cS e0++[32,59,10]):=by
     show _=_
     have e9:prS (.mk 4 n name [e0] bs es)=[82,69,84,85,82,78]++(32 :: prE e0)++[59,10]:=by simp[prS,lE,fZ]
     rw[e9,sw0]
     simp[zD0]
    have hsz2:(L++prB (l.take j)++([82,69,84,85,82,78]++cS e0++[32,59,10])).length<=1000000000:=by rw[<-HE.out,zD0,<-HNX.out];have:=iL l (j+1);simp only[zA1]at this ⊢;omega
    simp only[zA1,zB1,zC3]at hsz2;clear hloc h3;have x0:=Blk.new wr 116 [.int .i64 4,.int .i64 n,.slice a2 nn c2,.slice (some ⟨b4,o4,none⟩) 1 (cc+1),.slice a4 nb c4,.slice a5 ne c5]
    have Gs:Sg w0 w L.length base (fun x=>Blk x wr.heap.size 116 [.int .i64 4,.int .i64 n,.slice a2 nn c2,.slice (some ⟨b4,o4,none⟩) 1 (cc+1),.slice a4 nb c4,.slice a5 ne c5]) (wr.alloc (.cells #[.int .i64 4,.int .i64 n,.slice a2 nn c2,.slice (some ⟨b4,o4,none⟩) 1 (cc+1),.slice a4 nb c4,.slice a5 ne c5] 116 (0,0))) (L++prB (l.take j)) u0:=(Gr.alloc _).with x0 (dB Q5)
    have q0:=x0.k 0;clear x0 Gr;go_upto_region 5 with fail;generalize wr.alloc (.cells #[.int .i64 4,.int .i64 n,.slice a2 nn c2,.slice (some ⟨b4,o4,none⟩) 1 (cc+1),.slice a4 nb c4,.slice a5 ne c5] 116 (0,0))=w1 at *;generalize wr.heap.size=gx at *;clear t0 t1 t2 t3 t4 t5;go_upto_region 20 with fail;clear q0;have G114:=Gs.drew
    refine zK1 (S:=fun wx=>wx.cell? ⟨gx,3,none⟩=some (.slice (some ⟨b4,o4,none⟩) 1 (cc+1))/\wx.cell? ⟨b4,o4,none⟩=some u00/\wx.cell? ⟨b4,o4+1,none⟩=some u01/\wx.cell? ⟨b4,o4+2,none⟩=some u02/\wx.cell? ⟨b4,o4+3,none⟩=some u03/\wx.cell? ⟨b4,o4+4,none⟩=some u04) Q1 ⟨G114.k 3,aC Au G114.bel,aC As G114.bel,aC Ar G114.bel,aC Aq G114.bel,aC Ap G114.bel⟩ (fun Aa=>?_)
    generalize w1.drew=w114 at *;clear Gs;refine M927 ?_;refine ta 4 ?_;refine ta 5 ?_;try simp only[nrm]
    refine ra 1 fun K hK=>?_
    rw[if_pos Q1];refine G114.str_wp _ _ rfl rfl ⟨#[82,69,84,85,82,78]⟩ rfl Q31 ?_;intro v116 w116 G116 gr116
    replace G116:Sg w0 w L.length base _ w116 (L++prB (l.take j)++[82,69,84,85,82,78]) v116:=G116
    refine hK.out _ _ ⟨G116.k 3,aC Au G116.bel,aC As G116.bel,aC Ar G116.bel,aC Aq G116.bel,aC Ap G116.bel⟩ (fun Aa=>?_)
    clear hK K G114;try simp only[nrm]
    refine ra 6 fun K hK=>?_
    go_simp;have H118:=S0 w0 w116 _ base (L++prB (l.take j)++[82,69,84,85,82,78]) v116 hv0 G116.bel G116.h0 G116.le G116.own hk0 Q7 hsk0;simp only[agg]at H118;refine H118.mono ?_;rintro e w118 ⟨v118,rfl,ho118,hw118⟩;have G118:=G116.step hw118 ho118;clear H118 ho118 hw118;go_wp2_with fail
    refine hK.out _ _ ⟨G118.k 3,aC Au G118.bel,aC As G118.bel,aC Ar G118.bel,aC Aq G118.bel,aC Ap G118.bel⟩ (fun Aa=>?_)
    clear hK K G116;try simp only[nrm]
    refine ta 7 ?_;try simp only[nrm]
    refine zK2 Q1 ?_ _
    go_wp2_with (at_builtin;refine Sg.str_list G118 rfl _ _ rfl rfl ⟨#[32,59,10]⟩ rfl Q12 ?_)
    intro v119 w119 G119 _;replace G119:=G119.cast (M:=L++prB (l.take j)++[82,69,84,85,82,78]++cS e0++[32,59,10]) Q15;clear G118
    have HG':Hid (Sg w0 w L.length base (fun _=>True) w119 (L++prB (l.take (j+1))) v119):=by
     have:=G119.any
     exact U18
    clear G119;exact U8
   .
    simp[cO]at hlen1
    obtain⟨e0,rfl⟩:=nW (l:=ks) Q0
    have An:(exs [e0]).length=1:=by simp[aQ]
    rw[An]at t3;obtain⟨b4,o4,rfl⟩:=h3.addr Q18
    obtain⟨cc,rfl⟩:∃cc,c3=cc+1:=⟨c3-1,by have:=h3.cap;rw[An]at this;omega⟩
    refine M950 ?_;clear hks;intro hks us0 hv0 Af;obtain⟨u00,u01,u02,u03,u04,rfl⟩:=eZ (hv0.len.trans (cF e0));refine M92 ?_;intro Au As Ar Aq Ap;clear Af;refine M943 ?_;intro hsk0 hk0 S0 sw0;unfold Sw at sw0
    have HE:Hid (prS (.mk 5 n name [e0] bs es)=[79,85,84]++cS e0++[32,59,10]):=by
     show _=_
     have e9:prS (.mk 5 n name [e0] bs es)=[79,85,84]++(32 :: prE e0)++[59,10]:=by simp[prS,lE,fZ]
     rw[e9,sw0]
     simp[zD0]
    have hsz2:(L++prB (l.take j)++([79,85,84]++cS e0++[32,59,10])).length<=1000000000:=by rw[<-HE.out,zD0,<-HNX.out];have:=iL l (j+1);simp only[zA1]at this ⊢;omega
    simp only[zA1,zB1,zC3]at hsz2;clear hloc h3;have x0:=Blk.new wr 116 [.int .i64 5,.int .i64 n,.slice a2 nn c2,.slice (some ⟨b4,o4,none⟩) 1 (cc+1),.slice a4 nb c4,.slice a5 ne c5]
    have Gs:Sg w0 w L.length base (fun x=>Blk x wr.heap.size 116 [.int .i64 5,.int .i64 n,.slice a2 nn c2,.slice (some ⟨b4,o4,none⟩) 1 (cc+1),.slice a4 nb c4,.slice a5 ne c5]) (wr.alloc (.cells #[.int .i64 5,.int .i64 n,.slice a2 nn c2,.slice (some ⟨b4,o4,none⟩) 1 (cc+1),.slice a4 nb c4,.slice a5 ne c5] 116 (0,0))) (L++prB (l.take j)) u0:=(Gr.alloc _).with x0 (dB Q5)
    have q0:=x0.k 0;clear x0 Gr;go_upto_region 5 with fail;generalize wr.alloc (.cells #[.int .i64 5,.int .i64 n,.slice a2 nn c2,.slice (some ⟨b4,o4,none⟩) 1 (cc+1),.slice a4 nb c4,.slice a5 ne c5] 116 (0,0))=w1 at *;generalize wr.heap.size=gx at *;clear t0 t1 t2 t3 t4 t5;go_upto_region 22 with fail;clear q0;have G120:=Gs.drew
    refine zK1 (S:=fun wx=>wx.cell? ⟨gx,3,none⟩=some (.slice (some ⟨b4,o4,none⟩) 1 (cc+1))/\wx.cell? ⟨b4,o4,none⟩=some u00/\wx.cell? ⟨b4,o4+1,none⟩=some u01/\wx.cell? ⟨b4,o4+2,none⟩=some u02/\wx.cell? ⟨b4,o4+3,none⟩=some u03/\wx.cell? ⟨b4,o4+4,none⟩=some u04) Q1 ⟨G120.k 3,aC Au G120.bel,aC As G120.bel,aC Ar G120.bel,aC Aq G120.bel,aC Ap G120.bel⟩ (fun Aa=>?_)
    generalize w1.drew=w120 at *;clear Gs;refine M927 ?_;refine ta 4 ?_;refine ta 5 ?_;try simp only[nrm]
    refine ra 1 fun K hK=>?_
    rw[if_pos Q1];refine G120.str_wp _ _ rfl rfl ⟨#[79,85,84]⟩ rfl Q12 ?_;intro v122 w122 G122 gr122
    replace G122:Sg w0 w L.length base _ w122 (L++prB (l.take j)++[79,85,84]) v122:=G122
    refine hK.out _ _ ⟨G122.k 3,aC Au G122.bel,aC As G122.bel,aC Ar G122.bel,aC Aq G122.bel,aC Ap G122.bel⟩ (fun Aa=>?_)
    clear hK K G120;try simp only[nrm]
    refine ra 6 fun K hK=>?_
    go_simp;have H124:=S0 w0 w122 _ base (L++prB (l.take j)++[79,85,84]) v122 hv0 G122.bel G122.h0 G122.le G122.own hk0 Q7 hsk0;simp only[agg]at H124;refine H124.mono ?_;rintro e w124 ⟨v124,rfl,ho124,hw124⟩;have G124:=G122.step hw124 ho124;clear H124 ho124 hw124;go_wp2_with fail
    refine hK.out _ _ ⟨G124.k 3,aC Au G124.bel,aC As G124.bel,aC Ar G124.bel,aC Aq G124.bel,aC Ap G124.bel⟩ (fun Aa=>?_)
    clear hK K G122;try simp only[nrm]
    refine ta 7 ?_;try simp only[nrm]
    refine zK2 Q1 ?_ _
    go_wp2_with (at_builtin;refine Sg.str_list G124 rfl _ _ rfl rfl ⟨#[32,59,10]⟩ rfl Q12 ?_)
    intro v125 w125 G125 _;replace G125:=G125.cast (M:=L++prB (l.take j)++[79,85,84]++cS e0++[32,59,10]) Q15;clear G124
    have HG':Hid (Sg w0 w L.length base (fun _=>True) w125 (L++prB (l.take (j+1))) v125):=by
     have:=G125.any
     exact U18
    clear G125;exact U8
   .
    simp[cO]at hlen1
    subst hlen1
    have An:(exs []).length=0:=by simp[aQ]
    rw[An]at t3;have hz3:a3=a3:=rfl
    have HE:Hid (prS (.mk 6 n name [] bs es)=[84,82,65,80,32]++gL n++[32,59,10]):=by
     show _=_
     have e9:prS (.mk 6 n name [] bs es)=[84,82,65,80,32]++gL n++[32,59,10]:=by simp[prS,lE,fZ]
     exact e9
    have hsz2:(L++prB (l.take j)++([84,82,65,80,32]++gL n++[32,59,10])).length<=1000000000:=by rw[<-HE.out,zD0,<-HNX.out];have:=iL l (j+1);simp only[zA1]at this ⊢;omega
    simp only[zA1,zB1,zC3]at hsz2
    have hn01:0<=n/\n<=99:=by have:=mI hloc;simp[dE]at this;omega
    clear hloc h3 hz3;have x0:=Blk.new wr 116 [.int .i64 6,.int .i64 n,.slice a2 nn c2,.slice a3 0 c3,.slice a4 nb c4,.slice a5 ne c5]
    have Gs:Sg w0 w L.length base (fun x=>Blk x wr.heap.size 116 [.int .i64 6,.int .i64 n,.slice a2 nn c2,.slice a3 0 c3,.slice a4 nb c4,.slice a5 ne c5]) (wr.alloc (.cells #[.int .i64 6,.int .i64 n,.slice a2 nn c2,.slice a3 0 c3,.slice a4 nb c4,.slice a5 ne c5] 116 (0,0))) (L++prB (l.take j)) u0:=(Gr.alloc _).with x0 (dB Q5)
    have q0:=x0.k 0;clear x0 Gr;go_upto_region 5 with fail;generalize wr.alloc (.cells #[.int .i64 6,.int .i64 n,.slice a2 nn c2,.slice a3 0 c3,.slice a4 nb c4,.slice a5 ne c5] 116 (0,0))=w1 at *;generalize wr.heap.size=gx at *;clear t0 t1 t2 t3 t4 t5;go_upto_region 24 with fail;clear q0;have G126:=Gs.drew
    refine zK1 (S:=fun wx=>wx.cell? ⟨gx,1,none⟩=some (.int .i64 n)) Q1 (G126.k 1) (fun Aa=>?_)
    generalize w1.drew=w126 at *;clear Gs;refine M927 ?_
    refine ra 1 fun K hK=>?_
    rw[if_pos Q1];refine G126.str_wp _ _ rfl rfl ⟨#[84,82,65,80,32]⟩ rfl Q24 ?_;intro v128 w128 G128 gr128
    replace G128:Sg w0 w L.length base _ w128 (L++prB (l.take j)++[84,82,65,80,32]) v128:=G128
    refine hK.out _ _ (G128.k 1) (fun Aa=>?_)
    clear hK K G126;try simp only[nrm]
    refine ra 4 fun K hK=>?_
    go_simp
    (with_reducible refine(aRs n Q0 Q0 w128).mono ?_)
    rintro e w130 ⟨vd,rfl,hod,hgd⟩
    obtain⟨nd,hnd⟩:∃z,z=(gL n).length:=⟨_,rfl⟩
    rw[<-hnd]at hod
    have hnd1:nd<=21:=by rw[hnd];exact jW Q0 Q0
    have hnd0:0<nd:=by rw[hnd];exact xE _
    have HND:=hid hnd.symm;clear hnd;obtain⟨ad,cd,rfl,hM⟩:=hod.made (aA hgd);have G130:=G128.grown hgd;have Rd:=hM.row;clear hM hod hgd;go_wp2_with fail
    refine hK.out _ _ (G130.k 1) (fun Aa=>?_)
    clear hK K G128;try simp only[nrm]
    refine ra 5 fun K hK=>?_
    rw[if_pos Q1];refine G130.row_wp _ _ rfl rfl ad nd cd (gL n) rfl Rd hnd0 Q7 ?_;intro v132 w132 G132 gr132
    refine hK.out _ _ (G132.k 1) (fun Aa=>?_)
    clear hK K G130;try simp only[nrm]
    refine ta 6 ?_;try simp only[nrm]
    refine zK2 Q1 ?_ _
    go_wp2_with (at_builtin;refine Sg.str_list G132 rfl _ _ rfl rfl ⟨#[32,59,10]⟩ rfl Q12 ?_)
    intro v133 w133 G133 _;replace G133:=G133.cast (M:=L++prB (l.take j)++[84,82,65,80,32]++(gL n)++[32,59,10]) Q15;clear G132
    have HG':Hid (Sg w0 w L.length base (fun _=>True) w133 (L++prB (l.take (j+1))) v133):=by
     have:=G133.any
     exact U18
    clear G133;exact U8
   .
    simp[cO]at hlen1
    obtain⟨e0,rfl⟩:=nW (l:=ks) Q0
    have An:(exs [e0]).length=1:=by simp[aQ]
    rw[An]at t3;obtain⟨b4,o4,rfl⟩:=h3.addr Q18
    obtain⟨cc,rfl⟩:∃cc,c3=cc+1:=⟨c3-1,by have:=h3.cap;rw[An]at this;omega⟩
    refine M950 ?_;clear hks;intro hks us0 hv0 Af;obtain⟨u00,u01,u02,u03,u04,rfl⟩:=eZ (hv0.len.trans (cF e0));refine M92 ?_;intro Au As Ar Aq Ap;clear Af;refine M943 ?_;intro hsk0 hk0 S0 sw0;unfold Sw at sw0
    have HE:Hid (prS (.mk 7 n name [e0] bs es)=[67,65,76,76]++cS e0++[32,59,10]):=by
     show _=_
     have e9:prS (.mk 7 n name [e0] bs es)=[67,65,76,76]++(32 :: prE e0)++[59,10]:=by simp[prS,lE,fZ]
     rw[e9,sw0]
     simp[zD0]
    have hsz2:(L++prB (l.take j)++([67,65,76,76]++cS e0++[32,59,10])).length<=1000000000:=by rw[<-HE.out,zD0,<-HNX.out];have:=iL l (j+1);simp only[zA1]at this ⊢;omega
    simp only[zA1,zB1,zC3]at hsz2;clear hloc h3;have x0:=Blk.new wr 116 [.int .i64 7,.int .i64 n,.slice a2 nn c2,.slice (some ⟨b4,o4,none⟩) 1 (cc+1),.slice a4 nb c4,.slice a5 ne c5]
    have Gs:Sg w0 w L.length base (fun x=>Blk x wr.heap.size 116 [.int .i64 7,.int .i64 n,.slice a2 nn c2,.slice (some ⟨b4,o4,none⟩) 1 (cc+1),.slice a4 nb c4,.slice a5 ne c5]) (wr.alloc (.cells #[.int .i64 7,.int .i64 n,.slice a2 nn c2,.slice (some ⟨b4,o4,none⟩) 1 (cc+1),.slice a4 nb c4,.slice a5 ne c5] 116 (0,0))) (L++prB (l.take j)) u0:=(Gr.alloc _).with x0 (dB Q5)
    have q0:=x0.k 0;clear x0 Gr;go_upto_region 5 with fail;generalize wr.alloc (.cells #[.int .i64 7,.int .i64 n,.slice a2 nn c2,.slice (some ⟨b4,o4,none⟩) 1 (cc+1),.slice a4 nb c4,.slice a5 ne c5] 116 (0,0))=w1 at *;generalize wr.heap.size=gx at *;clear t0 t1 t2 t3 t4 t5;go_upto_region 6 with fail;clear q0;have G134:=Gs.drew
    refine zK1 (S:=fun wx=>wx.cell? ⟨gx,3,none⟩=some (.slice (some ⟨b4,o4,none⟩) 1 (cc+1))/\wx.cell? ⟨b4,o4,none⟩=some u00/\wx.cell? ⟨b4,o4+1,none⟩=some u01/\wx.cell? ⟨b4,o4+2,none⟩=some u02/\wx.cell? ⟨b4,o4+3,none⟩=some u03/\wx.cell? ⟨b4,o4+4,none⟩=some u04) Q1 ⟨G134.k 3,aC Au G134.bel,aC As G134.bel,aC Ar G134.bel,aC Aq G134.bel,aC Ap G134.bel⟩ (fun Aa=>?_)
    generalize w1.drew=w134 at *;clear Gs;refine M927 ?_;refine ta 4 ?_;refine ta 5 ?_;try simp only[nrm]
    refine ra 1 fun K hK=>?_
    rw[if_pos Q1];refine G134.str_wp _ _ rfl rfl ⟨#[67,65,76,76]⟩ rfl Q38 ?_;intro v136 w136 G136 gr136
    replace G136:Sg w0 w L.length base _ w136 (L++prB (l.take j)++[67,65,76,76]) v136:=G136
    refine hK.out _ _ ⟨G136.k 3,aC Au G136.bel,aC As G136.bel,aC Ar G136.bel,aC Aq G136.bel,aC Ap G136.bel⟩ (fun Aa=>?_)
    clear hK K G134;try simp only[nrm]
    refine ra 6 fun K hK=>?_
    go_simp;have H138:=S0 w0 w136 _ base (L++prB (l.take j)++[67,65,76,76]) v136 hv0 G136.bel G136.h0 G136.le G136.own hk0 Q7 hsk0;simp only[agg]at H138;refine H138.mono ?_;rintro e w138 ⟨v138,rfl,ho138,hw138⟩;have G138:=G136.step hw138 ho138;clear H138 ho138 hw138;go_wp2_with fail
    refine hK.out _ _ ⟨G138.k 3,aC Au G138.bel,aC As G138.bel,aC Ar G138.bel,aC Aq G138.bel,aC Ap G138.bel⟩ (fun Aa=>?_)
    clear hK K G136;try simp only[nrm]
    refine ta 7 ?_;try simp only[nrm]
    refine zK2 Q1 ?_ _
    go_wp2_with (at_builtin;refine Sg.str_list G138 rfl _ _ rfl rfl ⟨#[32,59,10]⟩ rfl Q12 ?_)
    intro v139 w139 G139 _;replace G139:=G139.cast (M:=L++prB (l.take j)++[67,65,76,76]++cS e0++[32,59,10]) Q15;clear G138
    have HG':Hid (Sg w0 w L.length base (fun _=>True) w139 (L++prB (l.take (j+1))) v139):=by
     have:=G139.any
     exact U18
    clear G139;exact U8
  .
   have:nl=j:=Q0
   subst this
   rw[zD3 (by rw[HNL.out];exact zB0 _)]at Gr
   go_wp2;go_ret;exact⟨_,rfl,Gr.own,Gr.wrote⟩
mutual
theorem aNt:∀x:St,∀k n name ks bs es,x=St.mk k n name ks bs es->aG5 bs/\aG5 es
 | .mk _ _ _ _ b1 e1,k,n,name,ks,bs,es,h=>by
  have h1:=aK7 b1 (sH b1);have h2:=aK7 e1 (sH e1);cases h;exact⟨h1,h2⟩
theorem sH:∀l:List St,∀k n name ks bs es,St.mk k n name ks bs es ∈ l->aG5 bs/\aG5 es
 | [],k,n,name,ks,bs,es,h=>by simp at h
 | y :: l,k,n,name,ks,bs,es,h=>by
  rcases zG3.1 h with h|h
  .
   exact aNt y k n name ks bs es h.symm
  .
   exact sH l k n name ks bs es h
end
theorem aR6 (l:List St):aG5 l:=aK7 l (sH l)
end Go.Proofs.YtffphdacgblaoaaGreatDoor

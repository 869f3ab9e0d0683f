import Derived.Test.YtffphdacgblaoaaGreatDoorPackR
namespace Go.Proofs.YtffphdacgblaoaaGreatDoor
open Go.RowKit
set_option linter.unusedVariables false
set_option linter.unusedSimpArgs false
set_option maxRecDepth 100000
theorem Q40{p:Prop}(h:p:=by simp[show sI ⟨#[32,44]⟩=[32,44] from rfl]):p:=h
theorem U87{p:Prop}(h:p:=by
 go_wp2
 go_roundw
 case rel=>exact⟨j+1,by omega,by go_num,HN⟩
 case measure=>simp[intOf];omega):p:=h
theorem U96{p:Prop}(h:p:=by
 go_wp2
 go_roundw
 case rel=>exact⟨1,by omega,rfl,HN⟩
 case measure=>simp[intOf];omega):p:=h
theorem M938{p q:Prop}(k:q)(h:Kx q->p:=by
 intro kQ
 have hsx:=zF2 (aX (zA3 Bc)) hsk
 have hokx:=HOK.out x (zA3 hx)
 have hjt:(ks.map cS)[j]?=some (cS x):=by rw[zA2,hx];rfl
 have HJ:Hid (aO [32,44] ((ks.map cS).take (j+1))=if j=0 then cS x else aO [32,44] ((ks.map cS).take j)++[32,44]++cS x):=gO hjt
 have Ak:(aO [32,44] ((ks.map cS).take (j+1))).length<=(aO [32,44] (ks.map cS)).length:=iN _ _ _ (by rw[zB2,HNK.out];omega)
 have HSX:=HS.out x (zA3 hx)
 have c0:w0.cell? ⟨b4,o4+j*5,none⟩=some t0:=Ab 0 _ rfl
 have c1:w0.cell? ⟨b4,o4+j*5+1,none⟩=some t1:=Ab 1 _ rfl
 have c2':w0.cell? ⟨b4,o4+j*5+2,none⟩=some t2:=Ab 2 _ rfl
 have c3':w0.cell? ⟨b4,o4+j*5+3,none⟩=some t3:=Ab 3 _ rfl
 have c4':w0.cell? ⟨b4,o4+j*5+4,none⟩=some t4:=Ab 4 _ rfl
 revert c4';revert c3';revert c2';revert c1;revert c0;revert HSX;revert Ak;revert HJ;revert hjt;revert hokx;revert hsx
 exact kQ.o):p:=h ⟨k⟩
theorem M965{p q:Prop}(k:q)(h:Kx q->p:=by
 intro kQ
 have hsz2:(L++PRE++aO [32,44] (ks.map cS)++[32,41]).length<=1000000000:=by rw[<-HE.out,zA1];exact Am
 have hprl:PRE.length<=4000000:=by rw[hPRE];simp only[zA1,zB1,zC3,HNA.out,HMO.out];omega
 simp only[zA1,zB1,zC3]at hsz2
 have hnl:name.length<=1048576:=by rw[HNA.out];omega
 have hml:mod.length<=1048576:=by rw[HMO.out];omega
 have hL:L.length<=1000000000:=Q0
 revert hL;revert hml;revert hnl;revert hsz2;revert hprl
 exact kQ.o):p:=h ⟨k⟩
theorem M978{p q:Prop}(k:q)(h:Kx q->p:=by
 intro kQ
 have q4:=Gr.k 4
 have d0:=aC c0 Gr.bel
 have d1:=aC c1 Gr.bel
 have d2:=aC c2' Gr.bel
 have d3:=aC c3' Gr.bel
 have d4:=aC c4' Gr.bel
 have HC:=HSX w0 wr _ base (L++PRE++aO [32,44] ((ks.map cS).take 0)) _ Ai Gr.bel Gr.h0 Gr.le Gr.own hokx Q7 hsx
 simp only[agg]at HC
 revert HC;revert d4;revert d3;revert d2;revert d1;revert d0;revert q4
 exact kQ.o):p:=h ⟨k⟩
theorem M991{p q:Prop}(k:q)(h:Kx q->p:=by
 intro kQ
 rw[hPRE]
 have e6:cS (.mk 6 n mod name ks)=(if mod.length=0 then [] else [32]++mod++[32,46])++[32]++name++[32,40]++aO [32,44] (ks.map cS)++[32,41]:=by rw[cS,mJ];rfl
 revert e6
 exact kQ.o):p:=h ⟨k⟩
set_option maxHeartbeats 8000000 in
theorem aNv (n:Int)(mod name:List Int)(ks:List Ex)(S:∀x ∈ ks,lQ x):lQ (.mk 6 n mod name ks):=by
 refine M920 ?_;intro w0 w vs base L v hr hb h0 hle ho hok Am hs hlc hks hs' hsk;unfold Ex.fl at hr;obtain⟨y0,_,rfl,rfl,y1,_,rfl,rfl,y2,_,rfl,⟨a2,c2,rfl,h2,hc2,_⟩,y3,_,rfl,⟨a3,c3,rfl,h3,hc3,_⟩,y4,_,rfl,Be,rfl⟩:=hr;obtain⟨a4,c4,rfl,h4⟩:=Be.list;clear Be;refine M924 ?_;intro An hk9 nk hnk;rw[<-hnk]at hk9 ⊢;have HNK:=hid hnk.symm;clear hnk;refine M931 ?_;intro nn hnn nm hnm;rw[<-hnn]at h3 hs' hc3 ⊢;rw[<-hnm]at h2 hs' hc2 ⊢;refine M962 ?_;intro HNA HMO hnp;clear hnn hnm hs;have HR:=hid h4
 have HOK:Hid (∀x ∈ ks,qN x=true):=by rw[mS,zF3]at hks;exact hks
 have HS:=hid S;clear h4 hks S
 by_cases hm:nm=0
 .
  subst hm
  obtain⟨PRE,hPRE⟩:∃P,P=[32]++name++[32,40]:=⟨_,rfl⟩
  have HPE:=hid hPRE.symm
  have HE:Hid (L++cS (.mk 6 n mod name ks)=L++PRE++aO [32,44] (ks.map cS)++[32,41]):=by
   show _=_
   refine M991 ?_;intro e6;rw[e6,if_pos HMO.out]
   simp[zD0]
  refine M965 ?_;clear hPRE;intro hprl hsz2 hnl hml hL;have x0:=Blk.new w 119 [.int .i64 6,.int .i64 n,.slice a2 0 c2,.slice a3 nn c3,.slice a4 nk c4]
  have G0:Sg w0 w L.length base (fun x=>Blk x w.heap.size 119 [.int .i64 6,.int .i64 n,.slice a2 0 c2,.slice a3 nn c3,.slice a4 nk c4]) (w.alloc (.cells #[.int .i64 6,.int .i64 n,.slice a2 0 c2,.slice a3 nn c3,.slice a4 nk c4] 119 (0,0))) L v:=⟨ho.alloc _,x0,dB Q5,Wr.of (aB w _ none),zB0 _,hb.alloc hb.size _,by simp;omega,h0⟩
  have q0:=x0.k 0;clear x0 ho hb hok Am;go_enter Tryz.func91,Tryz.ntmps91;go_upto_region 1 with fail;generalize w.alloc (.cells #[.int .i64 6,.int .i64 n,.slice a2 0 c2,.slice a3 nn c3,.slice a4 nk c4] 119 (0,0))=w1 at *;generalize w.heap.size=gx at *;have q2:=G0.k 2;go_upto_region 21 with fail;clear q0 q2;have G73:=G0.drew
  refine zK1 (S:=fun wx=>wx.cell? ⟨gx,3,none⟩=some (.slice a3 nn c3)) Q1 (G73.k 3) (fun Aa=>?_)
  generalize w1.drew=w73 at *;clear G0;refine M930 ?_
  refine ra 1 fun K hK=>?_
  go_simp
  have R75:(w73.alloc (.cells #[.int .u8 32] 5)).heap[w73.heap.size]?=some (Obj.cells #[.int .u8 32] 5 (0,0)):=zJ1 w73 _
  have F75:=G73.free;have G75:=G73.alloc (.cells #[.int .u8 32] 5)
  refine hK.out _ _ (G75.k 3) (fun Aa=>?_)
  clear hK K G73;try simp only[nrm]
  generalize w73.alloc (.cells #[.int .u8 32] 5)=w75 at *;generalize w73.heap.size=g75 at *
  refine ra 2 fun K hK=>?_
  rw[if_pos Q1];refine G75.row_wp _ _ rfl rfl (some ⟨g75,0,none⟩) 1 1 [32] rfl (eP Q0 Q0 R75) Q0 Q7 ?_;intro v77 w77 G77 gr77
  refine hK.out _ _ (G77.k 3) (fun Aa=>?_)
  clear hK K G75;try simp only[nrm]
  refine ra 5 fun K hK=>?_
  rw[if_pos Q1];refine G77.row_wp _ _ rfl rfl a3 nn c3 name rfl (G77.row h3) hnp Q7 ?_;intro v79 w79 G79 gr79
  refine hK.out _ _ (G79.k 3) (fun Aa=>?_)
  clear hK K G77;try simp only[nrm]
  refine ra 6 fun K hK=>?_
  rw[if_pos Q1];refine G79.str_wp _ _ rfl rfl ⟨#[32,40]⟩ rfl Q10 ?_;intro v81 w81 G81 gr81
  replace G81:Sg w0 w L.length base _ w81 (L++[32]++name++[32,40]) v81:=G81
  refine hK.out _ _ (G81.k 3) (fun Aa=>?_)
  clear hK K G79;try simp only[nrm]
  refine ta 7 ?_;try simp only[nrm]
  refine zK2 Q1 ?_ _
  have HPR:Hid (L++[32]++name++[32,40]=L++PRE):=by show _=_;rw[<-HPE.out];simp[zD0]
  have HG:Hid (Sg w0 w L.length base (fun x=>Blk x gx 119 [.int .i64 6,.int .i64 n,.slice a2 0 c2,.slice a3 nn c3,.slice a4 nk c4]) w81 (L++PRE++aO [32,44] ((ks.map cS).take 0)) v81):=by have:=G81;rw[HPR.out]at this;show Sg _ _ _ _ _ _ _ _;simpa [aO] using this
  clear G81 HPR;go_wp2_with fail
  go_loopw [0,5] (fun b i wr=>∃j:Nat,j<=nk/\i=.int .i64 j/\Hid (Sg w0 w L.length base (fun x=>Blk x gx 119 [.int .i64 6,.int .i64 n,.slice a2 0 c2,.slice a3 nn c3,.slice a4 nk c4]) wr (L++PRE++aO [32,44] ((ks.map cS).take j)) b)) (fun _ i _=>nk-(intOf i).toNat)
  case atStart=>exact⟨0,zD1 _,rfl,HG⟩
  case round=>
   obtain⟨j,hj,rfl,hGr⟩:=hrel;have Gr:=hGr.out;clear HG hGr;have q4:=Gr.k 4
   by_cases Aj:j<nk
   .
    obtain⟨b4,o4,rfl⟩:=bQ.addr HR.out (by rw[An,HNK.out];omega)
    obtain⟨x,hx⟩:∃x,ks[j]?=some x:=⟨ks[j]'(by rw[HNK.out];exact Aj),zA0 _⟩
    have Bc:(exs ks)[j]?=some x.fl:=by rw[aQ,zA2,hx];rfl
    obtain⟨us,Ai,Ab⟩:=(bQ.el HR.out Bc).vals;obtain⟨t0,t1,t2,t3,t4,rfl⟩:=eZ (Ai.len.trans (cF x));refine M938 ?_;intro hsx hokx hjt HJ Ak HSX c0 c1 c2' c3' c4';clear Ab hx Bc hjt
    have hs2:(aO [32,44] ((ks.map cS).take j)).length+(if j=0 then 0 else 2)+(cS x).length<=(aO [32,44] (ks.map cS)).length:=by
     exact U25
    clear Ak
    by_cases hj0:j=0
    .
     subst hj0;rw[if_pos rfl]at hs2;simp only[Nat.zero_mul,zG1]at c0 c1 c2' c3' c4';clear q4;refine M978 ?_;intro q4 d0 d1 d2 d3 d4 HC;go_wp2_with fail;refine HC.mono ?_;rintro e w82 ⟨v82,rfl,ho82,hw82⟩
     have HN:Hid (Sg w0 w L.length base (fun x=>Blk x gx 119 [.int .i64 6,.int .i64 n,.slice a2 0 c2,.slice a3 nn c3,.slice (some ⟨b4,o4,none⟩) nk c4]) w82 (L++PRE++aO [32,44] ((ks.map cS).take (0+1))) v82):=by
      have:=Gr.step hw82 ho82
      show Sg _ _ _ _ _ _ _ _
      rw[HJ.out]
      simpa [aO,zD0] using this
     clear HC q4 d0 d1 d2 d3 d4 ho82 hw82 Gr;exact U96
    .
     have hpos':(0:Int)<(j:Int):=Q0;rw[if_neg hj0]at hs2
     go_wp2_with (at_builtin;refine Sg.str_list Gr rfl _ _ rfl rfl ⟨#[32,44]⟩ rfl Q10 ?_)
     intro v83 w83 G83 _;replace G83:=G83.cast (M:=L++PRE++aO [32,44] ((ks.map cS).take j)++[32,44]) Q40;clear Gr;clear q4;have q4:=G83.k 4;have d0:=aC c0 G83.bel;have d1:=aC c1 G83.bel;have d2:=aC c2' G83.bel;have d3:=aC c3' G83.bel;have d4:=aC c4' G83.bel;have HC:=HSX w0 w83 _ base (L++PRE++aO [32,44] ((ks.map cS).take j)++[32,44]) _ Ai G83.bel G83.h0 G83.le G83.own hokx Q7 hsx;simp only[agg]at HC;go_wp2_with fail;refine HC.mono ?_;rintro e w84 ⟨v84,rfl,ho84,hw84⟩
     have HN:Hid (Sg w0 w L.length base (fun x=>Blk x gx 119 [.int .i64 6,.int .i64 n,.slice a2 0 c2,.slice a3 nn c3,.slice (some ⟨b4,o4,none⟩) nk c4]) w84 (L++PRE++aO [32,44] ((ks.map cS).take (j+1))) v84):=by
      have:=G83.step hw84 ho84
      show Sg _ _ _ _ _ _ _ _
      rw[HJ.out,if_neg hj0]
      simpa [aO,zD0] using this
     clear HC q4 d0 d1 d2 d3 d4 ho84 hw84 G83;exact U87
   .
    have:nk=j:=Q0
    subst this
    rw[zD3 (by rw[zB2,HNK.out];exact zB0 _)]at Gr
    go_wp2_with (at_builtin;refine Sg.str_list Gr rfl _ _ rfl rfl ⟨#[32,41]⟩ rfl Q10 ?_)
    intro v85 w85 G85 _;replace G85:=G85.cast (M:=L++PRE++aO [32,44] (ks.map cS)++[32,41]) Q34;clear Gr;go_wp2;go_ret;rw[HE.out];exact⟨_,rfl,G85.own,G85.wrote⟩
 .
  have hm':(0:Int)<(nm:Int):=Q0
  obtain⟨PRE,hPRE⟩:∃P,P=[32]++mod++[32,46]++[32]++name++[32,40]:=⟨_,rfl⟩
  have HPE:=hid hPRE.symm
  have HE:Hid (L++cS (.mk 6 n mod name ks)=L++PRE++aO [32,44] (ks.map cS)++[32,41]):=by
   show _=_
   refine M991 ?_;intro e6
   rw[e6,if_neg (by rw[HMO.out];exact hm)]
   simp[zD0]
  refine M965 ?_;clear hPRE;intro hprl hsz2 hnl hml hL;have x0:=Blk.new w 119 [.int .i64 6,.int .i64 n,.slice a2 nm c2,.slice a3 nn c3,.slice a4 nk c4]
  have G0:Sg w0 w L.length base (fun x=>Blk x w.heap.size 119 [.int .i64 6,.int .i64 n,.slice a2 nm c2,.slice a3 nn c3,.slice a4 nk c4]) (w.alloc (.cells #[.int .i64 6,.int .i64 n,.slice a2 nm c2,.slice a3 nn c3,.slice a4 nk c4] 119 (0,0))) L v:=⟨ho.alloc _,x0,dB Q5,Wr.of (aB w _ none),zB0 _,hb.alloc hb.size _,by simp;omega,h0⟩
  have q0:=x0.k 0;clear x0 ho hb hok Am;go_enter Tryz.func91,Tryz.ntmps91;go_upto_region 1 with fail;generalize w.alloc (.cells #[.int .i64 6,.int .i64 n,.slice a2 nm c2,.slice a3 nn c3,.slice a4 nk c4] 119 (0,0))=w1 at *;generalize w.heap.size=gx at *;have q2:=G0.k 2;go_upto_region 20 with fail;clear q0 q2;have G86:=G0.drew
  refine zK1 (S:=fun wx=>wx.cell? ⟨gx,2,none⟩=some (.slice a2 nm c2)) Q1 (G86.k 2) (fun Aa=>?_)
  generalize w1.drew=w86 at *;clear G0;refine M930 ?_
  refine ra 1 fun K hK=>?_
  go_simp
  have R88:(w86.alloc (.cells #[.int .u8 32] 5)).heap[w86.heap.size]?=some (Obj.cells #[.int .u8 32] 5 (0,0)):=zJ1 w86 _
  have F88:=G86.free;have G88:=G86.alloc (.cells #[.int .u8 32] 5)
  refine hK.out _ _ (G88.k 2) (fun Aa=>?_)
  clear hK K G86;try simp only[nrm]
  generalize w86.alloc (.cells #[.int .u8 32] 5)=w88 at *;generalize w86.heap.size=g88 at *
  refine ra 2 fun K hK=>?_
  rw[if_pos Q1];refine G88.row_wp _ _ rfl rfl (some ⟨g88,0,none⟩) 1 1 [32] rfl (eP Q0 Q0 R88) Q0 Q7 ?_;intro v90 w90 G90 gr90
  refine hK.out _ _ (G90.k 2) (fun Aa=>?_)
  clear hK K G88;try simp only[nrm]
  refine ra 5 fun K hK=>?_
  rw[if_pos Q1];refine G90.row_wp _ _ rfl rfl a2 nm c2 mod rfl (G90.row h2) Q0 Q7 ?_;intro v92 w92 G92 gr92
  refine hK.out _ _ (G92.k 2) (fun Aa=>?_)
  clear hK K G90;try simp only[nrm]
  refine ra 6 fun K hK=>?_
  rw[if_pos Q1];refine G92.str_wp _ _ rfl rfl ⟨#[32,46]⟩ rfl Q10 ?_;intro v94 w94 G94 gr94
  replace G94:Sg w0 w L.length base _ w94 (L++[32]++mod++[32,46]) v94:=G94
  refine hK.out _ _ (G94.k 2) (fun Aa=>?_)
  clear hK K G92;try simp only[nrm]
  refine ta 7 ?_;try simp only[nrm]
  refine zK2 Q1 ?_ _;go_upto_region 21 with fail;have G95:=G94.drew
  refine zK1 (S:=fun wx=>wx.cell? ⟨gx,3,none⟩=some (.slice a3 nn c3)) Q1 (G95.k 3) (fun Aa=>?_)
  generalize w94.drew=w95 at *;clear G94;refine M930 ?_
  refine ra 1 fun K hK=>?_
  go_simp
  have R97:(w95.alloc (.cells #[.int .u8 32] 5)).heap[w95.heap.size]?=some (Obj.cells #[.int .u8 32] 5 (0,0)):=zJ1 w95 _
  have F97:=G95.free;have G97:=G95.alloc (.cells #[.int .u8 32] 5)
  refine hK.out _ _ (G97.k 3) (fun Aa=>?_)
  clear hK K G95;try simp only[nrm]
  generalize w95.alloc (.cells #[.int .u8 32] 5)=w97 at *;generalize w95.heap.size=g97 at *
  refine ra 2 fun K hK=>?_
  rw[if_pos Q1];refine G97.row_wp _ _ rfl rfl (some ⟨g97,0,none⟩) 1 1 [32] rfl (eP Q0 Q0 R97) Q0 Q7 ?_;intro v99 w99 G99 gr99
  refine hK.out _ _ (G99.k 3) (fun Aa=>?_)
  clear hK K G97;try simp only[nrm]
  refine ra 5 fun K hK=>?_
  rw[if_pos Q1];refine G99.row_wp _ _ rfl rfl a3 nn c3 name rfl (G99.row h3) hnp Q7 ?_;intro v101 w101 G101 gr101
  refine hK.out _ _ (G101.k 3) (fun Aa=>?_)
  clear hK K G99;try simp only[nrm]
  refine ra 6 fun K hK=>?_
  rw[if_pos Q1];refine G101.str_wp _ _ rfl rfl ⟨#[32,40]⟩ rfl Q10 ?_;intro v103 w103 G103 gr103
  replace G103:Sg w0 w L.length base _ w103 (L++[32]++mod++[32,46]++[32]++name++[32,40]) v103:=G103
  refine hK.out _ _ (G103.k 3) (fun Aa=>?_)
  clear hK K G101;try simp only[nrm]
  refine ta 7 ?_;try simp only[nrm]
  refine zK2 Q1 ?_ _
  have HPR:Hid (L++[32]++mod++[32,46]++[32]++name++[32,40]=L++PRE):=by show _=_;rw[<-HPE.out];simp[zD0]
  have HG:Hid (Sg w0 w L.length base (fun x=>Blk x gx 119 [.int .i64 6,.int .i64 n,.slice a2 nm c2,.slice a3 nn c3,.slice a4 nk c4]) w103 (L++PRE++aO [32,44] ((ks.map cS).take 0)) v103):=by have:=G103;rw[HPR.out]at this;show Sg _ _ _ _ _ _ _ _;simpa [aO] using this
  clear G103 HPR;go_wp2_with fail
  go_loopw [0,5] (fun b i wr=>∃j:Nat,j<=nk/\i=.int .i64 j/\Hid (Sg w0 w L.length base (fun x=>Blk x gx 119 [.int .i64 6,.int .i64 n,.slice a2 nm c2,.slice a3 nn c3,.slice a4 nk c4]) wr (L++PRE++aO [32,44] ((ks.map cS).take j)) b)) (fun _ i _=>nk-(intOf i).toNat)
  case atStart=>exact⟨0,zD1 _,rfl,HG⟩
  case round=>
   obtain⟨j,hj,rfl,hGr⟩:=hrel;have Gr:=hGr.out;clear HG hGr;have q4:=Gr.k 4
   by_cases Aj:j<nk
   .
    obtain⟨b4,o4,rfl⟩:=bQ.addr HR.out (by rw[An,HNK.out];omega)
    obtain⟨x,hx⟩:∃x,ks[j]?=some x:=⟨ks[j]'(by rw[HNK.out];exact Aj),zA0 _⟩
    have Bc:(exs ks)[j]?=some x.fl:=by rw[aQ,zA2,hx];rfl
    obtain⟨us,Ai,Ab⟩:=(bQ.el HR.out Bc).vals;obtain⟨t0,t1,t2,t3,t4,rfl⟩:=eZ (Ai.len.trans (cF x));refine M938 ?_;intro hsx hokx hjt HJ Ak HSX c0 c1 c2' c3' c4';clear Ab hx Bc hjt
    have hs2:(aO [32,44] ((ks.map cS).take j)).length+(if j=0 then 0 else 2)+(cS x).length<=(aO [32,44] (ks.map cS)).length:=by
     exact U25
    clear Ak
    by_cases hj0:j=0
    .
     subst hj0;rw[if_pos rfl]at hs2;simp only[Nat.zero_mul,zG1]at c0 c1 c2' c3' c4';clear q4;refine M978 ?_;intro q4 d0 d1 d2 d3 d4 HC;go_wp2_with fail;refine HC.mono ?_;rintro e w104 ⟨v104,rfl,ho104,hw104⟩
     have HN:Hid (Sg w0 w L.length base (fun x=>Blk x gx 119 [.int .i64 6,.int .i64 n,.slice a2 nm c2,.slice a3 nn c3,.slice (some ⟨b4,o4,none⟩) nk c4]) w104 (L++PRE++aO [32,44] ((ks.map cS).take (0+1))) v104):=by
      have:=Gr.step hw104 ho104
      show Sg _ _ _ _ _ _ _ _
      rw[HJ.out]
      simpa [aO,zD0] using this
     clear HC q4 d0 d1 d2 d3 d4 ho104 hw104 Gr;exact U96
    .
     have hpos':(0:Int)<(j:Int):=Q0;rw[if_neg hj0]at hs2
     go_wp2_with (at_builtin;refine Sg.str_list Gr rfl _ _ rfl rfl ⟨#[32,44]⟩ rfl Q10 ?_)
     intro v105 w105 G105 _;replace G105:=G105.cast (M:=L++PRE++aO [32,44] ((ks.map cS).take j)++[32,44]) Q40;clear Gr;clear q4;have q4:=G105.k 4;have d0:=aC c0 G105.bel;have d1:=aC c1 G105.bel;have d2:=aC c2' G105.bel;have d3:=aC c3' G105.bel;have d4:=aC c4' G105.bel;have HC:=HSX w0 w105 _ base (L++PRE++aO [32,44] ((ks.map cS).take j)++[32,44]) _ Ai G105.bel G105.h0 G105.le G105.own hokx Q7 hsx;simp only[agg]at HC;go_wp2_with fail;refine HC.mono ?_;rintro e w106 ⟨v106,rfl,ho106,hw106⟩
     have HN:Hid (Sg w0 w L.length base (fun x=>Blk x gx 119 [.int .i64 6,.int .i64 n,.slice a2 nm c2,.slice a3 nn c3,.slice (some ⟨b4,o4,none⟩) nk c4]) w106 (L++PRE++aO [32,44] ((ks.map cS).take (j+1))) v106):=by
      have:=G105.step hw106 ho106
      show Sg _ _ _ _ _ _ _ _
      rw[HJ.out,if_neg hj0]
      simpa [aO,zD0] using this
     clear HC q4 d0 d1 d2 d3 d4 ho106 hw106 G105;exact U87
   .
    have:nk=j:=Q0
    subst this
    rw[zD3 (by rw[zB2,HNK.out];exact zB0 _)]at Gr
    go_wp2_with (at_builtin;refine Sg.str_list Gr rfl _ _ rfl rfl ⟨#[32,41]⟩ rfl Q10 ?_)
    intro v107 w107 G107 _;replace G107:=G107.cast (M:=L++PRE++aO [32,44] (ks.map cS)++[32,41]) Q34;clear Gr;go_wp2;go_ret;rw[HE.out];exact⟨_,rfl,G107.own,G107.wrote⟩
theorem aHq {x:Ex}(h:qN x=true->lQ x):lQ x:=by
 intro w0 w vs base L v h1 h2 h3 h4 h5 h6;exact h h6 w0 w vs base L v h1 h2 h3 h4 h5 h6
mutual
theorem sJ:∀x:Ex,lQ x
 | .mk k n m a ks=>by
  have H:=aJz ks
  refine aHq fun hok=>?_
  obtain⟨h1,h2⟩:=cW hok;have h3:=aL2 h1;have h8:k=0\/k=1\/k=2\/k=3\/k=4\/k=5\/k=6\/k=7:=Q0
  rcases h8 with rfl|rfl|rfl|rfl|rfl|rfl|rfl|rfl
  .
   exact aN1 n m a ks
  .
   exact aN0 n m a ks
  .
   simp[dM,fJ]at h3
   match ks,H with
   | [x],H=>exact aNz n m a x (H x Q9)
   | [],_=>simp at h3
   | _ :: _ :: _,_=>simp at h3;omega
  .
   simp[dM,fJ]at h3
   match ks,H with
   | [x,y],H=>exact aNy n m a x (H x Q9) y (H y Q9)
   | [],_=>simp at h3
   | [_],_=>simp at h3
   | _ :: _ :: _ :: _,_=>simp at h3;omega
  .
   exact aNx n m a ks
  .
   exact aNw n m a ks
  .
   exact aNv n m a ks H
  .
   exact aNu n m a ks
theorem aJz:∀(l:List Ex),∀x ∈ l,lQ x
 | [],x,h=>by simp at h
 | y :: l,x,h=>by
  rcases zG3.1 h with h|h
  .
   rw[h];exact sJ y
  .
   exact aJz l x h
end
end Go.Proofs.YtffphdacgblaoaaGreatDoor

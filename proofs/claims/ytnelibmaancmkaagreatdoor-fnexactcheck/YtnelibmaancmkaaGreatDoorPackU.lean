import Derived.Test.YtnelibmaancmkaaGreatDoorPackT
import Derived.Deep.RegionHeld3
namespace Go.Proofs.YtnelibmaancmkaaGreatDoor
open Go.RowKit
set_option maxHeartbeats 4000000
set_option linter.unusedVariables false
set_option linter.unusedSimpArgs false
set_option maxRecDepth 100000
theorem V8{p:Prop}(h:p:=by(try simp only[ll]);omega):p:=h
theorem V13{p:Prop}(h:p:=by show _+2<=_;(try simp only[ll]);omega):p:=h
theorem V16{p:Prop}(h:p:=by show _+3<=_;(try simp only[ll]);omega):p:=h
theorem V29{p:Prop}(h:p:=by show _+5<=_;(try simp only[ll]);omega):p:=h
theorem V37{p:Prop}(h:p:=by simp[show sI ⟨#[32,41]⟩=[32,41] from rfl]):p:=h
def jY (x:Ex):Prop:=∀(w0 w:World) (vs:List Value) (base:Nat) (L:List Int) (v:Value),aO w0 x.fl vs->Below w0.heap.size w0 w->w0.heap.size<=base->base<=w.heap.size->Own w base v L.length L->nQ x=true->L.length+(cL x).length<=1000000000->aH x.fl<=1048576 →
 Calls Tryz.prog 170 #[v,agg vs] w fun e w'=>∃v',e=.returned v'/\Own w' base v' (L++cL x).length (L++cL x)/\Wr L.length base w w'
theorem Sg.cell {w0 ws w:World}{n0 base g:Nat}{T:TypeId}{vs:List Value}{L:List Int}{v:Value}(h:Sg w0 ws n0 base (fun x=>Blk x g T vs) w L v){i:Nat}{u:Value}(hu:vs[i]?=some u):w.cell? ⟨g,i,none⟩=some u:=Blk.cell (show Blk w g T vs from h.b) hu
theorem aMh (n:Int)(h0:-9223372036854775808<n)(h1:n<=9223372036854775807)(w:World):Calls Tryz.prog 121 #[.int .i64 n] w fun e w'=>∃v,e=.returned v/\Own w' w.heap.size v (fI n).length (fI n)/\w.grownBy w' none:=dig n h0 h1 w
theorem uH (n:Int):0<(fI n).length:=by
 unfold fI Lib.itoa;rw[List.length_map]
 have h:∀u,0<(Lib.decDigits u).length:=fun u=>by rw[Lib.decDigits];split <;> simp
 split
 .
  simp
 .
  exact h _
theorem dS {l:List Int}{g:Bool}(h:aK l g=true):0<l.length:=by
 rcases Nat.eq_zero_or_pos l.length with h0|h0
 .
  rw[dF V6]at h;cases h
 .
  exact h0
theorem eS {α:Type}{l:List α}(h:l.length=5):∃a b c d e,l=[a,b,c,d,e]:=by
 match l,h with
 | [a,b,c,d,e],_=>exact⟨a,b,c,d,e,rfl⟩
theorem mJ {x:Ex}(h:nQ x=true)(hs:aH x.fl<=1048576):(cL x).length<=100000000:=by
 rw[aHt h]
 have:=aF8 x h
 omega
theorem aKd (n:Int)(mod name:List Int)(ks:List Ex):jY (.mk 0 n mod name ks):=by
 intro w0 w vs base L v hr hb h0 hle ho hok Bb hs;obtain⟨hlc,hks⟩:=cM hok
 have hs':mod.length<=1048576/\name.length<=1048576:=by simp only[Ex.fl,aH,Fl.len]at hs;omega
 have hsk:aF (exs ks)<=1048576:=by simp only[Ex.fl,aH,Fl.len]at hs;omega
 unfold Ex.fl at hr;obtain⟨y0,_,rfl,rfl,y1,_,rfl,rfl,y2,_,rfl,⟨a2,c2,rfl,h2,hc2,_⟩,y3,_,rfl,⟨a3,c3,rfl,h3,hc3,_⟩,y4,_,rfl,Bl,rfl⟩:=hr;obtain⟨a4,c4,rfl,h4⟩:=Bl.list;clear Bl
 have As:(exs ks).length=ks.length:=by simp[aJ]
 rw[As];simp only[agg]
 have hk9:ks.length<=9223372036854775807:=by have h5:=h4.cap;have h6:=h4.most;unfold maxLen at h6;omega
 obtain⟨nk,hnk⟩:∃z,z=ks.length:=⟨_,rfl⟩
 rw[<-hnk]at hk9 ⊢
 have Bn:Hid (ks.length=nk):=hnk.symm
 clear hnk
 obtain⟨nn,hnn⟩:∃z,z=name.length:=⟨_,rfl⟩
 obtain⟨nm,hnm⟩:∃z,z=mod.length:=⟨_,rfl⟩
 rw[<-hnn]at h3 hs' hc3 ⊢;rw[<-hnm]at h2 hs' hc2 ⊢
 have HNA:Hid (name.length=nn):=hnn.symm
 have HMO:Hid (mod.length=nm):=hnm.symm
 have hn01:-2147483648<=n/\n<=2147483647:=by simp[gE,inB,eT,dB]at hlc;omega
 clear hnn hnm hs
 have HE:Hid (L++cL (.mk 0 n mod name ks)=L++[32]++fI n):=by show _=_;simp[cL,oG,pI,List.append_assoc]
 have hsz2:(L++[32]++fI n).length<=1000000000:=by rw[<-HE.out,List.length_append];exact Bb
 simp only[List.length_append,List.length_cons,List.length_nil]at hsz2;have hL:L.length<=1000000000:=V6;have x0:=Blk.new w 135 [.int .i64 0,.int .i64 n,.slice a2 nm c2,.slice a3 nn c3,.slice a4 nk c4]
 have G0:Sg w0 w L.length base (fun x=>Blk x w.heap.size 135 [.int .i64 0,.int .i64 n,.slice a2 nm c2,.slice a3 nn c3,.slice a4 nk c4]) (w.alloc (.cells #[.int .i64 0,.int .i64 n,.slice a2 nm c2,.slice a3 nn c3,.slice a4 nk c4] 135 (0,0))) L v:=⟨ho.alloc _,x0,cS V7,Wr.of (aC w _ none),Nat.le_refl _,hb.alloc hb.size _,by simp;omega,h0⟩
 have q0:=x0.cell (i:=0) rfl;clear x0 ho hb hok Bb;go_enter Tryz.func170,Tryz.ntmps170;go_upto_region 1 with fail;generalize w.alloc (.cells #[.int .i64 0,.int .i64 n,.slice a2 nm c2,.slice a3 nn c3,.slice a4 nk c4] 135 (0,0))=w1 at *;generalize w.heap.size=gx at *;go_upto_region 3 with fail;clear q0;have G1:=G0.drew
 refine wp_region_held_drew (S:=fun wx=>wx.cell? ⟨gx,1,none⟩=some (.int .i64 n)) V0 (G1.cell (i:=1) rfl) (fun Aa=>?_)
 generalize w1.drew=w1 at *;clear G0;refine ta 0 ?_ Aa;refine ta 3 ?_ Aa;refine ta 4 ?_ Aa;try simp only[nrm]
 refine ra 1 fun K hK=>?_
 go_simp
 have R3:(w1.alloc (.cells #[.int .u8 32] 5)).heap[w1.heap.size]?=some (Obj.cells #[.int .u8 32] 5 (0,0)):=heap_alloc_new w1 _
 have F3:=G1.free;have G3:=G1.alloc (.cells #[.int .u8 32] 5)
 refine hK.out _ _ (G3.cell (i:=1) rfl) (fun Aa=>?_)
 clear hK K G1;try simp only[nrm]
 generalize w1.alloc (.cells #[.int .u8 32] 5)=w3 at *;generalize w1.heap.size=g3 at *
 refine ra 2 fun K hK=>?_
 rw[if_pos V0];refine G3.row_wp _ _ rfl rfl (some ⟨g3,0,none⟩) 1 1 [32] rfl (eN V6 V6 R3) V6 V8 ?_;intro v5 w5 G5 gr5
 refine hK.out _ _ (G5.cell (i:=1) rfl) (fun Aa=>?_)
 clear hK K G3;try simp only[nrm]
 refine ra 5 fun K hK=>?_
 go_simp
 (with_reducible refine(aMh n V6 V6 w5).mono ?_)
 rintro e w7 ⟨vd,rfl,hod,hgd⟩
 obtain⟨nd,hnd⟩:∃z,z=(fI n).length:=⟨_,rfl⟩
 rw[<-hnd]at hod
 have hnd1:nd<=21:=by rw[hnd];exact iS V6 V6
 have hnd0:0<nd:=by rw[hnd];exact uH _
 have HND:Hid ((fI n).length=nd):=hnd.symm
 clear hnd;obtain⟨ad,cd,rfl,hM⟩:=hod.made (aA hgd);have G7:=G5.grown hgd;have Rd:=hM.row;clear hM hod hgd;go_wp2_with fail
 refine hK.out _ _ (G7.cell (i:=1) rfl) (fun Aa=>?_)
 clear hK K G5;try simp only[nrm]
 refine ra 6 fun K hK=>?_
 rw[if_pos V0];refine G7.row_wp _ _ rfl rfl ad nd cd (fI n) rfl Rd hnd0 V8 ?_;intro v9 w9 G9 gr9
 refine hK.out _ _ (G9.cell (i:=1) rfl) (fun Aa=>?_)
 clear hK K G7;try simp only[nrm]
 refine ta 7 ?_ Aa;try simp only[nrm]
 refine wpAnyH_done V0 ?_ _;go_wp2_with fail;go_ret;rw[HE.out];exact⟨_,rfl,G9.own,G9.wrote⟩
theorem aKc (n:Int)(mod name:List Int)(ks:List Ex):jY (.mk 1 n mod name ks):=by
 intro w0 w vs base L v hr hb h0 hle ho hok Bb hs;obtain⟨hlc,hks⟩:=cM hok
 have hs':mod.length<=1048576/\name.length<=1048576:=by simp only[Ex.fl,aH,Fl.len]at hs;omega
 have hsk:aF (exs ks)<=1048576:=by simp only[Ex.fl,aH,Fl.len]at hs;omega
 unfold Ex.fl at hr;obtain⟨y0,_,rfl,rfl,y1,_,rfl,rfl,y2,_,rfl,⟨a2,c2,rfl,h2,hc2,_⟩,y3,_,rfl,⟨a3,c3,rfl,h3,hc3,_⟩,y4,_,rfl,Bl,rfl⟩:=hr;obtain⟨a4,c4,rfl,h4⟩:=Bl.list;clear Bl
 have As:(exs ks).length=ks.length:=by simp[aJ]
 rw[As];simp only[agg]
 have hk9:ks.length<=9223372036854775807:=by have h5:=h4.cap;have h6:=h4.most;unfold maxLen at h6;omega
 obtain⟨nk,hnk⟩:∃z,z=ks.length:=⟨_,rfl⟩
 rw[<-hnk]at hk9 ⊢
 have Bn:Hid (ks.length=nk):=hnk.symm
 clear hnk
 obtain⟨nn,hnn⟩:∃z,z=name.length:=⟨_,rfl⟩
 obtain⟨nm,hnm⟩:∃z,z=mod.length:=⟨_,rfl⟩
 rw[<-hnn]at h3 hs' hc3 ⊢;rw[<-hnm]at h2 hs' hc2 ⊢
 have HNA:Hid (name.length=nn):=hnn.symm
 have HMO:Hid (mod.length=nm):=hnm.symm
 have hnp:0<nn:=by rw[hnn];exact dS (fW hlc V7)
 clear hnn hnm hs
 have HE:Hid (L++cL (.mk 1 n mod name ks)=L++[32]++name):=by show _=_;simp[cL,oG,pI,List.append_assoc]
 have hsz2:(L++[32]++name).length<=1000000000:=by rw[<-HE.out,List.length_append];exact Bb
 simp only[List.length_append,List.length_cons,List.length_nil]at hsz2;have hL:L.length<=1000000000:=V6;have x0:=Blk.new w 135 [.int .i64 1,.int .i64 n,.slice a2 nm c2,.slice a3 nn c3,.slice a4 nk c4]
 have G0:Sg w0 w L.length base (fun x=>Blk x w.heap.size 135 [.int .i64 1,.int .i64 n,.slice a2 nm c2,.slice a3 nn c3,.slice a4 nk c4]) (w.alloc (.cells #[.int .i64 1,.int .i64 n,.slice a2 nm c2,.slice a3 nn c3,.slice a4 nk c4] 135 (0,0))) L v:=⟨ho.alloc _,x0,cS V7,Wr.of (aC w _ none),Nat.le_refl _,hb.alloc hb.size _,by simp;omega,h0⟩
 have q0:=x0.cell (i:=0) rfl;clear x0 ho hb hok Bb;go_enter Tryz.func170,Tryz.ntmps170;go_upto_region 1 with fail;generalize w.alloc (.cells #[.int .i64 1,.int .i64 n,.slice a2 nm c2,.slice a3 nn c3,.slice a4 nk c4] 135 (0,0))=w1 at *;generalize w.heap.size=gx at *;go_upto_region 5 with fail;clear q0;have G10:=G0.drew
 refine wp_region_held_drew (S:=fun wx=>wx.cell? ⟨gx,3,none⟩=some (.slice a3 nn c3)) V0 (G10.cell (i:=3) rfl) (fun Aa=>?_)
 generalize w1.drew=w10 at *;clear G0;refine ta 0 ?_ Aa;refine ta 3 ?_ Aa;refine ta 4 ?_ Aa;try simp only[nrm]
 refine ra 1 fun K hK=>?_
 go_simp
 have R12:(w10.alloc (.cells #[.int .u8 32] 5)).heap[w10.heap.size]?=some (Obj.cells #[.int .u8 32] 5 (0,0)):=heap_alloc_new w10 _
 have F12:=G10.free;have G12:=G10.alloc (.cells #[.int .u8 32] 5)
 refine hK.out _ _ (G12.cell (i:=3) rfl) (fun Aa=>?_)
 clear hK K G10;try simp only[nrm]
 generalize w10.alloc (.cells #[.int .u8 32] 5)=w12 at *;generalize w10.heap.size=g12 at *
 refine ra 2 fun K hK=>?_
 rw[if_pos V0];refine G12.row_wp _ _ rfl rfl (some ⟨g12,0,none⟩) 1 1 [32] rfl (eN V6 V6 R12) V6 V8 ?_;intro v14 w14 G14 gr14
 refine hK.out _ _ (G14.cell (i:=3) rfl) (fun Aa=>?_)
 clear hK K G12;try simp only[nrm]
 refine ra 5 fun K hK=>?_
 rw[if_pos V0];refine G14.row_wp _ _ rfl rfl a3 nn c3 name rfl (G14.row h3) hnp V8 ?_;intro v16 w16 G16 gr16
 refine hK.out _ _ (G16.cell (i:=3) rfl) (fun Aa=>?_)
 clear hK K G14;try simp only[nrm]
 refine ta 6 ?_ Aa;try simp only[nrm]
 refine wpAnyH_done V0 ?_ _;go_wp2_with fail;go_ret;rw[HE.out];exact⟨_,rfl,G16.own,G16.wrote⟩
theorem aKb (n:Int)(mod name:List Int)(e0:Ex)(S0:jY e0):jY (.mk 2 n mod name [e0]):=by
 intro w0 w vs base L v hr hb h0 hle ho hok Bb hs;obtain⟨hlc,hks⟩:=cM hok
 have hs':mod.length<=1048576/\name.length<=1048576:=by simp only[Ex.fl,aH,Fl.len]at hs;omega
 have hsk:aF (exs [e0])<=1048576:=by simp only[Ex.fl,aH,Fl.len]at hs;omega
 unfold Ex.fl at hr;obtain⟨y0,_,rfl,rfl,y1,_,rfl,rfl,y2,_,rfl,⟨a2,c2,rfl,h2,hc2,_⟩,y3,_,rfl,⟨a3,c3,rfl,h3,hc3,_⟩,y4,_,rfl,Bl,rfl⟩:=hr;obtain⟨a4,c4,rfl,h4⟩:=Bl.list;clear Bl
 have As:(exs [e0]).length=1:=by simp[aJ]
 rw[As];simp only[agg];obtain⟨b4,o4,rfl⟩:=h4.addr V24
 obtain⟨cc,rfl⟩:∃cc,c4=cc+1:=⟨c4-1,by have:=h4.cap;rw[As]at this;omega⟩
 simp only[dR,Bool.and_eq_true,and_true]at hks;obtain⟨us0,hv0,Ah⟩:=(h4.el (i:=0) rfl).vals;obtain⟨u00,u01,u02,u03,u04,rfl⟩:=eS (hv0.len.trans (cE e0))
 have Ba:w0.cell? ⟨b4,o4,none⟩=some u00:=by have:=Ah 0 _ rfl;simpa [Nat.add_assoc] using this
 have Az:w0.cell? ⟨b4,o4+1,none⟩=some u01:=by have:=Ah 1 _ rfl;simpa [Nat.add_assoc] using this
 have Ay:w0.cell? ⟨b4,o4+2,none⟩=some u02:=by have:=Ah 2 _ rfl;simpa [Nat.add_assoc] using this
 have Ax:w0.cell? ⟨b4,o4+3,none⟩=some u03:=by have:=Ah 3 _ rfl;simpa [Nat.add_assoc] using this
 have Aw:w0.cell? ⟨b4,o4+4,none⟩=some u04:=by have:=Ah 4 _ rfl;simpa [Nat.add_assoc] using this
 clear Ah
 have hsk0:aH e0.fl<=1048576:=by simp only[exs,aF]at hsk;omega
 have hse0:(cL e0).length<=100000000:=mJ hks hsk0
 have hk0:=hks
 obtain⟨nn,hnn⟩:∃z,z=name.length:=⟨_,rfl⟩
 obtain⟨nm,hnm⟩:∃z,z=mod.length:=⟨_,rfl⟩
 rw[<-hnn]at h3 hs' hc3 ⊢;rw[<-hnm]at h2 hs' hc2 ⊢
 have HNA:Hid (name.length=nn):=hnn.symm
 have HMO:Hid (mod.length=nm):=hnm.symm
 have hnp:0<nn:=by rw[hnn];exact dS (fW hlc V7)
 clear hnn hnm hs
 have HE:Hid (L++cL (.mk 2 n mod name [e0])=L++[32]++name++[32,91]++cL e0++[32,93]):=by show _=_;simp[cL,oG,pI,List.append_assoc]
 have hsz2:(L++[32]++name++[32,91]++cL e0++[32,93]).length<=1000000000:=by rw[<-HE.out,List.length_append];exact Bb
 simp only[List.length_append,List.length_cons,List.length_nil]at hsz2;have hL:L.length<=1000000000:=V6;have x0:=Blk.new w 135 [.int .i64 2,.int .i64 n,.slice a2 nm c2,.slice a3 nn c3,.slice (some ⟨b4,o4,none⟩) 1 (cc+1)]
 have G0:Sg w0 w L.length base (fun x=>Blk x w.heap.size 135 [.int .i64 2,.int .i64 n,.slice a2 nm c2,.slice a3 nn c3,.slice (some ⟨b4,o4,none⟩) 1 (cc+1)]) (w.alloc (.cells #[.int .i64 2,.int .i64 n,.slice a2 nm c2,.slice a3 nn c3,.slice (some ⟨b4,o4,none⟩) 1 (cc+1)] 135 (0,0))) L v:=⟨ho.alloc _,x0,cS V7,Wr.of (aC w _ none),Nat.le_refl _,hb.alloc hb.size _,by simp;omega,h0⟩
 have q0:=x0.cell (i:=0) rfl;clear x0 ho hb hok Bb;go_enter Tryz.func170,Tryz.ntmps170;go_upto_region 1 with fail;generalize w.alloc (.cells #[.int .i64 2,.int .i64 n,.slice a2 nm c2,.slice a3 nn c3,.slice (some ⟨b4,o4,none⟩) 1 (cc+1)] 135 (0,0))=w1 at *;generalize w.heap.size=gx at *;go_upto_region 7 with fail;clear q0;have G17:=G0.drew
 refine wp_region_held_drew (S:=fun wx=>wx.cell? ⟨gx,3,none⟩=some (.slice a3 nn c3)) V0 (G17.cell (i:=3) rfl) (fun Aa=>?_)
 generalize w1.drew=w17 at *;clear G0;refine ta 0 ?_ Aa;refine ta 3 ?_ Aa;refine ta 4 ?_ Aa;try simp only[nrm]
 refine ra 1 fun K hK=>?_
 go_simp
 have R19:(w17.alloc (.cells #[.int .u8 32] 5)).heap[w17.heap.size]?=some (Obj.cells #[.int .u8 32] 5 (0,0)):=heap_alloc_new w17 _
 have F19:=G17.free;have G19:=G17.alloc (.cells #[.int .u8 32] 5)
 refine hK.out _ _ (G19.cell (i:=3) rfl) (fun Aa=>?_)
 clear hK K G17;try simp only[nrm]
 generalize w17.alloc (.cells #[.int .u8 32] 5)=w19 at *;generalize w17.heap.size=g19 at *
 refine ra 2 fun K hK=>?_
 rw[if_pos V0];refine G19.row_wp _ _ rfl rfl (some ⟨g19,0,none⟩) 1 1 [32] rfl (eN V6 V6 R19) V6 V8 ?_;intro v21 w21 G21 gr21
 refine hK.out _ _ (G21.cell (i:=3) rfl) (fun Aa=>?_)
 clear hK K G19;try simp only[nrm]
 refine ra 5 fun K hK=>?_
 rw[if_pos V0];refine G21.row_wp _ _ rfl rfl a3 nn c3 name rfl (G21.row h3) hnp V8 ?_;intro v23 w23 G23 gr23
 refine hK.out _ _ (G23.cell (i:=3) rfl) (fun Aa=>?_)
 clear hK K G21;try simp only[nrm]
 refine ra 6 fun K hK=>?_
 rw[if_pos V0];refine G23.str_wp _ _ rfl rfl ⟨#[32,91]⟩ rfl V13 ?_;intro v25 w25 G25 gr25
 replace G25:Sg w0 w L.length base _ w25 (L++[32]++name++[32,91]) v25:=G25
 refine hK.out _ _ (G25.cell (i:=3) rfl) (fun Aa=>?_)
 clear hK K G23;try simp only[nrm]
 refine ta 7 ?_ Aa;try simp only[nrm]
 refine wpAnyH_done V0 ?_ _;have q4:=G25.cell (i:=4) rfl;have d0:=aB Ba G25.bel;have d1:=aB Az G25.bel;have d2:=aB Ay G25.bel;have d3:=aB Ax G25.bel;have d4:=aB Aw G25.bel;go_wp2_with fail;have H26:=S0 w0 w25 _ base (L++[32]++name++[32,91]) v25 hv0 G25.bel G25.h0 G25.le G25.own hk0 V8 hsk0;simp only[agg]at H26;refine H26.mono ?_;rintro e w26 ⟨v26,rfl,ho26,hw26⟩;have G26:=G25.step hw26 ho26;clear H26 ho26 hw26;clear q4 d0 d1 d2 d3 d4
 go_wp2_with (at_builtin;refine Sg.str_list G26 rfl _ _ rfl rfl ⟨#[32,93]⟩ rfl V13 ?_)
 intro v27 w27 G27 gr27
 replace G27:=G27.cast (M:=L++[32]++name++[32,91]++cL e0++[32,93]) (by simp[show sI ⟨#[32,93]⟩=[32,93] from rfl])
 go_wp2_with fail;go_ret;rw[HE.out];exact⟨_,rfl,G27.own,G27.wrote⟩
theorem aKa (n:Int)(mod name:List Int)(e0:Ex)(S0:jY e0)(e1:Ex)(S1:jY e1):jY (.mk 3 n mod name [e0,e1]):=by
 intro w0 w vs base L v hr hb h0 hle ho hok Bb hs;obtain⟨hlc,hks⟩:=cM hok
 have hs':mod.length<=1048576/\name.length<=1048576:=by simp only[Ex.fl,aH,Fl.len]at hs;omega
 have hsk:aF (exs [e0,e1])<=1048576:=by simp only[Ex.fl,aH,Fl.len]at hs;omega
 unfold Ex.fl at hr;obtain⟨y0,_,rfl,rfl,y1,_,rfl,rfl,y2,_,rfl,⟨a2,c2,rfl,h2,hc2,_⟩,y3,_,rfl,⟨a3,c3,rfl,h3,hc3,_⟩,y4,_,rfl,Bl,rfl⟩:=hr;obtain⟨a4,c4,rfl,h4⟩:=Bl.list;clear Bl
 have As:(exs [e0,e1]).length=2:=by simp[aJ]
 rw[As];simp only[agg];obtain⟨b4,o4,rfl⟩:=h4.addr V24
 obtain⟨cc,rfl⟩:∃cc,c4=cc+1:=⟨c4-1,by have:=h4.cap;rw[As]at this;omega⟩
 simp only[dR,Bool.and_eq_true,and_true]at hks;obtain⟨us0,hv0,Ah⟩:=(h4.el (i:=0) rfl).vals;obtain⟨u00,u01,u02,u03,u04,rfl⟩:=eS (hv0.len.trans (cE e0))
 have Ba:w0.cell? ⟨b4,o4,none⟩=some u00:=by have:=Ah 0 _ rfl;simpa [Nat.add_assoc] using this
 have Az:w0.cell? ⟨b4,o4+1,none⟩=some u01:=by have:=Ah 1 _ rfl;simpa [Nat.add_assoc] using this
 have Ay:w0.cell? ⟨b4,o4+2,none⟩=some u02:=by have:=Ah 2 _ rfl;simpa [Nat.add_assoc] using this
 have Ax:w0.cell? ⟨b4,o4+3,none⟩=some u03:=by have:=Ah 3 _ rfl;simpa [Nat.add_assoc] using this
 have Aw:w0.cell? ⟨b4,o4+4,none⟩=some u04:=by have:=Ah 4 _ rfl;simpa [Nat.add_assoc] using this
 clear Ah
 have hsk0:aH e0.fl<=1048576:=by simp only[exs,aF]at hsk;omega
 have hse0:(cL e0).length<=100000000:=mJ hks.1 hsk0
 have hk0:=hks.1;obtain⟨us1,hv1,hcl1⟩:=(h4.el (i:=1) rfl).vals;obtain⟨u10,u11,u12,u13,u14,rfl⟩:=eS (hv1.len.trans (cE e1))
 have hc10:w0.cell? ⟨b4,o4+5,none⟩=some u10:=by have:=hcl1 0 _ rfl;simpa [Nat.add_assoc] using this
 have hc11:w0.cell? ⟨b4,o4+6,none⟩=some u11:=by have:=hcl1 1 _ rfl;simpa [Nat.add_assoc] using this
 have hc12:w0.cell? ⟨b4,o4+7,none⟩=some u12:=by have:=hcl1 2 _ rfl;simpa [Nat.add_assoc] using this
 have hc13:w0.cell? ⟨b4,o4+8,none⟩=some u13:=by have:=hcl1 3 _ rfl;simpa [Nat.add_assoc] using this
 have hc14:w0.cell? ⟨b4,o4+9,none⟩=some u14:=by have:=hcl1 4 _ rfl;simpa [Nat.add_assoc] using this
 clear hcl1
 have hsk1:aH e1.fl<=1048576:=by simp only[exs,aF]at hsk;omega
 have hse1:(cL e1).length<=100000000:=mJ hks.2 hsk1
 have hk1:=hks.2
 obtain⟨nn,hnn⟩:∃z,z=name.length:=⟨_,rfl⟩
 obtain⟨nm,hnm⟩:∃z,z=mod.length:=⟨_,rfl⟩
 rw[<-hnn]at h3 hs' hc3 ⊢;rw[<-hnm]at h2 hs' hc2 ⊢
 have HNA:Hid (name.length=nn):=hnn.symm
 have HMO:Hid (mod.length=nm):=hnm.symm
 have hsix:=aKr hlc;clear hnn hnm hs
 have HE:Hid (L++cL (.mk 3 n mod name [e0,e1])=L++[32,40]++cL e0++[32]++opI n++cL e1++[32,41]):=by show _=_;simp[cL,oG,pI,List.append_assoc]
 have hsz2:(L++[32,40]++cL e0++[32]++opI n++cL e1++[32,41]).length<=1000000000:=by rw[<-HE.out,List.length_append];exact Bb
 simp only[List.length_append,List.length_cons,List.length_nil]at hsz2;have hL:L.length<=1000000000:=V6;have x0:=Blk.new w 135 [.int .i64 3,.int .i64 n,.slice a2 nm c2,.slice a3 nn c3,.slice (some ⟨b4,o4,none⟩) 2 (cc+1)]
 have G0:Sg w0 w L.length base (fun x=>Blk x w.heap.size 135 [.int .i64 3,.int .i64 n,.slice a2 nm c2,.slice a3 nn c3,.slice (some ⟨b4,o4,none⟩) 2 (cc+1)]) (w.alloc (.cells #[.int .i64 3,.int .i64 n,.slice a2 nm c2,.slice a3 nn c3,.slice (some ⟨b4,o4,none⟩) 2 (cc+1)] 135 (0,0))) L v:=⟨ho.alloc _,x0,cS V7,Wr.of (aC w _ none),Nat.le_refl _,hb.alloc hb.size _,by simp;omega,h0⟩
 have q0:=x0.cell (i:=0) rfl;clear x0 ho hb hok Bb;go_enter Tryz.func170,Tryz.ntmps170;go_upto_region 1 with fail;generalize w.alloc (.cells #[.int .i64 3,.int .i64 n,.slice a2 nm c2,.slice a3 nn c3,.slice (some ⟨b4,o4,none⟩) 2 (cc+1)] 135 (0,0))=w1 at *;generalize w.heap.size=gx at *;go_upto_region 10 with fail;clear q0;have G28:=G0.drew
 refine wp_region_held_drew (S:=fun wx=>wx.cell? ⟨gx,4,none⟩=some (.slice (some ⟨b4,o4,none⟩) 2 (cc+1))/\wx.cell? ⟨b4,o4,none⟩=some u00/\wx.cell? ⟨b4,o4+1,none⟩=some u01/\wx.cell? ⟨b4,o4+2,none⟩=some u02/\wx.cell? ⟨b4,o4+3,none⟩=some u03/\wx.cell? ⟨b4,o4+4,none⟩=some u04) V0 ⟨G28.cell (i:=4) rfl,aB Ba G28.bel,aB Az G28.bel,aB Ay G28.bel,aB Ax G28.bel,aB Aw G28.bel⟩ (fun Aa=>?_)
 generalize w1.drew=w28 at *;clear G0;refine ta 0 ?_ Aa;refine ta 2 ?_ Aa;refine ta 3 ?_ Aa;try simp only[nrm]
 refine ta 4 ?_ Aa;refine ta 5 ?_ Aa;try simp only[nrm]
 refine wpAnyH_ready (rs:=[1,7]) V0 V15 ?_;refine AllReadyH.cons (i:=1) (o:=?oS29) ?iS29 ?gS29 (AllReadyH.cons (i:=7) (o:=?oS30) ?iS30 ?gS30 AllReadyH.nil)
 case iS29=>exact rfl
 case iS30=>exact rfl
 case gS29=>
  intro K hK;rw[if_pos V0];refine G28.str_wp _ _ rfl rfl ⟨#[32,40]⟩ rfl V13 ?_;intro v31 w31 G31 gr31
  replace G31:Sg w0 w L.length base _ w31 (L++[32,40]) v31:=G31
  refine hK.out _ _ ⟨G31.cell (i:=4) rfl,aB Ba G31.bel,aB Az G31.bel,aB Ay G31.bel,aB Ax G31.bel,aB Aw G31.bel⟩ (fun Aa=>?_)
  clear hK K G28;try simp only[nrm]
  refine wpAnyH_ready (rs:=[6,7]) V0 V15 ?_;refine AllReadyH.cons (i:=6) (o:=?oS32) ?iS32 ?gS32 (AllReadyH.cons (i:=7) (o:=?oS33) ?iS33 ?gS33 AllReadyH.nil)
  case iS32=>exact rfl
  case iS33=>exact rfl
  case gS32=>
   intro K hK;go_simp;have H34:=S0 w0 w31 _ base (L++[32,40]) v31 hv0 G31.bel G31.h0 G31.le G31.own hk0 V8 hsk0;simp only[agg]at H34;refine H34.mono ?_;rintro e w34 ⟨v34,rfl,ho34,hw34⟩;have G34:=G31.step hw34 ho34;clear H34 ho34 hw34;go_wp2_with fail
   refine hK.out _ _ ⟨G34.cell (i:=4) rfl,aB Ba G34.bel,aB Az G34.bel,aB Ay G34.bel,aB Ax G34.bel,aB Aw G34.bel⟩ (fun Aa=>?_)
   clear hK K G31;try simp only[nrm]
   refine ra 7 fun K hK=>?_
   go_simp
   have R36:(w34.alloc (.cells #[.int .u8 32] 5)).heap[w34.heap.size]?=some (Obj.cells #[.int .u8 32] 5 (0,0)):=heap_alloc_new w34 _
   have F36:=G34.free;have G36:=G34.alloc (.cells #[.int .u8 32] 5)
   refine hK.out _ _ ⟨G36.cell (i:=4) rfl,aB Ba G36.bel,aB Az G36.bel,aB Ay G36.bel,aB Ax G36.bel,aB Aw G36.bel⟩ (fun Aa=>?_)
   clear hK K G34;try simp only[nrm]
   generalize w34.alloc (.cells #[.int .u8 32] 5)=w36 at *;generalize w34.heap.size=g36 at *
   refine ra 8 fun K hK=>?_
   rw[if_pos V0];refine G36.row_wp _ _ rfl rfl (some ⟨g36,0,none⟩) 1 1 [32] rfl (eN V6 V6 R36) V6 V8 ?_;intro v38 w38 G38 gr38
   refine hK.out _ _ ⟨G38.cell (i:=4) rfl,aB Ba G38.bel,aB Az G38.bel,aB Ay G38.bel,aB Ax G38.bel,aB Aw G38.bel⟩ (fun Aa=>?_)
   clear hK K G36;try simp only[nrm]
   refine ta 9 ?_ Aa;try simp only[nrm]
   refine wpAnyH_done V0 ?_ _;have q1:=G38.cell (i:=1) rfl;go_wp2_with fail;have HO:=aIf n hsix w38;refine HO.mono ?_;rintro e w39 ⟨⟨so,rfl,hso⟩,hgo⟩;have G39:=G38.grown hgo
   have hsz9:so.size<=1:=by rw[<-jI,hso];exact oM n
   clear HO hgo q1
   go_wp2_with (at_builtin;refine Sg.str_list G39 rfl _ _ rfl rfl so rfl V10 ?_)
   intro v40 w40 G40 _
   replace G40:Sg w0 w L.length base (fun x=>Blk x gx 135 [.int .i64 3,.int .i64 n,.slice a2 nm c2,.slice a3 nn c3,.slice (some ⟨b4,o4,none⟩) 2 (cc+1)]) w40 (L++[32,40]++cL e0++[32]++opI n) v40:=by simpa [hso] using G40
   have hop:=oM n;have q4:=G40.cell (i:=4) rfl;have d0:=aB hc10 G40.bel;have d1:=aB hc11 G40.bel;have d2:=aB hc12 G40.bel;have d3:=aB hc13 G40.bel;have d4:=aB hc14 G40.bel;go_wp2_with fail;have H41:=S1 w0 w40 _ base (L++[32,40]++cL e0++[32]++opI n) v40 hv1 G40.bel G40.h0 G40.le G40.own hk1 V8 hsk1;simp only[agg]at H41;refine H41.mono ?_;rintro e w41 ⟨v41,rfl,ho41,hw41⟩;have G41:=G40.step hw41 ho41;clear H41 ho41 hw41;clear q4 d0 d1 d2 d3 d4
   go_wp2_with (at_builtin;refine Sg.str_list G41 rfl _ _ rfl rfl ⟨#[32,41]⟩ rfl V13 ?_)
   intro v42 w42 G42 gr42;replace G42:=G42.cast (M:=L++[32,40]++cL e0++[32]++opI n++cL e1++[32,41]) V37;go_wp2_with fail;go_ret;rw[HE.out];exact⟨_,rfl,G42.own,G42.wrote⟩
  case gS33=>
   intro K hK;go_simp
   have R43:(w31.alloc (.cells #[.int .u8 32] 5)).heap[w31.heap.size]?=some (Obj.cells #[.int .u8 32] 5 (0,0)):=heap_alloc_new w31 _
   have F43:=G31.free;have G43:=G31.alloc (.cells #[.int .u8 32] 5)
   refine hK.out _ _ ⟨G43.cell (i:=4) rfl,aB Ba G43.bel,aB Az G43.bel,aB Ay G43.bel,aB Ax G43.bel,aB Aw G43.bel⟩ (fun Aa=>?_)
   clear hK K G31;try simp only[nrm]
   generalize w31.alloc (.cells #[.int .u8 32] 5)=w43 at *;generalize w31.heap.size=g43 at *
   refine ra 6 fun K hK=>?_
   go_simp;have H45:=S0 w0 w43 _ base (L++[32,40]) v31 hv0 G43.bel G43.h0 G43.le G43.own hk0 V8 hsk0;simp only[agg]at H45;refine H45.mono ?_;rintro e w45 ⟨v45,rfl,ho45,hw45⟩;have G45:=G43.step hw45 ho45;replace R43:=(hw45.small _ _ R43 V15).trans R43;clear H45 ho45 hw45;go_wp2_with fail
   refine hK.out _ _ ⟨G45.cell (i:=4) rfl,aB Ba G45.bel,aB Az G45.bel,aB Ay G45.bel,aB Ax G45.bel,aB Aw G45.bel⟩ (fun Aa=>?_)
   clear hK K G43;try simp only[nrm]
   refine ra 8 fun K hK=>?_
   rw[if_pos V0];refine G45.row_wp _ _ rfl rfl (some ⟨g43,0,none⟩) 1 1 [32] rfl (eN V6 V6 R43) V6 V8 ?_;intro v47 w47 G47 gr47
   refine hK.out _ _ ⟨G47.cell (i:=4) rfl,aB Ba G47.bel,aB Az G47.bel,aB Ay G47.bel,aB Ax G47.bel,aB Aw G47.bel⟩ (fun Aa=>?_)
   clear hK K G45;try simp only[nrm]
   refine ta 9 ?_ Aa;try simp only[nrm]
   refine wpAnyH_done V0 ?_ _;have q1:=G47.cell (i:=1) rfl;go_wp2_with fail;have HO:=aIf n hsix w47;refine HO.mono ?_;rintro e w48 ⟨⟨so,rfl,hso⟩,hgo⟩;have G48:=G47.grown hgo
   have hsz9:so.size<=1:=by rw[<-jI,hso];exact oM n
   clear HO hgo q1
   go_wp2_with (at_builtin;refine Sg.str_list G48 rfl _ _ rfl rfl so rfl V10 ?_)
   intro v49 w49 G49 _
   replace G49:Sg w0 w L.length base (fun x=>Blk x gx 135 [.int .i64 3,.int .i64 n,.slice a2 nm c2,.slice a3 nn c3,.slice (some ⟨b4,o4,none⟩) 2 (cc+1)]) w49 (L++[32,40]++cL e0++[32]++opI n) v49:=by simpa [hso] using G49
   have hop:=oM n;have q4:=G49.cell (i:=4) rfl;have d0:=aB hc10 G49.bel;have d1:=aB hc11 G49.bel;have d2:=aB hc12 G49.bel;have d3:=aB hc13 G49.bel;have d4:=aB hc14 G49.bel;go_wp2_with fail;have H50:=S1 w0 w49 _ base (L++[32,40]++cL e0++[32]++opI n) v49 hv1 G49.bel G49.h0 G49.le G49.own hk1 V8 hsk1;simp only[agg]at H50;refine H50.mono ?_;rintro e w50 ⟨v50,rfl,ho50,hw50⟩;have G50:=G49.step hw50 ho50;clear H50 ho50 hw50;clear q4 d0 d1 d2 d3 d4
   go_wp2_with (at_builtin;refine Sg.str_list G50 rfl _ _ rfl rfl ⟨#[32,41]⟩ rfl V13 ?_)
   intro v51 w51 G51 gr51;replace G51:=G51.cast (M:=L++[32,40]++cL e0++[32]++opI n++cL e1++[32,41]) V37;go_wp2_with fail;go_ret;rw[HE.out];exact⟨_,rfl,G51.own,G51.wrote⟩
 case gS30=>
  intro K hK;go_simp
  have R52:(w28.alloc (.cells #[.int .u8 32] 5)).heap[w28.heap.size]?=some (Obj.cells #[.int .u8 32] 5 (0,0)):=heap_alloc_new w28 _
  have F52:=G28.free;have G52:=G28.alloc (.cells #[.int .u8 32] 5)
  refine hK.out _ _ ⟨G52.cell (i:=4) rfl,aB Ba G52.bel,aB Az G52.bel,aB Ay G52.bel,aB Ax G52.bel,aB Aw G52.bel⟩ (fun Aa=>?_)
  clear hK K G28;try simp only[nrm]
  generalize w28.alloc (.cells #[.int .u8 32] 5)=w52 at *;generalize w28.heap.size=g52 at *
  refine ra 1 fun K hK=>?_
  rw[if_pos V0];refine G52.str_wp _ _ rfl rfl ⟨#[32,40]⟩ rfl V13 ?_;intro v54 w54 G54 gr54
  replace G54:Sg w0 w L.length base _ w54 (L++[32,40]) v54:=G54
  replace R52:=(gr54.block _ (Array.getElem?_eq_some_iff.1 R52).1 (fun e=>F52 e.symm)).trans R52
  refine hK.out _ _ ⟨G54.cell (i:=4) rfl,aB Ba G54.bel,aB Az G54.bel,aB Ay G54.bel,aB Ax G54.bel,aB Aw G54.bel⟩ (fun Aa=>?_)
  clear hK K G52;try simp only[nrm]
  refine ra 6 fun K hK=>?_
  go_simp;have H56:=S0 w0 w54 _ base (L++[32,40]) v54 hv0 G54.bel G54.h0 G54.le G54.own hk0 V8 hsk0;simp only[agg]at H56;refine H56.mono ?_;rintro e w56 ⟨v56,rfl,ho56,hw56⟩;have G56:=G54.step hw56 ho56;replace R52:=(hw56.small _ _ R52 V15).trans R52;clear H56 ho56 hw56;go_wp2_with fail
  refine hK.out _ _ ⟨G56.cell (i:=4) rfl,aB Ba G56.bel,aB Az G56.bel,aB Ay G56.bel,aB Ax G56.bel,aB Aw G56.bel⟩ (fun Aa=>?_)
  clear hK K G54;try simp only[nrm]
  refine ra 8 fun K hK=>?_
  rw[if_pos V0];refine G56.row_wp _ _ rfl rfl (some ⟨g52,0,none⟩) 1 1 [32] rfl (eN V6 V6 R52) V6 V8 ?_;intro v58 w58 G58 gr58
  refine hK.out _ _ ⟨G58.cell (i:=4) rfl,aB Ba G58.bel,aB Az G58.bel,aB Ay G58.bel,aB Ax G58.bel,aB Aw G58.bel⟩ (fun Aa=>?_)
  clear hK K G56;try simp only[nrm]
  refine ta 9 ?_ Aa;try simp only[nrm]
  refine wpAnyH_done V0 ?_ _;have q1:=G58.cell (i:=1) rfl;go_wp2_with fail;have HO:=aIf n hsix w58;refine HO.mono ?_;rintro e w59 ⟨⟨so,rfl,hso⟩,hgo⟩;have G59:=G58.grown hgo
  have hsz9:so.size<=1:=by rw[<-jI,hso];exact oM n
  clear HO hgo q1
  go_wp2_with (at_builtin;refine Sg.str_list G59 rfl _ _ rfl rfl so rfl V10 ?_)
  intro v60 w60 G60 _
  replace G60:Sg w0 w L.length base (fun x=>Blk x gx 135 [.int .i64 3,.int .i64 n,.slice a2 nm c2,.slice a3 nn c3,.slice (some ⟨b4,o4,none⟩) 2 (cc+1)]) w60 (L++[32,40]++cL e0++[32]++opI n) v60:=by simpa [hso] using G60
  have hop:=oM n;have q4:=G60.cell (i:=4) rfl;have d0:=aB hc10 G60.bel;have d1:=aB hc11 G60.bel;have d2:=aB hc12 G60.bel;have d3:=aB hc13 G60.bel;have d4:=aB hc14 G60.bel;go_wp2_with fail;have H61:=S1 w0 w60 _ base (L++[32,40]++cL e0++[32]++opI n) v60 hv1 G60.bel G60.h0 G60.le G60.own hk1 V8 hsk1;simp only[agg]at H61;refine H61.mono ?_;rintro e w61 ⟨v61,rfl,ho61,hw61⟩;have G61:=G60.step hw61 ho61;clear H61 ho61 hw61;clear q4 d0 d1 d2 d3 d4
  go_wp2_with (at_builtin;refine Sg.str_list G61 rfl _ _ rfl rfl ⟨#[32,41]⟩ rfl V13 ?_)
  intro v62 w62 G62 gr62;replace G62:=G62.cast (M:=L++[32,40]++cL e0++[32]++opI n++cL e1++[32,41]) V37;go_wp2_with fail;go_ret;rw[HE.out];exact⟨_,rfl,G62.own,G62.wrote⟩
theorem aJ9 (n:Int)(mod name:List Int)(ks:List Ex):jY (.mk 4 n mod name ks):=by
 intro w0 w vs base L v hr hb h0 hle ho hok Bb hs;obtain⟨hlc,hks⟩:=cM hok
 have hs':mod.length<=1048576/\name.length<=1048576:=by simp only[Ex.fl,aH,Fl.len]at hs;omega
 have hsk:aF (exs ks)<=1048576:=by simp only[Ex.fl,aH,Fl.len]at hs;omega
 unfold Ex.fl at hr;obtain⟨y0,_,rfl,rfl,y1,_,rfl,rfl,y2,_,rfl,⟨a2,c2,rfl,h2,hc2,_⟩,y3,_,rfl,⟨a3,c3,rfl,h3,hc3,_⟩,y4,_,rfl,Bl,rfl⟩:=hr;obtain⟨a4,c4,rfl,h4⟩:=Bl.list;clear Bl
 have As:(exs ks).length=ks.length:=by simp[aJ]
 rw[As];simp only[agg]
 have hk9:ks.length<=9223372036854775807:=by have h5:=h4.cap;have h6:=h4.most;unfold maxLen at h6;omega
 obtain⟨nk,hnk⟩:∃z,z=ks.length:=⟨_,rfl⟩
 rw[<-hnk]at hk9 ⊢
 have Bn:Hid (ks.length=nk):=hnk.symm
 clear hnk
 obtain⟨nn,hnn⟩:∃z,z=name.length:=⟨_,rfl⟩
 obtain⟨nm,hnm⟩:∃z,z=mod.length:=⟨_,rfl⟩
 rw[<-hnn]at h3 hs' hc3 ⊢;rw[<-hnm]at h2 hs' hc2 ⊢
 have HNA:Hid (name.length=nn):=hnn.symm
 have HMO:Hid (mod.length=nm):=hnm.symm
 clear hnn hnm hs
 have HE:Hid (L++cL (.mk 4 n mod name ks)=L++[32,73,78]):=by show _=_;simp[cL,oG,pI,List.append_assoc]
 have hsz2:(L++[32,73,78]).length<=1000000000:=by rw[<-HE.out,List.length_append];exact Bb
 simp only[List.length_append,List.length_cons,List.length_nil]at hsz2;have hL:L.length<=1000000000:=V6;have x0:=Blk.new w 135 [.int .i64 4,.int .i64 n,.slice a2 nm c2,.slice a3 nn c3,.slice a4 nk c4]
 have G0:Sg w0 w L.length base (fun x=>Blk x w.heap.size 135 [.int .i64 4,.int .i64 n,.slice a2 nm c2,.slice a3 nn c3,.slice a4 nk c4]) (w.alloc (.cells #[.int .i64 4,.int .i64 n,.slice a2 nm c2,.slice a3 nn c3,.slice a4 nk c4] 135 (0,0))) L v:=⟨ho.alloc _,x0,cS V7,Wr.of (aC w _ none),Nat.le_refl _,hb.alloc hb.size _,by simp;omega,h0⟩
 have q0:=x0.cell (i:=0) rfl;clear x0 ho hb hok Bb;go_enter Tryz.func170,Tryz.ntmps170;go_upto_region 1 with fail;generalize w.alloc (.cells #[.int .i64 4,.int .i64 n,.slice a2 nm c2,.slice a3 nn c3,.slice a4 nk c4] 135 (0,0))=w1 at *;generalize w.heap.size=gx at *
 go_wp2_with (at_builtin;refine Sg.str_list G0 rfl _ _ rfl rfl ⟨#[32,73,78]⟩ rfl (by show _+3<=_;omega) ?_)
 intro v1 w2 G1 _
 replace G1:Sg w0 w L.length base _ w2 (L++[32,73,78]) v1:=G1
 go_wp2_with fail;go_ret;rw[HE.out];exact⟨_,rfl,G1.own,G1.wrote⟩
theorem aJ8 (n:Int)(mod name:List Int)(ks:List Ex):jY (.mk 5 n mod name ks):=by
 intro w0 w vs base L v hr hb h0 hle ho hok Bb hs;obtain⟨hlc,hks⟩:=cM hok
 have hs':mod.length<=1048576/\name.length<=1048576:=by simp only[Ex.fl,aH,Fl.len]at hs;omega
 have hsk:aF (exs ks)<=1048576:=by simp only[Ex.fl,aH,Fl.len]at hs;omega
 unfold Ex.fl at hr;obtain⟨y0,_,rfl,rfl,y1,_,rfl,rfl,y2,_,rfl,⟨a2,c2,rfl,h2,hc2,_⟩,y3,_,rfl,⟨a3,c3,rfl,h3,hc3,_⟩,y4,_,rfl,Bl,rfl⟩:=hr;obtain⟨a4,c4,rfl,h4⟩:=Bl.list;clear Bl
 have As:(exs ks).length=ks.length:=by simp[aJ]
 rw[As];simp only[agg]
 have hk9:ks.length<=9223372036854775807:=by have h5:=h4.cap;have h6:=h4.most;unfold maxLen at h6;omega
 obtain⟨nk,hnk⟩:∃z,z=ks.length:=⟨_,rfl⟩
 rw[<-hnk]at hk9 ⊢
 have Bn:Hid (ks.length=nk):=hnk.symm
 clear hnk
 obtain⟨nn,hnn⟩:∃z,z=name.length:=⟨_,rfl⟩
 obtain⟨nm,hnm⟩:∃z,z=mod.length:=⟨_,rfl⟩
 rw[<-hnn]at h3 hs' hc3 ⊢;rw[<-hnm]at h2 hs' hc2 ⊢
 have HNA:Hid (name.length=nn):=hnn.symm
 have HMO:Hid (mod.length=nm):=hnm.symm
 have hnp:0<nn:=by rw[hnn];exact dS (fW hlc V7)
 clear hnn hnm hs
 have HE:Hid (L++cL (.mk 5 n mod name ks)=L++[32,76,69,78,32]++name):=by show _=_;simp[cL,oG,pI,List.append_assoc]
 have hsz2:(L++[32,76,69,78,32]++name).length<=1000000000:=by rw[<-HE.out,List.length_append];exact Bb
 simp only[List.length_append,List.length_cons,List.length_nil]at hsz2;have hL:L.length<=1000000000:=V6;have x0:=Blk.new w 135 [.int .i64 5,.int .i64 n,.slice a2 nm c2,.slice a3 nn c3,.slice a4 nk c4]
 have G0:Sg w0 w L.length base (fun x=>Blk x w.heap.size 135 [.int .i64 5,.int .i64 n,.slice a2 nm c2,.slice a3 nn c3,.slice a4 nk c4]) (w.alloc (.cells #[.int .i64 5,.int .i64 n,.slice a2 nm c2,.slice a3 nn c3,.slice a4 nk c4] 135 (0,0))) L v:=⟨ho.alloc _,x0,cS V7,Wr.of (aC w _ none),Nat.le_refl _,hb.alloc hb.size _,by simp;omega,h0⟩
 have q0:=x0.cell (i:=0) rfl;clear x0 ho hb hok Bb;go_enter Tryz.func170,Tryz.ntmps170;go_upto_region 1 with fail;generalize w.alloc (.cells #[.int .i64 5,.int .i64 n,.slice a2 nm c2,.slice a3 nn c3,.slice a4 nk c4] 135 (0,0))=w1 at *;generalize w.heap.size=gx at *;go_upto_region 16 with fail;clear q0;have G63:=G0.drew
 refine wp_region_held_drew (S:=fun wx=>wx.cell? ⟨gx,3,none⟩=some (.slice a3 nn c3)) V0 (G63.cell (i:=3) rfl) (fun Aa=>?_)
 generalize w1.drew=w63 at *;clear G0;refine ta 0 ?_ Aa;refine ta 2 ?_ Aa;refine ta 3 ?_ Aa;try simp only[nrm]
 refine ra 1 fun K hK=>?_
 rw[if_pos V0];refine G63.str_wp _ _ rfl rfl ⟨#[32,76,69,78,32]⟩ rfl V29 ?_;intro v65 w65 G65 gr65
 replace G65:Sg w0 w L.length base _ w65 (L++[32,76,69,78,32]) v65:=G65
 refine hK.out _ _ (G65.cell (i:=3) rfl) (fun Aa=>?_)
 clear hK K G63;try simp only[nrm]
 refine ra 4 fun K hK=>?_
 rw[if_pos V0];refine G65.row_wp _ _ rfl rfl a3 nn c3 name rfl (G65.row h3) hnp V8 ?_;intro v67 w67 G67 gr67
 refine hK.out _ _ (G67.cell (i:=3) rfl) (fun Aa=>?_)
 clear hK K G65;try simp only[nrm]
 refine ta 5 ?_ Aa;try simp only[nrm]
 refine wpAnyH_done V0 ?_ _;go_wp2_with fail;go_ret;rw[HE.out];exact⟨_,rfl,G67.own,G67.wrote⟩
theorem aJ6 (n:Int)(mod name:List Int)(ks:List Ex):jY (.mk 7 n mod name ks):=by
 intro w0 w vs base L v hr hb h0 hle ho hok Bb hs;obtain⟨hlc,hks⟩:=cM hok
 have hs':mod.length<=1048576/\name.length<=1048576:=by simp only[Ex.fl,aH,Fl.len]at hs;omega
 have hsk:aF (exs ks)<=1048576:=by simp only[Ex.fl,aH,Fl.len]at hs;omega
 unfold Ex.fl at hr;obtain⟨y0,_,rfl,rfl,y1,_,rfl,rfl,y2,_,rfl,⟨a2,c2,rfl,h2,hc2,_⟩,y3,_,rfl,⟨a3,c3,rfl,h3,hc3,_⟩,y4,_,rfl,Bl,rfl⟩:=hr;obtain⟨a4,c4,rfl,h4⟩:=Bl.list;clear Bl
 have As:(exs ks).length=ks.length:=by simp[aJ]
 rw[As];simp only[agg]
 have hk9:ks.length<=9223372036854775807:=by have h5:=h4.cap;have h6:=h4.most;unfold maxLen at h6;omega
 obtain⟨nk,hnk⟩:∃z,z=ks.length:=⟨_,rfl⟩
 rw[<-hnk]at hk9 ⊢
 have Bn:Hid (ks.length=nk):=hnk.symm
 clear hnk
 obtain⟨nn,hnn⟩:∃z,z=name.length:=⟨_,rfl⟩
 obtain⟨nm,hnm⟩:∃z,z=mod.length:=⟨_,rfl⟩
 rw[<-hnn]at h3 hs' hc3 ⊢;rw[<-hnm]at h2 hs' hc2 ⊢
 have HNA:Hid (name.length=nn):=hnn.symm
 have HMO:Hid (mod.length=nm):=hnm.symm
 have hnp:0<nn:=by rw[hnn];exact dS (fW hlc V7)
 clear hnn hnm hs
 have HE:Hid (L++cL (.mk 7 n mod name ks)=L++[32,64,32]++name):=by show _=_;simp[cL,oG,pI,List.append_assoc]
 have hsz2:(L++[32,64,32]++name).length<=1000000000:=by rw[<-HE.out,List.length_append];exact Bb
 simp only[List.length_append,List.length_cons,List.length_nil]at hsz2;have hL:L.length<=1000000000:=V6;have x0:=Blk.new w 135 [.int .i64 7,.int .i64 n,.slice a2 nm c2,.slice a3 nn c3,.slice a4 nk c4]
 have G0:Sg w0 w L.length base (fun x=>Blk x w.heap.size 135 [.int .i64 7,.int .i64 n,.slice a2 nm c2,.slice a3 nn c3,.slice a4 nk c4]) (w.alloc (.cells #[.int .i64 7,.int .i64 n,.slice a2 nm c2,.slice a3 nn c3,.slice a4 nk c4] 135 (0,0))) L v:=⟨ho.alloc _,x0,cS V7,Wr.of (aC w _ none),Nat.le_refl _,hb.alloc hb.size _,by simp;omega,h0⟩
 have q0:=x0.cell (i:=0) rfl;clear x0 ho hb hok Bb;go_enter Tryz.func170,Tryz.ntmps170;go_upto_region 1 with fail;generalize w.alloc (.cells #[.int .i64 7,.int .i64 n,.slice a2 nm c2,.slice a3 nn c3,.slice a4 nk c4] 135 (0,0))=w1 at *;generalize w.heap.size=gx at *;go_upto_region 18 with fail;clear q0;have G68:=G0.drew
 refine wp_region_held_drew (S:=fun wx=>wx.cell? ⟨gx,3,none⟩=some (.slice a3 nn c3)) V0 (G68.cell (i:=3) rfl) (fun Aa=>?_)
 generalize w1.drew=w68 at *;clear G0;refine ta 0 ?_ Aa;refine ta 2 ?_ Aa;refine ta 3 ?_ Aa;try simp only[nrm]
 refine ra 1 fun K hK=>?_
 rw[if_pos V0];refine G68.str_wp _ _ rfl rfl ⟨#[32,64,32]⟩ rfl V16 ?_;intro v70 w70 G70 gr70
 replace G70:Sg w0 w L.length base _ w70 (L++[32,64,32]) v70:=G70
 refine hK.out _ _ (G70.cell (i:=3) rfl) (fun Aa=>?_)
 clear hK K G68;try simp only[nrm]
 refine ra 4 fun K hK=>?_
 rw[if_pos V0];refine G70.row_wp _ _ rfl rfl a3 nn c3 name rfl (G70.row h3) hnp V8 ?_;intro v72 w72 G72 gr72
 refine hK.out _ _ (G72.cell (i:=3) rfl) (fun Aa=>?_)
 clear hK K G70;try simp only[nrm]
 refine ta 5 ?_ Aa;try simp only[nrm]
 refine wpAnyH_done V0 ?_ _;go_wp2_with fail;go_ret;rw[HE.out];exact⟨_,rfl,G72.own,G72.wrote⟩
theorem V47{p:Prop}(h:p:=by simp[show sI ⟨#[32,44]⟩=[32,44] from rfl]):p:=h
theorem V80{p:Prop}(h:p:=by rw[List.length_map,Bn.out];exact Nat.le_refl _):p:=h
theorem U117{p:Prop}(h:p:=by
 simpa [aV,List.append_assoc] using this):p:=h
theorem U133{p:Prop}(h:p:=by
 go_wp2_with fail
 go_roundw
 case rel=>exact⟨j+1,by omega,by go_num,HN⟩
 case measure=>simp[intOf];omega):p:=h
theorem U143{p:Prop}(h:p:=by
 go_wp2_with fail
 go_roundw
 case rel=>exact⟨1,by omega,rfl,HN⟩
 case measure=>simp[intOf];omega):p:=h
set_option maxHeartbeats 8000000 in
theorem aJ7 (n:Int)(mod name:List Int)(ks:List Ex)(S:∀x ∈ ks,jY x):jY (.mk 6 n mod name ks):=by
 intro w0 w vs base L v hr hb h0 hle ho hok Bb hs;obtain⟨hlc,hks⟩:=cM hok
 have hs':mod.length<=1048576/\name.length<=1048576:=by simp only[Ex.fl,aH,Fl.len]at hs;omega
 have hsk:aF (exs ks)<=1048576:=by simp only[Ex.fl,aH,Fl.len]at hs;omega
 unfold Ex.fl at hr;obtain⟨y0,_,rfl,rfl,y1,_,rfl,rfl,y2,_,rfl,⟨a2,c2,rfl,h2,hc2,_⟩,y3,_,rfl,⟨a3,c3,rfl,h3,hc3,_⟩,y4,_,rfl,Bl,rfl⟩:=hr;obtain⟨a4,c4,rfl,h4⟩:=Bl.list;clear Bl
 have As:(exs ks).length=ks.length:=by simp[aJ]
 rw[As];simp only[agg]
 have hk9:ks.length<=9223372036854775807:=by have h5:=h4.cap;have h6:=h4.most;unfold maxLen at h6;omega
 obtain⟨nk,hnk⟩:∃z,z=ks.length:=⟨_,rfl⟩
 rw[<-hnk]at hk9 ⊢
 have Bn:Hid (ks.length=nk):=hnk.symm
 clear hnk
 obtain⟨nn,hnn⟩:∃z,z=name.length:=⟨_,rfl⟩
 obtain⟨nm,hnm⟩:∃z,z=mod.length:=⟨_,rfl⟩
 rw[<-hnn]at h3 hs' hc3 ⊢;rw[<-hnm]at h2 hs' hc2 ⊢
 have HNA:Hid (name.length=nn):=hnn.symm
 have HMO:Hid (mod.length=nm):=hnm.symm
 have hnp:0<nn:=by rw[hnn];exact dS (fW hlc V7)
 clear hnn hnm hs
 have HR:Hid (aS w0 a4 c4 5 (exs ks)):=h4
 have HOK:Hid (∀x ∈ ks,nQ x=true):=by rw[lR,List.all_eq_true]at hks;exact hks
 have HS:Hid (∀x ∈ ks,jY x):=S
 clear h4 hks S
 by_cases hm:nm=0
 .
  subst hm
  obtain⟨PRE,hPRE⟩:∃P,P=[32]++name++[32,40]:=⟨_,rfl⟩
  have HPE:Hid ([32]++name++[32,40]=PRE):=hPRE.symm
  have HE:Hid (L++cL (.mk 6 n mod name ks)=L++PRE++aV [32,44] (ks.map cL)++[32,41]):=by
   show _=_
   rw[hPRE]
   have e6:cL (.mk 6 n mod name ks)=(if mod.length=0 then [] else [32]++mod++[32,46])++[32]++name++[32,40]++aV [32,44] (ks.map cL)++[32,41]:=by rw[cL,lL];rfl
   rw[e6,if_pos HMO.out]
   simp[List.append_assoc]
  have hsz2:(L++PRE++aV [32,44] (ks.map cL)++[32,41]).length<=1000000000:=by rw[<-HE.out,List.length_append];exact Bb
  have hprl:PRE.length<=4000000:=by rw[hPRE];simp only[List.length_append,List.length_cons,List.length_nil,HNA.out,HMO.out];omega
  clear hPRE;simp only[List.length_append,List.length_cons,List.length_nil]at hsz2
  have hnl:name.length<=1048576:=by rw[HNA.out];omega
  have hml:mod.length<=1048576:=by rw[HMO.out];omega
  have hL:L.length<=1000000000:=V6;have x0:=Blk.new w 135 [.int .i64 6,.int .i64 n,.slice a2 0 c2,.slice a3 nn c3,.slice a4 nk c4]
  have G0:Sg w0 w L.length base (fun x=>Blk x w.heap.size 135 [.int .i64 6,.int .i64 n,.slice a2 0 c2,.slice a3 nn c3,.slice a4 nk c4]) (w.alloc (.cells #[.int .i64 6,.int .i64 n,.slice a2 0 c2,.slice a3 nn c3,.slice a4 nk c4] 135 (0,0))) L v:=⟨ho.alloc _,x0,cS V7,Wr.of (aC w _ none),Nat.le_refl _,hb.alloc hb.size _,by simp;omega,h0⟩
  have q0:=x0.cell (i:=0) rfl;clear x0 ho hb hok Bb;go_enter Tryz.func170,Tryz.ntmps170;go_upto_region 1 with fail;generalize w.alloc (.cells #[.int .i64 6,.int .i64 n,.slice a2 0 c2,.slice a3 nn c3,.slice a4 nk c4] 135 (0,0))=w1 at *;generalize w.heap.size=gx at *;have q2:=G0.cell (i:=2) rfl;go_upto_region 21 with fail;clear q0 q2;have G73:=G0.drew
  refine wp_region_held_drew (S:=fun wx=>wx.cell? ⟨gx,3,none⟩=some (.slice a3 nn c3)) V0 (G73.cell (i:=3) rfl) (fun Aa=>?_)
  generalize w1.drew=w73 at *;clear G0;refine ta 0 ?_ Aa;refine ta 3 ?_ Aa;refine ta 4 ?_ Aa;try simp only[nrm]
  refine ra 1 fun K hK=>?_
  go_simp
  have R75:(w73.alloc (.cells #[.int .u8 32] 5)).heap[w73.heap.size]?=some (Obj.cells #[.int .u8 32] 5 (0,0)):=heap_alloc_new w73 _
  have F75:=G73.free;have G75:=G73.alloc (.cells #[.int .u8 32] 5)
  refine hK.out _ _ (G75.cell (i:=3) rfl) (fun Aa=>?_)
  clear hK K G73;try simp only[nrm]
  generalize w73.alloc (.cells #[.int .u8 32] 5)=w75 at *;generalize w73.heap.size=g75 at *
  refine ra 2 fun K hK=>?_
  rw[if_pos V0];refine G75.row_wp _ _ rfl rfl (some ⟨g75,0,none⟩) 1 1 [32] rfl (eN V6 V6 R75) V6 V8 ?_;intro v77 w77 G77 gr77
  refine hK.out _ _ (G77.cell (i:=3) rfl) (fun Aa=>?_)
  clear hK K G75;try simp only[nrm]
  refine ra 5 fun K hK=>?_
  rw[if_pos V0];refine G77.row_wp _ _ rfl rfl a3 nn c3 name rfl (G77.row h3) hnp V8 ?_;intro v79 w79 G79 gr79
  refine hK.out _ _ (G79.cell (i:=3) rfl) (fun Aa=>?_)
  clear hK K G77;try simp only[nrm]
  refine ra 6 fun K hK=>?_
  rw[if_pos V0];refine G79.str_wp _ _ rfl rfl ⟨#[32,40]⟩ rfl V13 ?_;intro v81 w81 G81 gr81
  replace G81:Sg w0 w L.length base _ w81 (L++[32]++name++[32,40]) v81:=G81
  refine hK.out _ _ (G81.cell (i:=3) rfl) (fun Aa=>?_)
  clear hK K G79;try simp only[nrm]
  refine ta 7 ?_ Aa;try simp only[nrm]
  refine wpAnyH_done V0 ?_ _
  have HPR:Hid (L++[32]++name++[32,40]=L++PRE):=by show _=_;rw[<-HPE.out];simp[List.append_assoc]
  have HG:Hid (Sg w0 w L.length base (fun x=>Blk x gx 135 [.int .i64 6,.int .i64 n,.slice a2 0 c2,.slice a3 nn c3,.slice a4 nk c4]) w81 (L++PRE++aV [32,44] ((ks.map cL).take 0)) v81):=by have:=G81;rw[HPR.out]at this;show Sg _ _ _ _ _ _ _ _;simpa [aV] using this
  clear G81 HPR;go_wp2_with fail
  go_loopw [0,5] (fun b i wr=>∃j:Nat,j<=nk/\i=.int .i64 j/\Hid (Sg w0 w L.length base (fun x=>Blk x gx 135 [.int .i64 6,.int .i64 n,.slice a2 0 c2,.slice a3 nn c3,.slice a4 nk c4]) wr (L++PRE++aV [32,44] ((ks.map cL).take j)) b)) (fun _ i _=>nk-(intOf i).toNat)
  case atStart=>exact⟨0,Nat.zero_le _,rfl,HG⟩
  case round=>
   obtain⟨j,hj,rfl,hGr⟩:=hrel;have Gr:=hGr.out;clear HG hGr;have q4:=Gr.cell (i:=4) rfl
   by_cases Ai:j<nk
   .
    obtain⟨b4,o4,rfl⟩:=aS.addr HR.out (by rw[As,Bn.out];omega)
    obtain⟨x,hx⟩:∃x,ks[j]?=some x:=⟨ks[j]'(by rw[Bn.out];exact Ai),List.getElem?_eq_getElem _⟩
    have Ak:(exs ks)[j]?=some x.fl:=by rw[aJ,List.getElem?_map,hx];rfl
    obtain⟨us,Ad,Ab⟩:=(aS.el HR.out Ak).vals;obtain⟨t0,t1,t2,t3,t4,rfl⟩:=eS (Ad.len.trans (cE x))
    have hsx:aH x.fl<=1048576:=Nat.le_trans (bK (List.mem_of_getElem? Ak)) hsk
    have hokx:=HOK.out x (List.mem_of_getElem? hx)
    have hjt:(ks.map cL)[j]?=some (cL x):=by rw[List.getElem?_map,hx];rfl
    have HJ:Hid (aV [32,44] ((ks.map cL).take (j+1))=if j=0 then cL x else aV [32,44] ((ks.map cL).take j)++[32,44]++cL x):=fU hjt
    have hlen:(aV [32,44] ((ks.map cL).take (j+1))).length<=(aV [32,44] (ks.map cL)).length:=gO _ _ _ (by rw[List.length_map,Bn.out];omega)
    have HSX:=HS.out x (List.mem_of_getElem? hx)
    have c0:w0.cell? ⟨b4,o4+j*5,none⟩=some t0:=Ab 0 _ rfl
    have c1:w0.cell? ⟨b4,o4+j*5+1,none⟩=some t1:=Ab 1 _ rfl
    have c2':w0.cell? ⟨b4,o4+j*5+2,none⟩=some t2:=Ab 2 _ rfl
    have c3':w0.cell? ⟨b4,o4+j*5+3,none⟩=some t3:=Ab 3 _ rfl
    have c4':w0.cell? ⟨b4,o4+j*5+4,none⟩=some t4:=Ab 4 _ rfl
    clear Ab hx Ak hjt
    have hs2:(aV [32,44] ((ks.map cL).take j)).length+(if j=0 then 0 else 2)+(cL x).length<=(aV [32,44] (ks.map cL)).length:=by
     exact U40
    clear hlen
    by_cases hj0:j=0
    .
     subst hj0;rw[if_pos rfl]at hs2;simp only[Nat.zero_mul,Nat.add_zero]at c0 c1 c2' c3' c4';clear q4;have q4:=Gr.cell (i:=4) rfl;have d0:=aB c0 Gr.bel;have d1:=aB c1 Gr.bel;have d2:=aB c2' Gr.bel;have d3:=aB c3' Gr.bel;have d4:=aB c4' Gr.bel;have HC:=HSX w0 wr _ base (L++PRE++aV [32,44] ((ks.map cL).take 0)) _ Ad Gr.bel Gr.h0 Gr.le Gr.own hokx V8 hsx;simp only[agg]at HC;go_wp2_with fail;refine HC.mono ?_;rintro e w82 ⟨v82,rfl,ho82,hw82⟩
     have HN:Hid (Sg w0 w L.length base (fun x=>Blk x gx 135 [.int .i64 6,.int .i64 n,.slice a2 0 c2,.slice a3 nn c3,.slice (some ⟨b4,o4,none⟩) nk c4]) w82 (L++PRE++aV [32,44] ((ks.map cL).take (0+1))) v82):=by
      have:=Gr.step hw82 ho82
      show Sg _ _ _ _ _ _ _ _
      rw[HJ.out];exact U117
     clear HC q4 d0 d1 d2 d3 d4 ho82 hw82 Gr;exact U143
    .
     have hpos':(0:Int)<(j:Int):=V6;rw[if_neg hj0]at hs2
     go_wp2_with (at_builtin;refine Sg.str_list Gr rfl _ _ rfl rfl ⟨#[32,44]⟩ rfl V13 ?_)
     intro v83 w83 G83 _;replace G83:=G83.cast (M:=L++PRE++aV [32,44] ((ks.map cL).take j)++[32,44]) V47;clear Gr;clear q4;have q4:=G83.cell (i:=4) rfl;have d0:=aB c0 G83.bel;have d1:=aB c1 G83.bel;have d2:=aB c2' G83.bel;have d3:=aB c3' G83.bel;have d4:=aB c4' G83.bel;have HC:=HSX w0 w83 _ base (L++PRE++aV [32,44] ((ks.map cL).take j)++[32,44]) _ Ad G83.bel G83.h0 G83.le G83.own hokx V8 hsx;simp only[agg]at HC;go_wp2_with fail;refine HC.mono ?_;rintro e w84 ⟨v84,rfl,ho84,hw84⟩
     have HN:Hid (Sg w0 w L.length base (fun x=>Blk x gx 135 [.int .i64 6,.int .i64 n,.slice a2 0 c2,.slice a3 nn c3,.slice (some ⟨b4,o4,none⟩) nk c4]) w84 (L++PRE++aV [32,44] ((ks.map cL).take (j+1))) v84):=by
      have:=G83.step hw84 ho84
      show Sg _ _ _ _ _ _ _ _
      rw[HJ.out,if_neg hj0];exact U117
     clear HC q4 d0 d1 d2 d3 d4 ho84 hw84 G83;exact U133
   .
    have:nk=j:=V6
    subst this;rw[List.take_of_length_le V80]at Gr
    go_wp2_with (at_builtin;refine Sg.str_list Gr rfl _ _ rfl rfl ⟨#[32,41]⟩ rfl V13 ?_)
    intro v85 w85 G85 _;replace G85:=G85.cast (M:=L++PRE++aV [32,44] (ks.map cL)++[32,41]) V37;clear Gr;go_wp2_with fail;go_ret;rw[HE.out];exact⟨_,rfl,G85.own,G85.wrote⟩
 .
  have hm':(0:Int)<(nm:Int):=V6
  obtain⟨PRE,hPRE⟩:∃P,P=[32]++mod++[32,46]++[32]++name++[32,40]:=⟨_,rfl⟩
  have HPE:Hid ([32]++mod++[32,46]++[32]++name++[32,40]=PRE):=hPRE.symm
  have HE:Hid (L++cL (.mk 6 n mod name ks)=L++PRE++aV [32,44] (ks.map cL)++[32,41]):=by
   show _=_
   rw[hPRE]
   have e6:cL (.mk 6 n mod name ks)=(if mod.length=0 then [] else [32]++mod++[32,46])++[32]++name++[32,40]++aV [32,44] (ks.map cL)++[32,41]:=by rw[cL,lL];rfl
   rw[e6,if_neg (by rw[HMO.out];exact hm)]
   simp[List.append_assoc]
  have hsz2:(L++PRE++aV [32,44] (ks.map cL)++[32,41]).length<=1000000000:=by rw[<-HE.out,List.length_append];exact Bb
  have hprl:PRE.length<=4000000:=by rw[hPRE];simp only[List.length_append,List.length_cons,List.length_nil,HNA.out,HMO.out];omega
  clear hPRE;simp only[List.length_append,List.length_cons,List.length_nil]at hsz2
  have hnl:name.length<=1048576:=by rw[HNA.out];omega
  have hml:mod.length<=1048576:=by rw[HMO.out];omega
  have hL:L.length<=1000000000:=V6;have x0:=Blk.new w 135 [.int .i64 6,.int .i64 n,.slice a2 nm c2,.slice a3 nn c3,.slice a4 nk c4]
  have G0:Sg w0 w L.length base (fun x=>Blk x w.heap.size 135 [.int .i64 6,.int .i64 n,.slice a2 nm c2,.slice a3 nn c3,.slice a4 nk c4]) (w.alloc (.cells #[.int .i64 6,.int .i64 n,.slice a2 nm c2,.slice a3 nn c3,.slice a4 nk c4] 135 (0,0))) L v:=⟨ho.alloc _,x0,cS V7,Wr.of (aC w _ none),Nat.le_refl _,hb.alloc hb.size _,by simp;omega,h0⟩
  have q0:=x0.cell (i:=0) rfl;clear x0 ho hb hok Bb;go_enter Tryz.func170,Tryz.ntmps170;go_upto_region 1 with fail;generalize w.alloc (.cells #[.int .i64 6,.int .i64 n,.slice a2 nm c2,.slice a3 nn c3,.slice a4 nk c4] 135 (0,0))=w1 at *;generalize w.heap.size=gx at *;have q2:=G0.cell (i:=2) rfl;go_upto_region 20 with fail;clear q0 q2;have G86:=G0.drew
  refine wp_region_held_drew (S:=fun wx=>wx.cell? ⟨gx,2,none⟩=some (.slice a2 nm c2)) V0 (G86.cell (i:=2) rfl) (fun Aa=>?_)
  generalize w1.drew=w86 at *;clear G0;refine ta 0 ?_ Aa;refine ta 3 ?_ Aa;refine ta 4 ?_ Aa;try simp only[nrm]
  refine ra 1 fun K hK=>?_
  go_simp
  have R88:(w86.alloc (.cells #[.int .u8 32] 5)).heap[w86.heap.size]?=some (Obj.cells #[.int .u8 32] 5 (0,0)):=heap_alloc_new w86 _
  have F88:=G86.free;have G88:=G86.alloc (.cells #[.int .u8 32] 5)
  refine hK.out _ _ (G88.cell (i:=2) rfl) (fun Aa=>?_)
  clear hK K G86;try simp only[nrm]
  generalize w86.alloc (.cells #[.int .u8 32] 5)=w88 at *;generalize w86.heap.size=g88 at *
  refine ra 2 fun K hK=>?_
  rw[if_pos V0];refine G88.row_wp _ _ rfl rfl (some ⟨g88,0,none⟩) 1 1 [32] rfl (eN V6 V6 R88) V6 V8 ?_;intro v90 w90 G90 gr90
  refine hK.out _ _ (G90.cell (i:=2) rfl) (fun Aa=>?_)
  clear hK K G88;try simp only[nrm]
  refine ra 5 fun K hK=>?_
  rw[if_pos V0];refine G90.row_wp _ _ rfl rfl a2 nm c2 mod rfl (G90.row h2) V6 V8 ?_;intro v92 w92 G92 gr92
  refine hK.out _ _ (G92.cell (i:=2) rfl) (fun Aa=>?_)
  clear hK K G90;try simp only[nrm]
  refine ra 6 fun K hK=>?_
  rw[if_pos V0];refine G92.str_wp _ _ rfl rfl ⟨#[32,46]⟩ rfl V13 ?_;intro v94 w94 G94 gr94
  replace G94:Sg w0 w L.length base _ w94 (L++[32]++mod++[32,46]) v94:=G94
  refine hK.out _ _ (G94.cell (i:=2) rfl) (fun Aa=>?_)
  clear hK K G92;try simp only[nrm]
  refine ta 7 ?_ Aa;try simp only[nrm]
  refine wpAnyH_done V0 ?_ _;go_upto_region 21 with fail
  skip
  have G95:=G94.drew
  refine wp_region_held_drew (S:=fun wx=>wx.cell? ⟨gx,3,none⟩=some (.slice a3 nn c3)) V0 (G95.cell (i:=3) rfl) (fun Aa=>?_)
  generalize w94.drew=w95 at *;clear G94;refine ta 0 ?_ Aa;refine ta 3 ?_ Aa;refine ta 4 ?_ Aa;try simp only[nrm]
  refine ra 1 fun K hK=>?_
  go_simp
  have R97:(w95.alloc (.cells #[.int .u8 32] 5)).heap[w95.heap.size]?=some (Obj.cells #[.int .u8 32] 5 (0,0)):=heap_alloc_new w95 _
  have F97:=G95.free;have G97:=G95.alloc (.cells #[.int .u8 32] 5)
  refine hK.out _ _ (G97.cell (i:=3) rfl) (fun Aa=>?_)
  clear hK K G95;try simp only[nrm]
  generalize w95.alloc (.cells #[.int .u8 32] 5)=w97 at *;generalize w95.heap.size=g97 at *
  refine ra 2 fun K hK=>?_
  rw[if_pos V0];refine G97.row_wp _ _ rfl rfl (some ⟨g97,0,none⟩) 1 1 [32] rfl (eN V6 V6 R97) V6 V8 ?_;intro v99 w99 G99 gr99
  refine hK.out _ _ (G99.cell (i:=3) rfl) (fun Aa=>?_)
  clear hK K G97;try simp only[nrm]
  refine ra 5 fun K hK=>?_
  rw[if_pos V0];refine G99.row_wp _ _ rfl rfl a3 nn c3 name rfl (G99.row h3) hnp V8 ?_;intro v101 w101 G101 gr101
  refine hK.out _ _ (G101.cell (i:=3) rfl) (fun Aa=>?_)
  clear hK K G99;try simp only[nrm]
  refine ra 6 fun K hK=>?_
  rw[if_pos V0];refine G101.str_wp _ _ rfl rfl ⟨#[32,40]⟩ rfl V13 ?_;intro v103 w103 G103 gr103
  replace G103:Sg w0 w L.length base _ w103 (L++[32]++mod++[32,46]++[32]++name++[32,40]) v103:=G103
  refine hK.out _ _ (G103.cell (i:=3) rfl) (fun Aa=>?_)
  clear hK K G101;try simp only[nrm]
  refine ta 7 ?_ Aa;try simp only[nrm]
  refine wpAnyH_done V0 ?_ _
  have HPR:Hid (L++[32]++mod++[32,46]++[32]++name++[32,40]=L++PRE):=by show _=_;rw[<-HPE.out];simp[List.append_assoc]
  have HG:Hid (Sg w0 w L.length base (fun x=>Blk x gx 135 [.int .i64 6,.int .i64 n,.slice a2 nm c2,.slice a3 nn c3,.slice a4 nk c4]) w103 (L++PRE++aV [32,44] ((ks.map cL).take 0)) v103):=by have:=G103;rw[HPR.out]at this;show Sg _ _ _ _ _ _ _ _;simpa [aV] using this
  clear G103 HPR;go_wp2_with fail
  go_loopw [0,5] (fun b i wr=>∃j:Nat,j<=nk/\i=.int .i64 j/\Hid (Sg w0 w L.length base (fun x=>Blk x gx 135 [.int .i64 6,.int .i64 n,.slice a2 nm c2,.slice a3 nn c3,.slice a4 nk c4]) wr (L++PRE++aV [32,44] ((ks.map cL).take j)) b)) (fun _ i _=>nk-(intOf i).toNat)
  case atStart=>exact⟨0,Nat.zero_le _,rfl,HG⟩
  case round=>
   obtain⟨j,hj,rfl,hGr⟩:=hrel;have Gr:=hGr.out;clear HG hGr;have q4:=Gr.cell (i:=4) rfl
   by_cases Ai:j<nk
   .
    obtain⟨b4,o4,rfl⟩:=aS.addr HR.out (by rw[As,Bn.out];omega)
    obtain⟨x,hx⟩:∃x,ks[j]?=some x:=⟨ks[j]'(by rw[Bn.out];exact Ai),List.getElem?_eq_getElem _⟩
    have Ak:(exs ks)[j]?=some x.fl:=by rw[aJ,List.getElem?_map,hx];rfl
    obtain⟨us,Ad,Ab⟩:=(aS.el HR.out Ak).vals;obtain⟨t0,t1,t2,t3,t4,rfl⟩:=eS (Ad.len.trans (cE x))
    have hsx:aH x.fl<=1048576:=Nat.le_trans (bK (List.mem_of_getElem? Ak)) hsk
    have hokx:=HOK.out x (List.mem_of_getElem? hx)
    have hjt:(ks.map cL)[j]?=some (cL x):=by rw[List.getElem?_map,hx];rfl
    have HJ:Hid (aV [32,44] ((ks.map cL).take (j+1))=if j=0 then cL x else aV [32,44] ((ks.map cL).take j)++[32,44]++cL x):=fU hjt
    have hlen:(aV [32,44] ((ks.map cL).take (j+1))).length<=(aV [32,44] (ks.map cL)).length:=gO _ _ _ (by rw[List.length_map,Bn.out];omega)
    have HSX:=HS.out x (List.mem_of_getElem? hx)
    have c0:w0.cell? ⟨b4,o4+j*5,none⟩=some t0:=Ab 0 _ rfl
    have c1:w0.cell? ⟨b4,o4+j*5+1,none⟩=some t1:=Ab 1 _ rfl
    have c2':w0.cell? ⟨b4,o4+j*5+2,none⟩=some t2:=Ab 2 _ rfl
    have c3':w0.cell? ⟨b4,o4+j*5+3,none⟩=some t3:=Ab 3 _ rfl
    have c4':w0.cell? ⟨b4,o4+j*5+4,none⟩=some t4:=Ab 4 _ rfl
    clear Ab hx Ak hjt
    have hs2:(aV [32,44] ((ks.map cL).take j)).length+(if j=0 then 0 else 2)+(cL x).length<=(aV [32,44] (ks.map cL)).length:=by
     exact U40
    clear hlen
    by_cases hj0:j=0
    .
     subst hj0;rw[if_pos rfl]at hs2;simp only[Nat.zero_mul,Nat.add_zero]at c0 c1 c2' c3' c4';clear q4;have q4:=Gr.cell (i:=4) rfl;have d0:=aB c0 Gr.bel;have d1:=aB c1 Gr.bel;have d2:=aB c2' Gr.bel;have d3:=aB c3' Gr.bel;have d4:=aB c4' Gr.bel;have HC:=HSX w0 wr _ base (L++PRE++aV [32,44] ((ks.map cL).take 0)) _ Ad Gr.bel Gr.h0 Gr.le Gr.own hokx V8 hsx;simp only[agg]at HC;go_wp2_with fail;refine HC.mono ?_;rintro e w104 ⟨v104,rfl,ho104,hw104⟩
     have HN:Hid (Sg w0 w L.length base (fun x=>Blk x gx 135 [.int .i64 6,.int .i64 n,.slice a2 nm c2,.slice a3 nn c3,.slice (some ⟨b4,o4,none⟩) nk c4]) w104 (L++PRE++aV [32,44] ((ks.map cL).take (0+1))) v104):=by
      have:=Gr.step hw104 ho104
      show Sg _ _ _ _ _ _ _ _
      rw[HJ.out];exact U117
     clear HC q4 d0 d1 d2 d3 d4 ho104 hw104 Gr;exact U143
    .
     have hpos':(0:Int)<(j:Int):=V6;rw[if_neg hj0]at hs2
     go_wp2_with (at_builtin;refine Sg.str_list Gr rfl _ _ rfl rfl ⟨#[32,44]⟩ rfl V13 ?_)
     intro v105 w105 G105 _;replace G105:=G105.cast (M:=L++PRE++aV [32,44] ((ks.map cL).take j)++[32,44]) V47;clear Gr;clear q4;have q4:=G105.cell (i:=4) rfl;have d0:=aB c0 G105.bel;have d1:=aB c1 G105.bel;have d2:=aB c2' G105.bel;have d3:=aB c3' G105.bel;have d4:=aB c4' G105.bel;have HC:=HSX w0 w105 _ base (L++PRE++aV [32,44] ((ks.map cL).take j)++[32,44]) _ Ad G105.bel G105.h0 G105.le G105.own hokx V8 hsx;simp only[agg]at HC;go_wp2_with fail;refine HC.mono ?_;rintro e w106 ⟨v106,rfl,ho106,hw106⟩
     have HN:Hid (Sg w0 w L.length base (fun x=>Blk x gx 135 [.int .i64 6,.int .i64 n,.slice a2 nm c2,.slice a3 nn c3,.slice (some ⟨b4,o4,none⟩) nk c4]) w106 (L++PRE++aV [32,44] ((ks.map cL).take (j+1))) v106):=by
      have:=G105.step hw106 ho106
      show Sg _ _ _ _ _ _ _ _
      rw[HJ.out,if_neg hj0];exact U117
     clear HC q4 d0 d1 d2 d3 d4 ho106 hw106 G105;exact U133
   .
    have:nk=j:=V6
    subst this;rw[List.take_of_length_le V80]at Gr
    go_wp2_with (at_builtin;refine Sg.str_list Gr rfl _ _ rfl rfl ⟨#[32,41]⟩ rfl V13 ?_)
    intro v107 w107 G107 _;replace G107:=G107.cast (M:=L++PRE++aV [32,44] (ks.map cL)++[32,41]) V37;clear Gr;go_wp2_with fail;go_ret;rw[HE.out];exact⟨_,rfl,G107.own,G107.wrote⟩
theorem aEe {x:Ex}(h:nQ x=true->jY x):jY x:=by
 intro w0 w vs base L v h1 h2 h3 h4 h5 h6;exact h h6 w0 w vs base L v h1 h2 h3 h4 h5 h6
mutual
theorem qO:∀x:Ex,jY x
 | .mk k n m a ks=>by
  have H:=aF5 ks
  refine aEe fun hok=>?_
  obtain⟨h1,h2⟩:=cM hok;have h3:=aIj h1;have h8:k=0\/k=1\/k=2\/k=3\/k=4\/k=5\/k=6\/k=7:=V6
  rcases h8 with rfl|rfl|rfl|rfl|rfl|rfl|rfl|rfl
  .
   exact aKd n m a ks
  .
   exact aKc n m a ks
  .
   simp[dL,eX]at h3
   match ks,H with
   | [x],H=>exact aKb n m a x (H x V15)
   | [],_=>simp at h3
   | _ :: _ :: _,_=>simp at h3;omega
  .
   simp[dL,eX]at h3
   match ks,H with
   | [x,y],H=>exact aKa n m a x (H x V15) y (H y V15)
   | [],_=>simp at h3
   | [_],_=>simp at h3
   | _ :: _ :: _ :: _,_=>simp at h3;omega
  .
   exact aJ9 n m a ks
  .
   exact aJ8 n m a ks
  .
   exact aJ7 n m a ks H
  .
   exact aJ6 n m a ks
theorem aF5:∀(l:List Ex),∀x ∈ l,jY x
 | [],x,h=>by simp at h
 | y :: l,x,h=>by
  rcases List.mem_cons.1 h with h|h
  .
   rw[h];exact qO y
  .
   exact aF5 l x h
end
end Go.Proofs.YtnelibmaancmkaaGreatDoor

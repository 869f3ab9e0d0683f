import Derived.Test.YtcbhdhmhidpdgaaGreatPackR
namespace Go.Proofs.YtcbhdhmhidpdgaaGreat
set_option maxHeartbeats 8000000
open Go.RowKit
set_option linter.unusedVariables false
set_option linter.unusedSimpArgs false
set_option maxRecDepth 100000
theorem QA80{p:Prop}(h:p:=by
 have h9:=congrArg List.length Gt.rs
 rw[zB2,iL]at h9
 omega):p:=h
theorem M968{p q:Prop}(k:q)(h:Kx q->p:=by
 intro kQ
 try simp only[nrm]
 refine la 10 ?_
 try simp only[nrm]
 have xC:=Blk.new wT 32 [.int .i64 (nw:Int),.int .i64 (lz:Int),.int .i64 (n2:Int),.slice ax n4 cx]
 have bC:Below wT.heap.size wT (wT.alloc (.cells #[.int .i64 (nw:Int),.int .i64 (lz:Int),.int .i64 (n2:Int),.slice ax n4 cx] 32 (0,0))):=(zD2 _ _).alloc (zB0 _) _
 have hSC:(wT.alloc (.cells #[.int .i64 (nw:Int),.int .i64 (lz:Int),.int .i64 (n2:Int),.slice ax n4 cx] 32 (0,0))).cell? ⟨g,0,none⟩=some (.slice ma rs.length mc)/\(wT.alloc (.cells #[.int .i64 (nw:Int),.int .i64 (lz:Int),.int .i64 (n2:Int),.slice ax n4 cx] 32 (0,0))).cell? ⟨g,1,none⟩=some (.slice Mk lz Mj)/\(wT.alloc (.cells #[.int .i64 (nw:Int),.int .i64 (lz:Int),.int .i64 (n2:Int),.slice ax n4 cx] 32 (0,0))).cell? ⟨gO,4,none⟩=some (.slice a4 n4 e4):=⟨aB Lu.1 bC,aB Lu.2.1 bC,aB Lu.2.2 bC⟩
 have Gt:=(Dm.step Ec).step bC
 have oBU:=(Dn.below Ec Dn.lt).below bC (Dn.below Ec Dn.lt).lt
 have pcU:=(Ko.stays (w':=wT.alloc (.cells #[.int .i64 (nw:Int),.int .i64 (lz:Int),.int .i64 (n2:Int),.slice ax n4 cx] 32 (0,0))) (fun g _ q _=>bC.block g q)).wide (zB0 _) bC.size
 have hcS:wS.heap.size<=(wT.alloc (.cells #[.int .i64 (nw:Int),.int .i64 (lz:Int),.int .i64 (n2:Int),.slice ax n4 cx] 32 (0,0))).heap.size:=zF2 Ec.size bC.size
 have hiS:=Dm.hi.2
 revert hiS;revert hcS;revert pcU;revert oBU;revert Gt;revert hSC;revert bC;revert xC
 exact kQ.o):p:=h ⟨k⟩
theorem M917{p q:Prop}(k:q)(h:Kx q->p:=by
 intro kQ
 have Ud:=Gt.mods hiS (show Pc wU 5 1 wS.heap.size wU.heap.size (.slice ax n4 cx) (Rg.code ⟨(nw:Int),(lz:Int),(n2:Int),o.code⟩).length (bVL (Rg.code ⟨(nw:Int),(lz:Int),(n2:Int),o.code⟩)) by show Pc _ _ _ _ _ _ o.code.length (bVL o.code);rw[HN4.out];exact pcU) Hh.out.2.1 hcS Hu Hy
 rw[<-pF HO.out HNW.out HLW2.out Oi.out]at Ud
 have HFI:Hid (∃hi h2 mv wv rs',S3s s l w g hi h2 (wV.setCell ⟨g,0,none⟩ (.slice ma3 (rs.length+1) mk3)) mv wv rs' (eD l (j+1)) (aM l (j+1))):=⟨_,_,_,_,_,Ud⟩
 revert HFI;revert Ud
 exact kQ.o):p:=h ⟨k⟩
theorem M927{p q:Prop}(k:q)(h:Kx q->p:=by
 intro kQ
 have Dm:=st9.step (w':=wE.drew) (zD2 _ _).drew
 have Dn:Blk wE.drew gO 36 [.slice a0 n0 e0,.slice a1 n1 e1,.slice a2 n2 e2,.int .i64 (nd:Int),.slice a4 n4 e4]:=oB9
 have Bq:wE.drew.cell? ⟨g,0,none⟩=some (.slice ma rs.length mc)/\wE.drew.cell? ⟨g,1,none⟩=some (.slice Mk lz Mj)/\wE.drew.cell? ⟨gO,4,none⟩=some (.slice a4 n4 e4):=⟨Dm.m.k 0,Dm.m.k 1,Dn.k 4⟩
 revert Bq;revert Dn;revert Dm
 exact kQ.o):p:=h ⟨k⟩
theorem M933{p q:Prop}(k:q)(h:Kx q->p:=by
 intro kQ
 refine la 0 ?_
 refine la 1 ?_
 refine la 2 ?_
 try simp only[nrm]
 refine la 3 ?_
 refine la 4 ?_
 refine la 5 ?_
 try simp only[nrm]
 refine la 6 ?_
 refine la 7 ?_
 refine la 8 ?_
 try simp only[nrm]
 try simp only[nrm]
 have Uc:=yD a4 n4 e4 o.code wS (aV.below Hh.out Dm.z.y) hz4 A0
 revert Uc
 exact kQ.o):p:=h ⟨k⟩
variable{us vs:List Wo}{w:World}
theorem yD (a:Option Addr)(n c:Nat)(l:List Int)(w:World)(h:aV w a n l)(hz:a=none->c=0)(hn:n<=1048576):
  Calls Tryz.prog 41 #[.slice a n c] w fun e w'=>∃v,e=.returned v/\Pc w' 5 1 w.heap.size w'.heap.size v n (bVL l)/\Below w.heap.size w w':=by
 cases a with
 | none=>
  obtain rfl:=hz rfl;have h0:n=0:=by
   exact QA120
  subst h0;obtain rfl:l=[]:=zE0 h.1;have hq:∀w,(binOp .eql 22 (.slice none 0 0) (.slice none 0 0)).run Tryz.prog w=.ok (.bool true) w:=fun w=>by kernel_rfl
  have HF:Hid (Pc w 5 1 w.heap.size w.heap.size (.slice none 0 0) 0 (bVL [])):=⟨World.ownsRow_nil _ _ _ _,fun k hk=>by cases hk⟩
  clear h hz;go_enter Tryz.func41,Tryz.ntmps41;go_wp2;go_ret;exact⟨_,rfl,HF.out,zD2 _ _⟩
 | some x=>
  have hq:∀w,(binOp .eql 22 (.slice (some x) n c) (.slice none 0 0)).run Tryz.prog w=.ok (.bool false) w:=fun w=>by kernel_rfl
  have hE:=lX w;have hB:=gZ w;have hR:=h.below hB;clear h;go_enter Tryz.func41,Tryz.ntmps41;go_wp2_with (at_builtin;refine cC rfl _ _ rfl w.heap.size _ 0 [] rfl hE _ n c l rfl hR hz A0 A9 ?_);intro v3 w3 Nf Bn;have HF:Hid (Pc w3 5 1 w.heap.size w3.heap.size v3 n (bVL l)/\Below w.heap.size w w3):=by
   exact⟨⟨Nf.1,fun k hk=>(Nf.1.lt k hk).2⟩,hB.grown Bn hB.size (fun k hk=>(hE.1.lt k hk).1)⟩
  clear Nf Bn hE hB hR;go_wp2;go_ret;exact⟨_,rfl,HF.out⟩
theorem aCn (l:List Oj){j n:Nat}(h:j<n):∃rest,aU l n=aU l j++(dO l j++rest):=by
 induction n with
 | zero=>omega| succ n ih=>
  by_cases e:j=n
  .
   subst e;exact⟨[],by simp[aU]⟩
  .
   obtain⟨rest,hr⟩:=ih A0;exact⟨rest++dO l n,by rw[show aU l (n+1)=aU l n++dO l n from rfl,hr];simp⟩
theorem WAt.take{a:Option Addr}(h:WAt w a (us++vs)):WAt w a us:=fun hp=>by
 obtain⟨b,off,e,hc⟩:=h (by rw[zA1];omega);refine⟨b,off,e,fun i v hv=>hc i v ?_⟩;rw[iQ,List.getElem?_append_left (zC1.1 hv).1];exact hv
theorem WAt.drop{b off:Nat}(h:WAt w (some ⟨b,off,none⟩) (us++vs)):WAt w (some ⟨b,off+us.length*7,none⟩) vs:=fun hp=>by
 obtain⟨b',Lg,e,hc⟩:=h (by rw[zA1];omega);simp only[zG2,Addr.mk.injEq,and_true]at e;obtain⟨rfl,rfl⟩:=e;refine⟨b,_,rfl,fun i v hv=>?_⟩;have:=hc (us.length*7+i) v (by rw[iQ,List.getElem?_append_right (by rw[gU];omega),gU,Nat.add_sub_cancel_left];exact hv);rw[Nat.add_assoc];exact this
theorem aIa (l:List Oj)(a:Option Addr)(n c:Nat)(av:Option Addr)(ne cv:Nat)(s:Int)(w:World)(hL:aX w a c 5 (l.map Oj.fl))(hn:l.length=n)(hn8:n<=8)(hf:∀o ∈ l,dF o.ob=true)(Ae:(aU l n).length=ne)(hA:WAt w av (aU l n))(hcv:ne<=cv)(hav:av=none->cv=0)(ge:Nat)(Yy:av=none\/∃o,av=some ⟨ge,o,none⟩):
  Calls Tryz.prog 20 #[.slice a n c,.slice av ne cv,.int .i64 s] w fun e w'=>∃mv wv rs,e=.returned (.agg #[mv,wv,.int .i64 s])/\(rs.map fun x=>x.2)=eD l n/\Im w' w.heap.size w'.heap.size w'.heap.size mv wv rs (aM l n)/\Below w.heap.size w w':=by
 have HL:Hid (aX w a c 5 (l.map Oj.fl)):=hL;have HN:Hid (l.length=n):=hn;have Qm:Hid (∀o ∈ l,dF o.ob=true):=hf;have Rc:=hL.cap;have Dh:=hL.len9;rw[zB2,hn]at Rc Dh;have s0:=S0.start w;clear hL hn hf;obtain⟨i0,Tp,Dc,De,Db⟩:=info_parts aAg;go_enter Tryz.func20,Tryz.ntmps20;go_upto_region 1 with fail;generalize w.alloc (.cells #[.slice none 0 0,.slice none 0 0,.int .i64 0] 28 (0,0))=w2 at *;go_wp2_with (at_make;refine wpList_make_full _ rfl _ _ 26 rfl w2.heap.size 39 i0 _ 7 Tryz.underlying26 Tp Dc De _ _ _ _ 600 rfl rfl rfl rfl A90 A13 (zB0 _) ?_);intro w3 Ak Dy;obtain⟨z3,im3⟩:=S3.start (l:=l) s0 Ak Dy (.slice none 0 0);have b4:Below w3.heap.size w3 (w3.alloc (.cells #[.slice none 0 0,.slice (some ⟨w2.heap.size,0,none⟩) 600 600,.int .i64 s] 28 (0,0))):=(zD2 _ _).alloc (zB0 _) _;have Cq:Hid (∃hi h2 mv wv rs,S3s s l w w3.heap.size hi h2 (w3.alloc (.cells #[.slice none 0 0,.slice (some ⟨w2.heap.size,0,none⟩) 600 600,.int .i64 s] 28 (0,0))) mv wv rs (eD l 0) (aM l 0)):=
  ⟨_,_,_,_,[],z3.step b4,Blk.new w3 28 [.slice none 0 0,.slice (some ⟨w2.heap.size,0,none⟩) 600 600,.int .i64 s],im3.below b4,rfl,z3.z.lt,⟨z3.y.size,b4.size⟩,b4.size⟩
 clear z3 im3 b4 Ak Dy s0 Tp Dc De Db;have HA0:Hid (WAt w av ((aU l n).drop (aU l 0).length)):=hA;clear hA;go_upto_region 2 with fail;generalize w3.alloc (.cells #[.slice none 0 0,.slice (some ⟨w2.heap.size,0,none⟩) 600 600,.int .i64 s] 28 (0,0))=w4 at *;generalize w3.heap.size=g at *;go_wp2_with fail;go_loopw [1,9,10,11,17] (fun t1 _ _ _ i wr=>∃j:Nat,j<=n/\i=.int .i64 j/\(∃aj rj cj,t1=.slice aj rj cj/\rj+(aU l j).length=ne/\rj<=cj/\(aj=none->cj=0)/\(aj=none\/∃o,aj=some ⟨ge,o,none⟩)/\Hid (WAt w aj ((aU l n).drop (aU l j).length)))/\Hid (∃hi h2 mv wv rs,S3s s l w g hi h2 wr mv wv rs (eD l j) (aM l j))) (fun _ _ _ _ i _=>n-(intOf i).toNat)
 case atStart=>exact⟨0,zD1 _,rfl,⟨av,ne,cv,rfl,rfl,hcv,hav,Yy,HA0⟩,Cq⟩
 case round=>
  obtain⟨j,hj,rfl,⟨aj,rj,cj,rfl,Ie,hrc,hajn,haj,hWA⟩,hst⟩:=hrel;obtain⟨hi,h2,mv,wv,rs,st⟩:=hst.out;clear Cq hst HA0;obtain⟨ma,mc,wa,wk,rfl,rfl⟩:=st.cells;by_cases Ad:j<n
  .
   obtain⟨b,off,rfl⟩:=aX.addr HL.out A63;obtain⟨o,v0,v1,v2,v3,v4,ho,hv,c0,c1,c2,c3,c4⟩:=lY HL.out HN.out j Ad;have b0:=aB c0 st.z.y;have b1:=aB c1 st.z.y;have b2:=aB c2 st.z.y;have b3:=aB c3 st.z.y;have b4:=aB c4 st.z.y;obtain⟨a0,e0,a1,e1,a2,e2,a4,e4,rfl,rfl,rfl,rfl,rfl,_,_,_,hB4,hz4⟩:=kU hv;have HO:Hid (l[j]?=some o):=ho;obtain⟨p1,p2,p3,p4,p5,_,_⟩:=cP (Qm.out o (zA3 ho));have Gw:(j:Int)<(n:Int):=A0;obtain⟨n2,Dl⟩:=zx (o.im.length);obtain⟨n4,hn4⟩:=zx (o.code.length);have Oi:Hid (o.im.length=n2):=Dl.symm;have HN4:Hid (o.code.length=n4):=hn4.symm;obtain⟨nd,Bw⟩:∃nd:Nat,o.data=(nd:Int):=⟨o.data.toNat,by omega⟩
   have HDA:Hid (jV l j=List.replicate nd cQ):=aNo ho Bw;rw[Bw]at p3 p4 b3;rw[<-Dl]at b2 p2;rw[<-hn4]at b4 p5 hB4;have Hh:Hid (aV w a4 n4 o.code):=hB4;have hEL:Hid ((dO l j).length=n2):=by show _=_;unfold dO;rw[cH ho,zB2,Oi.out]
   obtain⟨rest,Ji⟩:=aCn l Ad;have hn2r:n2<=rj:=by
    have h1:=congrArg List.length Ji;rw[zA1,zA1,hEL.out,Ae]at h1;omega
   have HW1:Hid (WAt w aj (dO l j)):=by
    have:=hWA.out;rw[Ji,List.drop_left]at this;exact this.take
   have HW2:Hid (∀o',aj=some ⟨ge,o',none⟩->WAt w (some ⟨ge,o'+n2*7,none⟩) ((aU l n).drop (aU l (j+1)).length)):=by
    intro o' ho';have h1:=hWA.out;rw[Ji,List.drop_left,ho']at h1;have h2:=h1.drop;rw[hEL.out]at h2;have e:(aU l n).drop (aU l (j+1)).length=rest:=by
     rw[Ji,show aU l (j+1)=aU l j++dO l j from rfl,<-zD0,List.drop_left]
    rw[e];exact h2
   have HR9:Hid ((aU l (j+1)).length=(aU l j).length+n2):=by
    show _=_
    rw[show aU l (j+1)=aU l j++dO l j from rfl,zA1,hEL.out]
   have hHrest:Hid (∃rest,aU l n=aU l j++(dO l j++rest)):=⟨rest,Ji⟩
   clear Ji hWA;generalize o.name.length=n0 at *;generalize o.ex.length=n1 at *;have bO:Below wr.heap.size wr (wr.alloc (.cells #[.slice a0 n0 e0,.slice a1 n1 e1,.slice a2 n2 e2,.int .i64 (nd:Int),.slice a4 n4 e4] 36 (0,0))):=(zD2 _ _).alloc (zB0 _) _;have oB:=Blk.new wr 36 [.slice a0 n0 e0,.slice a1 n1 e1,.slice a2 n2 e2,.int .i64 (nd:Int),.slice a4 n4 e4];have st5:=st.step bO;have hgO:w.heap.size<wr.heap.size:=st.z.z.lt;simp only[List.toArray]at oB;clear c0 c1 c2 c3 c4 ho hv hB4 Dl hn4 st bO Bw;go_upto_region 5 with fail;generalize wr.alloc (.cells #[.slice a0 n0 e0,.slice a1 n1 e1,.slice a2 n2 e2,.int .i64 (nd:Int),.slice a4 n4 e4] 36 (0,0))=w5 at *;generalize wr.heap.size=gO at *;clear b0 b1 b2 b3 b4;obtain⟨nw,Tl⟩:=zx ((aM l j).length);have HNW:Hid ((aM l j).length=nw):=Tl.symm;have hnwb:nw<=2264:=by rw[Tl];have:=jL l (fun o ho=>by have:=cP (Qm.out o ho);omega) j (by rw[HN.out];omega);omega
   have hnwp:600<=nw:=by rw[Tl];exact aGc l j
   rw[<-Tl]at st5;clear Tl;have Bq:w5.drew.cell? ⟨g,1,none⟩=some (.slice wa nw wk)/\w5.drew.cell? ⟨gO,2,none⟩=some (.slice a2 n2 e2):=⟨st5.m.k 1,oB.k 2⟩
   refine zK0 (S:=fun wl=>wl.cell? ⟨g,1,none⟩=some (.slice wa nw wk)/\wl.cell? ⟨gO,2,none⟩=some (.slice a2 n2 e2)) A1 Bq (fun Aa=>?_);refine ta 0 ?_;refine ta 1 ?_;refine ta 2 ?_;try simp only[nrm]
   refine ta 3 ?_;refine ta 4 ?_;refine ta 5 ?_;try simp only[nrm]
   refine ta 6 ?_;refine ta 7 ?_;try simp only[nrm]
   refine zK1 A1 ?_ _;have st6:=st5.step (w':=w5.drew) (zD2 _ _).drew;have oB6:Blk w5.drew gO 36 [.slice a0 n0 e0,.slice a1 n1 e1,.slice a2 n2 e2,.int .i64 (nd:Int),.slice a4 n4 e4]:=oB;clear Bq Aa st5 oB;generalize w5.drew=w6 at *;go_upto_region 6 with fail;have z0:(0:Int)<=(n2:Int):=A0;have z1:(n2:Int)<=(cj:Int):=A0;have z2:(n2:Int)<=(rj:Int):=A0;have Ye:=st6.step (w':=w6.drew) (zD2 _ _).drew;have oB7:Blk w6.drew gO 36 [.slice a0 n0 e0,.slice a1 n1 e1,.slice a2 n2 e2,.int .i64 (nd:Int),.slice a4 n4 e4]:=oB6;have Bq:w6.drew.cell? ⟨g,1,none⟩=some (.slice wa nw wk):=Ye.m.k 1;refine rl 7 (S:=fun wl=>wl.cell? ⟨g,1,none⟩=some (.slice wa nw wk)) A1 Bq (fun Aa=>?_);generalize w6.drew=wS at *;clear st6 oB6;have HOW:Hid (wS.ownsRow w.heap.size 39 7 (.slice wa nw wk) nw (cL (aM l j))):=by
    have:=Ye.im.wrow.own;rw[HNW.out]at this;exact this
   have HWS:Hid (WAt wS aj (dO l j)):=WAt.below HW1.out Ye.z.y;have HYA:Hid (w.heap.size<=wS.heap.size):=Ye.z.y.size;refine la 0 ?_;refine la 1 ?_;refine la 2 ?_;try simp only[nrm]
   refine la 3 ?_;refine la 4 ?_;try simp only[nrm]
   refine da 5 fun K hK=>?_;rw[if_pos A1];refine vZ _ _ rfl w.heap.size _ nw _ rfl HOW.out aj n2 cj (dO l j) rfl hEL.out HWS.out hajn A0 HYA.out ?_;intro Mx w9 Hu Hy;have m9:=Ye.im.wblk Hy Ye.m A6;have o9:=Ye.im.wblk Hy oB7 A6;have k9:=m9.k 1;have f9:=m9.free 1;obtain⟨wa3,wk3,rfl,_⟩:=aH Hu;generalize hlw':nw+n2=lw at Hu ⊢;have hlw:lw=nw+n2:=hlw'.symm;clear hlw';have st8:=Ye.words (us:=dO l j) hEL.out (by rw[HNW.out,<-hlw];exact Hu) Hy;have HLW:Hid ((aM l j++dO l j).length=lw):=by show _=_;rw[zA1,HNW.out,hEL.out,hlw]
   have hlwb:lw<=2272:=A0;have hlwp:0<lw:=A0;clear hlw;have oB8:Blk (w9.setCell ⟨g,1,none⟩ (.slice wa3 lw wk3)) gO 36 [.slice a0 n0 e0,.slice a1 n1 e1,.slice a2 n2 e2,.int .i64 (nd:Int),.slice a4 n4 e4]:=o9.other (fun e=>by subst e;exact absurd (lV o9 m9) A6);refine hK.out _ _ (k9) (fun Aa=>?_);clear hK K;try simp only[nrm]
   refine la 6 ?_;try simp only[nrm]
   refine ea fun K hK=>?_;go_simp;refine hK.out _ _ ?_;clear hK K Aa Bq Ye oB7 HOW HWS HYA m9 o9 k9 f9 Hu Hy;generalize w9.setCell ⟨g,1,none⟩ (.slice wa3 lw wk3)=wA at *;generalize w9.heap.size=h3 at *;go_upto_region 7 with fail;have Ow:=st8.im.wrow.own;rw[HLW.out]at Ow;obtain⟨_,_,e9,_,_,_,Yr⟩:=aH Ow;obtain⟨gw,Bp⟩:=Yr hlwp;simp only[Value.slice.injEq]at e9;obtain⟨rfl,_,rfl⟩:=e9;subst Bp;have HOW:Hid _:=Ow;have HYA:Hid (w.heap.size<=wA.heap.size):=st8.z.y.size;have mc1:=st8.m.k 1;have oc3:=oB8.k 3;clear Ow Yr;go_wp2_with (at_builtin;refine qE rfl _ _ rfl w.heap.size gw lw wk3 _ rfl HOW.out nd rfl A0 HYA.out ?_);intro Mx wD Hu Hy;have m9:=st8.im.wblk Hy st8.m A6;have o9:=st8.im.wblk Hy oB8 A6;have k9:=m9.k 1;have f9:=m9.free 1;obtain⟨Mk,Mj,rfl,_⟩:=aH Hu;obtain⟨lz,Qy⟩:=zx (lw+nd);rw[<-Qy]at Hu ⊢;have st1:=st8.words (us:=List.replicate nd cQ) (List.length_replicate ..) (by rw[HLW.out,<-Qy];exact Hu) Hy;rw[zD0,<-HDA.out]at st1;have st9:S3s s l w g hi wD.heap.size (wD.setCell ⟨g,1,none⟩ (.slice Mk lz Mj)) (.slice ma rs.length mc) (.slice Mk lz Mj) rs (eD l j) (aM l (j+1)):=st1;have HLW2:Hid ((aM l (j+1)).length=lz):=by
    show(aM l j++(dO l j++jV l j)).length=_
    rw[<-zD0,zA1,HLW.out,HDA.out,List.length_replicate,Qy]
   have oB9:Blk (wD.setCell ⟨g,1,none⟩ (.slice Mk lz Mj)) gO 36 [.slice a0 n0 e0,.slice a1 n1 e1,.slice a2 n2 e2,.int .i64 (nd:Int),.slice a4 n4 e4]:=o9.other (fun e=>by subst e;exact absurd (lV o9 m9) A6);clear st8 st1 m9 o9 Hu Hy HOW HYA mc1 oc3 HDA HLW Qy oB8;go_upto_region 8 with fail;clear k9 f9;generalize wD.setCell ⟨g,1,none⟩ (.slice Mk lz Mj)=wE at *;generalize wD.heap.size=h4 at *;have hRJ:Hid ((rj-n2)+(aU l (j+1)).length=ne):=by show _=_;rw[HR9.out];omega
   have hDL:Hid (((aU l n).drop (aU l (j+1)).length).length=rj-n2):=by show _=_;rw[List.length_drop,Ae,HR9.out];omega
   rcases haj with rfl|⟨o',rfl⟩
   .
    have hcj:cj=0:=hajn rfl;subst hcj;have hrj0:rj-n2=0:=A0;have HWF:Hid (WAt w none ((aU l n).drop (aU l (j+1)).length)):=by intro hp;rw[hDL.out]at hp;omega
    rw[hrj0]at hRJ;go_upto_region 9 with fail;refine M927 ?_;intro Dm Dn Bq;refine rl 14 (S:=fun wl=>wl.cell? ⟨g,0,none⟩=some (.slice ma rs.length mc)/\wl.cell? ⟨g,1,none⟩=some (.slice Mk lz Mj)/\wl.cell? ⟨gO,4,none⟩=some (.slice a4 n4 e4)) A1 Bq (fun Aa=>?_);generalize wE.drew=wS at *;clear st9 oB9;refine M933 ?_;intro Uc;refine da 9 fun K hK=>?_;go_simp
    (with_reducible refine Uc.mono ?_)
    rintro e wT ⟨vc,rfl,Ko,Ec⟩;obtain⟨ax,cx,rfl,_⟩:=aH Ko.own;have Lu:wT.cell? ⟨g,0,none⟩=some (.slice ma rs.length mc)/\wT.cell? ⟨g,1,none⟩=some (.slice Mk lz Mj)/\wT.cell? ⟨gO,4,none⟩=some (.slice a4 n4 e4):=⟨aB Bq.1 Ec,aB Bq.2.1 Ec,aB Bq.2.2 Ec⟩
    go_wp2_with fail;refine hK.out _ _ (Lu) (fun Aa=>?_);clear hK K;refine M968 ?_;intro xC bC hSC Gt oBU pcU hcS hiS;simp only[List.toArray]at xC;refine da 11 fun K hK=>?_;go_simp;refine hK.out _ _ (hSC) (fun Aa=>?_);clear hK K;try simp only[nrm]
    clear Uc Ec bC Ko Dm Dn Bq Lu;generalize wT.alloc (.cells #[.int .i64 (nw:Int),.int .i64 (lz:Int),.int .i64 (n2:Int),.slice ax n4 cx] 32 (0,0))=wU at *;generalize wT.heap.size=gC at *;have Qt:rs.length<=1000:=by
     exact QA80
    refine da 12 fun K hK=>?_;rw[if_pos A1];refine lI _ _ rfl w.heap.size _ rs.length rs rfl Gt.im.mrow.own gC (.slice ax n4 cx) ⟨(nw:Int),(lz:Int),(n2:Int),o.code⟩ rfl xC rfl Qt Gt.z.y.size ?_;intro Xd wV Hu Hy;have m9:=Gt.im.mblk Hy Gt.m A6;have o9:=Gt.im.mblk Hy oBU A6;have k9:=m9.k 0;have f9:=m9.free 0;obtain⟨ma3,mk3,rfl,_⟩:=aH Hu;refine M917 ?_;intro Ud HFI;refine hK.out _ _ (⟨k9,m9.k 1,o9.k 4⟩) (fun Aa=>?_);clear hK K;try simp only[nrm]
    refine la 13 ?_;try simp only[nrm]
    refine ea fun K hK=>?_;go_simp;refine hK.out _ _ ?_;clear hK K Aa Gt oBU pcU xC hSC m9 o9 k9 f9 Hu Hy Ud;go_wp2;go_roundw
    case rel=>exact⟨j+1,by omega,by go_num,⟨none,0,0,by simp,hRJ.out,zB0 _,fun _=>rfl,.inl rfl,HWF⟩,HFI⟩
    case measure=>simp[intOf];omega
   .
    have Cr:=HW2.out o' rfl;by_cases hc:cj=n2
    .
     have hrj0:rj-n2=0:=A0;have HWF:Hid (WAt w (some ⟨ge,o',none⟩) ((aU l n).drop (aU l (j+1)).length)):=by intro hp;rw[hDL.out]at hp;omega
     clear Cr;go_upto_region 9 with fail;refine M927 ?_;intro Dm Dn Bq;refine rl 14 (S:=fun wl=>wl.cell? ⟨g,0,none⟩=some (.slice ma rs.length mc)/\wl.cell? ⟨g,1,none⟩=some (.slice Mk lz Mj)/\wl.cell? ⟨gO,4,none⟩=some (.slice a4 n4 e4)) A1 Bq (fun Aa=>?_);generalize wE.drew=wS at *;clear st9 oB9;refine M933 ?_;intro Uc;refine da 9 fun K hK=>?_;go_simp
     (with_reducible refine Uc.mono ?_)
     rintro e wT ⟨vc,rfl,Ko,Ec⟩;obtain⟨ax,cx,rfl,_⟩:=aH Ko.own;have Lu:wT.cell? ⟨g,0,none⟩=some (.slice ma rs.length mc)/\wT.cell? ⟨g,1,none⟩=some (.slice Mk lz Mj)/\wT.cell? ⟨gO,4,none⟩=some (.slice a4 n4 e4):=⟨aB Bq.1 Ec,aB Bq.2.1 Ec,aB Bq.2.2 Ec⟩
     go_wp2_with fail;refine hK.out _ _ (Lu) (fun Aa=>?_);clear hK K;refine M968 ?_;intro xC bC hSC Gt oBU pcU hcS hiS;simp only[List.toArray]at xC;refine da 11 fun K hK=>?_;go_simp;refine hK.out _ _ (hSC) (fun Aa=>?_);clear hK K;try simp only[nrm]
     clear Uc Ec bC Ko Dm Dn Bq Lu;generalize wT.alloc (.cells #[.int .i64 (nw:Int),.int .i64 (lz:Int),.int .i64 (n2:Int),.slice ax n4 cx] 32 (0,0))=wU at *;generalize wT.heap.size=gC at *;have Qt:rs.length<=1000:=by
      exact QA80
     refine da 12 fun K hK=>?_;rw[if_pos A1];refine lI _ _ rfl w.heap.size _ rs.length rs rfl Gt.im.mrow.own gC (.slice ax n4 cx) ⟨(nw:Int),(lz:Int),(n2:Int),o.code⟩ rfl xC rfl Qt Gt.z.y.size ?_;intro Xd wV Hu Hy;have m9:=Gt.im.mblk Hy Gt.m A6;have o9:=Gt.im.mblk Hy oBU A6;have k9:=m9.k 0;have f9:=m9.free 0;obtain⟨ma3,mk3,rfl,_⟩:=aH Hu;refine M917 ?_;intro Ud HFI;refine hK.out _ _ (⟨k9,m9.k 1,o9.k 4⟩) (fun Aa=>?_);clear hK K;try simp only[nrm]
     refine la 13 ?_;try simp only[nrm]
     refine ea fun K hK=>?_;go_simp;refine hK.out _ _ ?_;clear hK K Aa Gt oBU pcU xC hSC m9 o9 k9 f9 Hu Hy Ud;go_wp2;go_roundw
     case rel=>exact⟨j+1,by omega,by go_num,⟨some ⟨ge,o',none⟩,rj-n2,cj-n2,by simp[hc,hrj0],hRJ.out,by omega,by simp,.inr ⟨_,rfl⟩,HWF⟩,HFI⟩
     case measure=>simp[intOf];omega
    .
     have HWF:Hid (WAt w (some ⟨ge,o'+n2*7,none⟩) ((aU l n).drop (aU l (j+1)).length)):=Cr;clear Cr;go_upto_region 9 with fail;refine M927 ?_;intro Dm Dn Bq;refine rl 14 (S:=fun wl=>wl.cell? ⟨g,0,none⟩=some (.slice ma rs.length mc)/\wl.cell? ⟨g,1,none⟩=some (.slice Mk lz Mj)/\wl.cell? ⟨gO,4,none⟩=some (.slice a4 n4 e4)) A1 Bq (fun Aa=>?_);generalize wE.drew=wS at *;clear st9 oB9;refine M933 ?_;intro Uc;refine da 9 fun K hK=>?_;go_simp
     (with_reducible refine Uc.mono ?_)
     rintro e wT ⟨vc,rfl,Ko,Ec⟩;obtain⟨ax,cx,rfl,_⟩:=aH Ko.own;have Lu:wT.cell? ⟨g,0,none⟩=some (.slice ma rs.length mc)/\wT.cell? ⟨g,1,none⟩=some (.slice Mk lz Mj)/\wT.cell? ⟨gO,4,none⟩=some (.slice a4 n4 e4):=⟨aB Bq.1 Ec,aB Bq.2.1 Ec,aB Bq.2.2 Ec⟩
     go_wp2_with fail;refine hK.out _ _ (Lu) (fun Aa=>?_);clear hK K;refine M968 ?_;intro xC bC hSC Gt oBU pcU hcS hiS;simp only[List.toArray]at xC;refine da 11 fun K hK=>?_;go_simp;refine hK.out _ _ (hSC) (fun Aa=>?_);clear hK K;try simp only[nrm]
     clear Uc Ec bC Ko Dm Dn Bq Lu;generalize wT.alloc (.cells #[.int .i64 (nw:Int),.int .i64 (lz:Int),.int .i64 (n2:Int),.slice ax n4 cx] 32 (0,0))=wU at *;generalize wT.heap.size=gC at *;have Qt:rs.length<=1000:=by
      exact QA80
     refine da 12 fun K hK=>?_;rw[if_pos A1];refine lI _ _ rfl w.heap.size _ rs.length rs rfl Gt.im.mrow.own gC (.slice ax n4 cx) ⟨(nw:Int),(lz:Int),(n2:Int),o.code⟩ rfl xC rfl Qt Gt.z.y.size ?_;intro Xd wV Hu Hy;have m9:=Gt.im.mblk Hy Gt.m A6;have o9:=Gt.im.mblk Hy oBU A6;have k9:=m9.k 0;have f9:=m9.free 0;obtain⟨ma3,mk3,rfl,_⟩:=aH Hu;refine M917 ?_;intro Ud HFI;refine hK.out _ _ (⟨k9,m9.k 1,o9.k 4⟩) (fun Aa=>?_);clear hK K;try simp only[nrm]
     refine la 13 ?_;try simp only[nrm]
     refine ea fun K hK=>?_;go_simp;refine hK.out _ _ ?_;clear hK K Aa Gt oBU pcU xC hSC m9 o9 k9 f9 Hu Hy Ud;go_wp2;go_roundw
     case rel=>exact⟨j+1,by omega,by go_num,⟨some ⟨ge,o'+n2*7,none⟩,rj-n2,cj-n2,by simp[hc],hRJ.out,by omega,by simp,.inr ⟨_,rfl⟩,HWF⟩,HFI⟩
     case measure=>simp[intOf];omega
  .
   have:n=j:=A0;subst this;have HF:Hid ((rs.map fun x=>x.2)=eD l n):=st.rs;obtain⟨mm0,mm1,mm2⟩:=st.m.c3;obtain⟨z0,z1,z2⟩:=st.z.z.c3;have f0:=st.z.z.free 0;have f1:=st.z.z.free 1;have f2:=st.z.z.free 2;generalize (aM l n).length=lz at *;have D:Blk (((wr.setCell ⟨w.heap.size,0,none⟩ (.slice ma rs.length mc)).setCell ⟨w.heap.size,1,none⟩ (.slice wa lz wk)).setCell ⟨w.heap.size,2,none⟩ (.int .i64 s)) w.heap.size 28 [.slice ma rs.length mc,.slice wa lz wk,.int .i64 s]:=Blk.put3 st.z.z;have i2:=st.im.put (i:=0) (v:=.slice ma rs.length mc) st.z.z A6 A6 (.inl A6);have y2:=st.z.z.set (i:=0) (.slice ma rs.length mc);have i3:=i2.put (i:=1) (v:=.slice wa lz wk) y2 A6 A6 (.inl A6);have y3:=y2.set (i:=1) (.slice wa lz wk);have i4:=i3.put (i:=2) (v:=.int .i64 s) y3 A6 A6 (.inl A6);have Bg:(((wr.setCell ⟨w.heap.size,0,none⟩ (.slice ma rs.length mc)).setCell ⟨w.heap.size,1,none⟩ (.slice wa lz wk)).setCell ⟨w.heap.size,2,none⟩ (.int .i64 s)).heap.size=wr.heap.size:=by simp
   have HI:Hid (Im (((wr.setCell ⟨w.heap.size,0,none⟩ (.slice ma rs.length mc)).setCell ⟨w.heap.size,1,none⟩ (.slice wa lz wk)).setCell ⟨w.heap.size,2,none⟩ (.int .i64 s)) w.heap.size wr.heap.size wr.heap.size (.slice ma rs.length mc) (.slice wa lz wk) rs (aM l n)):=i4.wide (zB0 _) st.hi.2 st.h2;have HYF:Hid (Below w.heap.size w (((wr.setCell ⟨w.heap.size,0,none⟩ (.slice ma rs.length mc)).setCell ⟨w.heap.size,1,none⟩ (.slice wa lz wk)).setCell ⟨w.heap.size,2,none⟩ (.int .i64 s))):=nJ st.z.y (zB0 _);have HSZ:Hid _:=Bg;obtain⟨x0,x1,x2⟩:=D.c3;clear D i2 i3 i4 y2 y3 st Bg;go_wp2_with fail;refine zI1 (v:=.agg #[.slice ma rs.length mc,.slice wa lz wk,.int .i64 s]) (by simp only[results,Tryz.results20];simp[go_sem,x0,x1,x2]) rfl ⟨_,_,rs,rfl,HF.out,by rw[HSZ.out];exact HI.out,HYF.out⟩
end Go.Proofs.YtcbhdhmhidpdgaaGreat

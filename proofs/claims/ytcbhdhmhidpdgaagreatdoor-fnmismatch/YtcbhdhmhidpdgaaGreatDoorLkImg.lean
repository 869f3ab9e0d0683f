import Derived.Test.YtcbhdhmhidpdgaaGreatDoorPackS
namespace Go.Proofs.YtcbhdhmhidpdgaaGreatDoor
set_option maxHeartbeats 8000000
open Go.RowKit
set_option linter.unusedVariables false
set_option linter.unusedSimpArgs false
set_option maxRecDepth 100000
theorem QA81{p:Prop}(h:p:=by
 have h9:=congrArg List.length Gq.rs
 rw[zB2,rQ]at h9
 omega):p:=h
theorem M967{p q:Prop}(k:q)(h:Kx q->p:=by
 intro kQz
 try simp only[nrm]
 refine la 10 ?_
 try simp only[nrm]
 have xC:=Blk.new wT 110 [.int .i64 (nw:Int),.int .i64 (lz:Int),.int .i64 (n2:Int),.slice ax n4 cx]
 have bC:Below wT.heap.size wT (wT.alloc (.cells #[.int .i64 (nw:Int),.int .i64 (lz:Int),.int .i64 (n2:Int),.slice ax n4 cx] 110 (0,0))):=(zD2 _ _).alloc (zB0 _) _
 have hSC:(wT.alloc (.cells #[.int .i64 (nw:Int),.int .i64 (lz:Int),.int .i64 (n2:Int),.slice ax n4 cx] 110 (0,0))).cell? ⟨g,0,none⟩=some (.slice ma rs.length mc)/\(wT.alloc (.cells #[.int .i64 (nw:Int),.int .i64 (lz:Int),.int .i64 (n2:Int),.slice ax n4 cx] 110 (0,0))).cell? ⟨g,1,none⟩=some (.slice Mb lz Ma)/\(wT.alloc (.cells #[.int .i64 (nw:Int),.int .i64 (lz:Int),.int .i64 (n2:Int),.slice ax n4 cx] 110 (0,0))).cell? ⟨gO,4,none⟩=some (.slice a4 n4 e4):=⟨aB Lh.1 bC,aB Lh.2.1 bC,aB Lh.2.2 bC⟩
 have Gq:=(Dj.step Ec).step bC
 have oBU:=(Dk.below Ec Dk.lt).below bC (Dk.below Ec Dk.lt).lt
 have pcU:=(Me.stays (w':=wT.alloc (.cells #[.int .i64 (nw:Int),.int .i64 (lz:Int),.int .i64 (n2:Int),.slice ax n4 cx] 110 (0,0))) (fun g _ q _=>bC.block g q)).wide (zB0 _) bC.size
 have hcS:=zF2 Ec.size bC.size
 have hiS:=Dj.hi.2
 revert hiS;revert hcS;revert pcU;revert oBU;revert Gq;revert hSC;revert bC;revert xC
 exact kQz.o):p:=h ⟨k⟩
theorem M910{p q:Prop}(k:q)(h:Kx q->p:=by
 intro kQz
 refine ta 0 ?_
 refine ta 1 ?_
 refine ta 2 ?_
 try simp only[nrm]
 refine ta 3 ?_
 refine ta 4 ?_
 refine ta 5 ?_
 try simp only[nrm]
 exact kQz.o):p:=h ⟨k⟩
theorem M918{p q:Prop}(k:q)(h:Kx q->p:=by
 intro kQz
 have Tr:=Gq.mods hiS (show Pc wU 5 1 wS.heap.size wU.heap.size (.slice ax n4 cx) (Rg.code ⟨(nw:Int),(lz:Int),(n2:Int),o.code⟩).length (bVL (Rg.code ⟨(nw:Int),(lz:Int),(n2:Int),o.code⟩)) by show Pc _ _ _ _ _ _ o.code.length (bVL o.code);rw[HN4.out];exact pcU) Jd.out.2.1 hcS Hp Hu
 rw[<-oV HO.out HNW.out HLW2.out Nr.out]at Tr
 have HFI:Hid (∃hi h2 mv wv Wb,S3s s l w g hi h2 (wV.setCell ⟨g,0,none⟩ (.slice ma3 (rs.length+1) mk3)) mv wv Wb (fY l (j+1)) (bU l (j+1))):=⟨_,_,_,_,_,Tr⟩
 revert HFI;revert Tr
 exact kQz.o):p:=h ⟨k⟩
theorem M928{p q:Prop}(k:q)(h:Kx q->p:=by
 intro kQz
 have Dj:=st9.step (w':=wE.drew) (zD2 _ _).drew
 have Dk:Blk wE.drew gO 39 [.slice a0 n0 e0,.slice a1 n1 e1,.slice a2 n2 e2,.int .i64 (nd:Int),.slice a4 n4 e4]:=oB9
 have Br:wE.drew.cell? ⟨g,0,none⟩=some (.slice ma rs.length mc)/\wE.drew.cell? ⟨g,1,none⟩=some (.slice Mb lz Ma)/\wE.drew.cell? ⟨gO,4,none⟩=some (.slice a4 n4 e4):=⟨Dj.m.k 0,Dj.m.k 1,Dk.k 4⟩
 revert Br;revert Dk;revert Dj
 exact kQz.o):p:=h ⟨k⟩
theorem M933{p q:Prop}(k:q)(h:Kx q->p:=by
 intro kQz
 refine la 0 ?_
 refine la 1 ?_
 refine la 2 ?_
 try simp only[nrm]
 refine la 3 ?_
 refine la 4 ?_
 refine la 5 ?_
 try simp only[nrm]
 refine la 6 ?_
 refine la 7 ?_
 refine la 8 ?_
 try simp only[nrm]
 try simp only[nrm]
 have Tq:=xS a4 n4 e4 o.code wS (aV.below Jd.out Dj.z.y) hz4 A0
 revert Tq
 exact kQz.o):p:=h ⟨k⟩
variable{us vs:List Wo}{w:World}
theorem xS (a:Option Addr)(n c:Nat)(l:List Int)(w:World)(h:aV w a n l)(hz:a=none->c=0)(hn:n<=1048576):
  Calls Tryz.prog 44 #[.slice a n c] w fun e w'=>∃v,e=.returned v/\Pc w' 5 1 w.heap.size w'.heap.size v n (bVL l)/\Below w.heap.size w w':=by
 cases a with
 | none=>
  obtain rfl:=hz rfl;have h0:n=0:=by
   exact QA121
  subst h0;obtain rfl:l=[]:=zE0 h.1;have hq:∀w,(binOp .eql 22 (.slice none 0 0) (.slice none 0 0)).run Tryz.prog w=.ok (.bool true) w:=fun w=>by kernel_rfl
  have HF:Hid (Pc w 5 1 w.heap.size w.heap.size (.slice none 0 0) 0 (bVL [])):=⟨World.ownsRow_nil _ _ _ _,fun k hk=>by cases hk⟩
  clear h hz;go_enter Tryz.func44,Tryz.ntmps44;go_wp2;go_ret;exact⟨_,rfl,HF.out,zD2 _ _⟩
 | some x=>
  have hq:∀w,(binOp .eql 22 (.slice (some x) n c) (.slice none 0 0)).run Tryz.prog w=.ok (.bool false) w:=fun w=>by kernel_rfl
  have hE:=lP w;have hB:=gV w;have hR:=h.below hB;clear h;go_enter Tryz.func44,Tryz.ntmps44;go_wp2_with (at_builtin;refine cC rfl _ _ rfl w.heap.size _ 0 [] rfl hE _ n c l rfl hR hz A0 A8 ?_);intro v3 w3 Mu Bm;have HF:Hid (Pc w3 5 1 w.heap.size w3.heap.size v3 n (bVL l)/\Below w.heap.size w w3):=by
   exact⟨⟨Mu.1,fun k hk=>(Mu.1.lt k hk).2⟩,hB.grown Bm hB.size (fun k hk=>(hE.1.lt k hk).1)⟩
  clear Mu Bm hE hB hR;go_wp2;go_ret;exact⟨_,rfl,HF.out⟩
theorem aCb (l:List Oj){j n:Nat}(h:j<n):∃rest,aT l n=aT l j++(fM l j++rest):=by
 induction n with
 | zero=>omega| succ n ih=>
  by_cases e:j=n
  .
   subst e;exact⟨[],by simp[aT]⟩
  .
   obtain⟨rest,hr⟩:=ih A0;exact⟨rest++fM l n,by rw[show aT l (n+1)=aT l n++fM l n from rfl,hr];simp⟩
theorem WAt.take{a:Option Addr}(h:WAt w a (us++vs)):WAt w a us:=fun hp=>by
 obtain⟨b,off,e,hc⟩:=h (by rw[zA1];omega);refine⟨b,off,e,fun i v hv=>hc i v ?_⟩;rw[iK,List.getElem?_append_left (zC1.1 hv).1];exact hv
theorem WAt.drop{b off:Nat}(h:WAt w (some ⟨b,off,none⟩) (us++vs)):WAt w (some ⟨b,off+us.length*7,none⟩) vs:=fun hp=>by
 obtain⟨b',Kw,e,hc⟩:=h (by rw[zA1];omega);simp only[zG2,Addr.mk.injEq,and_true]at e;obtain⟨rfl,rfl⟩:=e;refine⟨b,_,rfl,fun i v hv=>?_⟩;have:=hc (us.length*7+i) v (by rw[iK,List.getElem?_append_right (by rw[gN];omega),gN,Nat.add_sub_cancel_left];exact hv);rw[Nat.add_assoc];exact this
theorem aHq (l:List Oj)(a:Option Addr)(n c:Nat)(av:Option Addr)(ne cv:Nat)(s:Int)(w:World)(hL:aW w a c 5 (l.map Oj.fl))(hn:l.length=n)(hn8:n<=8)(hf:∀o ∈ l,cU o.ob=true)(Ae:(aT l n).length=ne)(hA:WAt w av (aT l n))(hcv:ne<=cv)(hav:av=none->cv=0)(ge:Nat)(Yb:av=none\/∃o,av=some ⟨ge,o,none⟩):
  Calls Tryz.prog 20 #[.slice a n c,.slice av ne cv,.int .i64 s] w fun e w'=>∃mv wv rs,e=.returned (.agg #[mv,wv,.int .i64 s])/\(rs.map fun x=>x.2)=fY l n/\Im w' w.heap.size w'.heap.size w'.heap.size mv wv rs (bU l n)/\Below w.heap.size w w':=by
 have HL:Hid (aW w a c 5 (l.map Oj.fl)):=hL;have HN:Hid (l.length=n):=hn;have Py:Hid (∀o ∈ l,cU o.ob=true):=hf;have Qr:=hL.cap;have Df:=hL.len9;rw[zB2,hn]at Qr Df;have s0:=S0.start w;clear hL hn hf;obtain⟨i0,Td,Dd,Db,Cz⟩:=info_parts zU;go_enter Tryz.func20,Tryz.ntmps20;go_upto_region 1 with fail;generalize w.alloc (.cells #[.slice none 0 0,.slice none 0 0,.int .i64 0] 28 (0,0))=w2 at *;go_wp2_with (at_make;refine wpList_make_full _ rfl _ _ 26 rfl w2.heap.size 100 i0 _ 7 Tryz.underlying26 Td Dd Db _ _ _ _ 600 rfl rfl rfl rfl A86 A11 (zB0 _) ?_);intro w3 Aj Dw;obtain⟨z3,im3⟩:=S3.start (l:=l) s0 Aj Dw (.slice none 0 0);have b4:Below w3.heap.size w3 (w3.alloc (.cells #[.slice none 0 0,.slice (some ⟨w2.heap.size,0,none⟩) 600 600,.int .i64 s] 28 (0,0))):=(zD2 _ _).alloc (zB0 _) _;have Cn:Hid (∃hi h2 mv wv rs,S3s s l w w3.heap.size hi h2 (w3.alloc (.cells #[.slice none 0 0,.slice (some ⟨w2.heap.size,0,none⟩) 600 600,.int .i64 s] 28 (0,0))) mv wv rs (fY l 0) (bU l 0)):=
  ⟨_,_,_,_,[],z3.step b4,Blk.new w3 28 [.slice none 0 0,.slice (some ⟨w2.heap.size,0,none⟩) 600 600,.int .i64 s],im3.below b4,rfl,z3.z.lt,⟨z3.y.size,b4.size⟩,b4.size⟩
 clear z3 im3 b4 Aj Dw s0 Td Dd Db Cz;have HA0:Hid (WAt w av ((aT l n).drop (aT l 0).length)):=hA;clear hA;go_upto_region 2 with fail;generalize w3.alloc (.cells #[.slice none 0 0,.slice (some ⟨w2.heap.size,0,none⟩) 600 600,.int .i64 s] 28 (0,0))=w4 at *;generalize w3.heap.size=g at *;go_wp2_with fail;go_loopw [1,9,10,11,17] (fun t1 _ _ _ i wr=>∃j:Nat,j<=n/\i=.int .i64 j/\(∃aj rj cj,t1=.slice aj rj cj/\rj+(aT l j).length=ne/\rj<=cj/\(aj=none->cj=0)/\(aj=none\/∃o,aj=some ⟨ge,o,none⟩)/\Hid (WAt w aj ((aT l n).drop (aT l j).length)))/\Hid (∃hi h2 mv wv rs,S3s s l w g hi h2 wr mv wv rs (fY l j) (bU l j))) (fun _ _ _ _ i _=>n-(intOf i).toNat)
 case atStart=>exact⟨0,zD1 _,rfl,⟨av,ne,cv,rfl,rfl,hcv,hav,Yb,HA0⟩,Cn⟩
 case round=>
  obtain⟨j,hj,rfl,⟨aj,rj,cj,rfl,Ia,hrc,hajn,haj,hWA⟩,hst⟩:=hrel;obtain⟨hi,h2,mv,wv,rs,st⟩:=hst.out;clear Cn hst HA0;obtain⟨ma,mc,wa,wk,rfl,rfl⟩:=st.cells;by_cases Ad:j<n
  .
   obtain⟨b,off,rfl⟩:=aW.addr HL.out A59;obtain⟨o,v0,v1,v2,v3,v4,ho,hv,c0,c1,c2,c3,c4⟩:=lQ HL.out HN.out j Ad;have b0:=aB c0 st.z.y;have b1:=aB c1 st.z.y;have b2:=aB c2 st.z.y;have b3:=aB c3 st.z.y;have b4:=aB c4 st.z.y;obtain⟨a0,e0,a1,e1,a2,e2,a4,e4,rfl,rfl,rfl,rfl,rfl,_,_,_,hB4,hz4⟩:=kJ hv;have HO:Hid (l[j]?=some o):=ho;obtain⟨p1,p2,p3,p4,p5,_,_⟩:=dE (Py.out o (zA3 ho));have Gs:(j:Int)<(n:Int):=A0;obtain⟨n2,hn2⟩:=zx (o.im.length);obtain⟨n4,hn4⟩:=zx (o.code.length);have Nr:Hid (o.im.length=n2):=hn2.symm;have HN4:Hid (o.code.length=n4):=hn4.symm;obtain⟨nd,hnd⟩:∃nd:Nat,o.data=(nd:Int):=⟨o.data.toNat,by omega⟩
   have HDA:Hid (qX l j=List.replicate nd dC):=aMs ho hnd;rw[hnd]at p3 p4 b3;rw[<-hn2]at b2 p2;rw[<-hn4]at b4 p5 hB4;have Jd:Hid (aV w a4 n4 o.code):=hB4;have hEL:Hid ((fM l j).length=n2):=by show _=_;unfold fM;rw[cA ho,zB2,Nr.out]
   obtain⟨rest,Je⟩:=aCb l Ad;have hn2r:n2<=rj:=by
    have h1:=congrArg List.length Je;rw[zA1,zA1,hEL.out,Ae]at h1;omega
   have HW1:Hid (WAt w aj (fM l j)):=by
    have:=hWA.out;rw[Je,List.drop_left]at this;exact this.take
   have HW2:Hid (∀o',aj=some ⟨ge,o',none⟩->WAt w (some ⟨ge,o'+n2*7,none⟩) ((aT l n).drop (aT l (j+1)).length)):=by
    intro o' ho';have h1:=hWA.out;rw[Je,List.drop_left,ho']at h1;have h2:=h1.drop;rw[hEL.out]at h2;have e:(aT l n).drop (aT l (j+1)).length=rest:=by
     rw[Je,show aT l (j+1)=aT l j++fM l j from rfl,<-zD0,List.drop_left]
    rw[e];exact h2
   have HR9:Hid ((aT l (j+1)).length=(aT l j).length+n2):=by
    show _=_
    rw[show aT l (j+1)=aT l j++fM l j from rfl,zA1,hEL.out]
   have hHrest:Hid (∃rest,aT l n=aT l j++(fM l j++rest)):=⟨rest,Je⟩
   clear Je hWA;generalize o.name.length=n0 at *;generalize o.ex.length=n1 at *;have bO:Below wr.heap.size wr (wr.alloc (.cells #[.slice a0 n0 e0,.slice a1 n1 e1,.slice a2 n2 e2,.int .i64 (nd:Int),.slice a4 n4 e4] 39 (0,0))):=(zD2 _ _).alloc (zB0 _) _;have oB:=Blk.new wr 39 [.slice a0 n0 e0,.slice a1 n1 e1,.slice a2 n2 e2,.int .i64 (nd:Int),.slice a4 n4 e4];have st5:=st.step bO;have hgO:w.heap.size<wr.heap.size:=st.z.z.lt;simp only[List.toArray]at oB;clear c0 c1 c2 c3 c4 ho hv hB4 hn2 hn4 st bO hnd;go_upto_region 5 with fail;generalize wr.alloc (.cells #[.slice a0 n0 e0,.slice a1 n1 e1,.slice a2 n2 e2,.int .i64 (nd:Int),.slice a4 n4 e4] 39 (0,0))=w5 at *;generalize wr.heap.size=gO at *;clear b0 b1 b2 b3 b4;obtain⟨nw,hnw⟩:=zx ((bU l j).length);have HNW:Hid ((bU l j).length=nw):=hnw.symm;have hnwb:nw<=2264:=by rw[hnw];have:=vN l (fun o ho=>by have:=dE (Py.out o ho);omega) j (by rw[HN.out];omega);omega
   have hnwp:600<=nw:=by rw[hnw];exact aFu l j
   rw[<-hnw]at st5;clear hnw;have Br:w5.drew.cell? ⟨g,1,none⟩=some (.slice wa nw wk)/\w5.drew.cell? ⟨gO,2,none⟩=some (.slice a2 n2 e2):=⟨st5.m.k 1,oB.k 2⟩
   refine zJ3 (S:=fun wl=>wl.cell? ⟨g,1,none⟩=some (.slice wa nw wk)/\wl.cell? ⟨gO,2,none⟩=some (.slice a2 n2 e2)) A1 Br (fun Aa=>?_);refine M910 ?_;refine ta 6 ?_;refine ta 7 ?_;try simp only[nrm]
   refine zK0 A1 ?_ _;have st6:=st5.step (w':=w5.drew) (zD2 _ _).drew;have oB6:Blk w5.drew gO 39 [.slice a0 n0 e0,.slice a1 n1 e1,.slice a2 n2 e2,.int .i64 (nd:Int),.slice a4 n4 e4]:=oB;clear Br Aa st5 oB;generalize w5.drew=w6 at *;go_upto_region 6 with fail;have z0:(0:Int)<=(n2:Int):=A0;have z1:(n2:Int)<=(cj:Int):=A0;have z2:(n2:Int)<=(rj:Int):=A0;have Xd:=st6.step (w':=w6.drew) (zD2 _ _).drew;have oB7:Blk w6.drew gO 39 [.slice a0 n0 e0,.slice a1 n1 e1,.slice a2 n2 e2,.int .i64 (nd:Int),.slice a4 n4 e4]:=oB6;have Br:w6.drew.cell? ⟨g,1,none⟩=some (.slice wa nw wk):=Xd.m.k 1;refine rl 7 (S:=fun wl=>wl.cell? ⟨g,1,none⟩=some (.slice wa nw wk)) A1 Br (fun Aa=>?_);generalize w6.drew=wS at *;clear st6 oB6;have HOW:Hid (wS.ownsRow w.heap.size 100 7 (.slice wa nw wk) nw (cO (bU l j))):=by
    have:=Xd.im.wrow.own;rw[HNW.out]at this;exact this
   have HWS:Hid (WAt wS aj (fM l j)):=WAt.below HW1.out Xd.z.y;have HYA:Hid (w.heap.size<=wS.heap.size):=Xd.z.y.size;refine la 0 ?_;refine la 1 ?_;refine la 2 ?_;try simp only[nrm]
   refine la 3 ?_;refine la 4 ?_;try simp only[nrm]
   refine da 5 fun K hK=>?_;rw[if_pos A1];refine vM _ _ rfl w.heap.size _ nw _ rfl HOW.out aj n2 cj (fM l j) rfl hEL.out HWS.out hajn A0 HYA.out ?_;intro Ml w9 Hp Hu;have m9:=Xd.im.wblk Hu Xd.m A6;have o9:=Xd.im.wblk Hu oB7 A6;have k9:=m9.k 1;have f9:=m9.free 1;obtain⟨wa3,wk3,rfl,_⟩:=aH Hp;generalize hlw':nw+n2=lw at Hp ⊢;have hlw:lw=nw+n2:=hlw'.symm;clear hlw';have st8:=Xd.words (us:=fM l j) hEL.out (by rw[HNW.out,<-hlw];exact Hp) Hu;have HLW:Hid ((bU l j++fM l j).length=lw):=by show _=_;rw[zA1,HNW.out,hEL.out,hlw]
   have hlwb:lw<=2272:=A0;have hlwp:0<lw:=A0;clear hlw;have oB8:Blk (w9.setCell ⟨g,1,none⟩ (.slice wa3 lw wk3)) gO 39 [.slice a0 n0 e0,.slice a1 n1 e1,.slice a2 n2 e2,.int .i64 (nd:Int),.slice a4 n4 e4]:=o9.other (fun e=>by subst e;exact absurd (lN o9 m9) A6);refine hK.out _ _ (k9) (fun Aa=>?_);clear hK K;try simp only[nrm]
   refine la 6 ?_;try simp only[nrm]
   refine ea fun K hK=>?_;go_simp;refine hK.out _ _ ?_;clear hK K Aa Br Xd oB7 HOW HWS HYA m9 o9 k9 f9 Hp Hu;generalize w9.setCell ⟨g,1,none⟩ (.slice wa3 lw wk3)=wA at *;generalize w9.heap.size=h3 at *;go_upto_region 7 with fail;have Od:=st8.im.wrow.own;rw[HLW.out]at Od;obtain⟨_,_,e9,_,_,_,Xt⟩:=aH Od;obtain⟨gw,Bq⟩:=Xt hlwp;simp only[Value.slice.injEq]at e9;obtain⟨rfl,_,rfl⟩:=e9;subst Bq;have HOW:Hid _:=Od;have HYA:Hid (w.heap.size<=wA.heap.size):=st8.z.y.size;have mc1:=st8.m.k 1;have oc3:=oB8.k 3;clear Od Xt;go_wp2_with (at_builtin;refine pW rfl _ _ rfl w.heap.size gw lw wk3 _ rfl HOW.out nd rfl A0 HYA.out ?_);intro Ml wD Hp Hu;have m9:=st8.im.wblk Hu st8.m A6;have o9:=st8.im.wblk Hu oB8 A6;have k9:=m9.k 1;have f9:=m9.free 1;obtain⟨Mb,Ma,rfl,_⟩:=aH Hp;obtain⟨lz,Ug⟩:=zx (lw+nd);rw[<-Ug]at Hp ⊢;have st1:=st8.words (us:=List.replicate nd dC) (List.length_replicate ..) (by rw[HLW.out,<-Ug];exact Hp) Hu;rw[zD0,<-HDA.out]at st1;have st9:S3s s l w g hi wD.heap.size (wD.setCell ⟨g,1,none⟩ (.slice Mb lz Ma)) (.slice ma rs.length mc) (.slice Mb lz Ma) rs (fY l j) (bU l (j+1)):=st1;have HLW2:Hid ((bU l (j+1)).length=lz):=by
    show(bU l j++(fM l j++qX l j)).length=_
    rw[<-zD0,zA1,HLW.out,HDA.out,List.length_replicate,Ug]
   have oB9:Blk (wD.setCell ⟨g,1,none⟩ (.slice Mb lz Ma)) gO 39 [.slice a0 n0 e0,.slice a1 n1 e1,.slice a2 n2 e2,.int .i64 (nd:Int),.slice a4 n4 e4]:=o9.other (fun e=>by subst e;exact absurd (lN o9 m9) A6);clear st8 st1 m9 o9 Hp Hu HOW HYA mc1 oc3 HDA HLW Ug oB8;go_upto_region 8 with fail;clear k9 f9;generalize wD.setCell ⟨g,1,none⟩ (.slice Mb lz Ma)=wE at *;generalize wD.heap.size=h4 at *;have hRJ:Hid ((rj-n2)+(aT l (j+1)).length=ne):=by show _=_;rw[HR9.out];omega
   have hDL:Hid (((aT l n).drop (aT l (j+1)).length).length=rj-n2):=by show _=_;rw[List.length_drop,Ae,HR9.out];omega
   rcases haj with rfl|⟨o',rfl⟩
   .
    have hcj:cj=0:=hajn rfl;subst hcj;have hrj0:rj-n2=0:=A0;have HWF:Hid (WAt w none ((aT l n).drop (aT l (j+1)).length)):=by intro hp;rw[hDL.out]at hp;omega
    rw[hrj0]at hRJ;go_upto_region 9 with fail;refine M928 ?_;intro Dj Dk Br;refine rl 14 (S:=fun wl=>wl.cell? ⟨g,0,none⟩=some (.slice ma rs.length mc)/\wl.cell? ⟨g,1,none⟩=some (.slice Mb lz Ma)/\wl.cell? ⟨gO,4,none⟩=some (.slice a4 n4 e4)) A1 Br (fun Aa=>?_);generalize wE.drew=wS at *;clear st9 oB9;refine M933 ?_;intro Tq;refine da 9 fun K hK=>?_;go_simp
    (with_reducible refine Tq.mono ?_)
    rintro e wT ⟨vc,rfl,Me,Ec⟩;obtain⟨ax,cx,rfl,_⟩:=aH Me.own;have Lh:wT.cell? ⟨g,0,none⟩=some (.slice ma rs.length mc)/\wT.cell? ⟨g,1,none⟩=some (.slice Mb lz Ma)/\wT.cell? ⟨gO,4,none⟩=some (.slice a4 n4 e4):=⟨aB Br.1 Ec,aB Br.2.1 Ec,aB Br.2.2 Ec⟩
    go_wp2_with fail;refine hK.out _ _ (Lh) (fun Aa=>?_);clear hK K;refine M967 ?_;intro xC bC hSC Gq oBU pcU hcS hiS;simp only[List.toArray]at xC;refine da 11 fun K hK=>?_;go_simp;refine hK.out _ _ (hSC) (fun Aa=>?_);clear hK K;try simp only[nrm]
    clear Tq Ec bC Me Dj Dk Br Lh;generalize wT.alloc (.cells #[.int .i64 (nw:Int),.int .i64 (lz:Int),.int .i64 (n2:Int),.slice ax n4 cx] 110 (0,0))=wU at *;generalize wT.heap.size=gC at *;have Qg:rs.length<=1000:=by
     exact QA81
    refine da 12 fun K hK=>?_;rw[if_pos A1];refine lA _ _ rfl w.heap.size _ rs.length rs rfl Gq.im.mrow.own gC (.slice ax n4 cx) ⟨(nw:Int),(lz:Int),(n2:Int),o.code⟩ rfl xC rfl Qg Gq.z.y.size ?_;intro Wc wV Hp Hu;have m9:=Gq.im.mblk Hu Gq.m A6;have o9:=Gq.im.mblk Hu oBU A6;have k9:=m9.k 0;have f9:=m9.free 0;obtain⟨ma3,mk3,rfl,_⟩:=aH Hp;refine M918 ?_;intro Tr HFI;refine hK.out _ _ (⟨k9,m9.k 1,o9.k 4⟩) (fun Aa=>?_);clear hK K;try simp only[nrm]
    refine la 13 ?_;try simp only[nrm]
    refine ea fun K hK=>?_;go_simp;refine hK.out _ _ ?_;clear hK K Aa Gq oBU pcU xC hSC m9 o9 k9 f9 Hp Hu Tr;go_wp2;go_roundw
    case rel=>exact⟨j+1,by omega,by go_num,⟨none,0,0,by simp,hRJ.out,zB0 _,fun _=>rfl,.inl rfl,HWF⟩,HFI⟩
    case measure=>simp[intOf];omega
   .
    have Xn:=HW2.out o' rfl;by_cases hc:cj=n2
    .
     have hrj0:rj-n2=0:=A0;have HWF:Hid (WAt w (some ⟨ge,o',none⟩) ((aT l n).drop (aT l (j+1)).length)):=by intro hp;rw[hDL.out]at hp;omega
     clear Xn;go_upto_region 9 with fail;refine M928 ?_;intro Dj Dk Br;refine rl 14 (S:=fun wl=>wl.cell? ⟨g,0,none⟩=some (.slice ma rs.length mc)/\wl.cell? ⟨g,1,none⟩=some (.slice Mb lz Ma)/\wl.cell? ⟨gO,4,none⟩=some (.slice a4 n4 e4)) A1 Br (fun Aa=>?_);generalize wE.drew=wS at *;clear st9 oB9;refine M933 ?_;intro Tq;refine da 9 fun K hK=>?_;go_simp
     (with_reducible refine Tq.mono ?_)
     rintro e wT ⟨vc,rfl,Me,Ec⟩;obtain⟨ax,cx,rfl,_⟩:=aH Me.own;have Lh:wT.cell? ⟨g,0,none⟩=some (.slice ma rs.length mc)/\wT.cell? ⟨g,1,none⟩=some (.slice Mb lz Ma)/\wT.cell? ⟨gO,4,none⟩=some (.slice a4 n4 e4):=⟨aB Br.1 Ec,aB Br.2.1 Ec,aB Br.2.2 Ec⟩
     go_wp2_with fail;refine hK.out _ _ (Lh) (fun Aa=>?_);clear hK K;refine M967 ?_;intro xC bC hSC Gq oBU pcU hcS hiS;simp only[List.toArray]at xC;refine da 11 fun K hK=>?_;go_simp;refine hK.out _ _ (hSC) (fun Aa=>?_);clear hK K;try simp only[nrm]
     clear Tq Ec bC Me Dj Dk Br Lh;generalize wT.alloc (.cells #[.int .i64 (nw:Int),.int .i64 (lz:Int),.int .i64 (n2:Int),.slice ax n4 cx] 110 (0,0))=wU at *;generalize wT.heap.size=gC at *;have Qg:rs.length<=1000:=by
      exact QA81
     refine da 12 fun K hK=>?_;rw[if_pos A1];refine lA _ _ rfl w.heap.size _ rs.length rs rfl Gq.im.mrow.own gC (.slice ax n4 cx) ⟨(nw:Int),(lz:Int),(n2:Int),o.code⟩ rfl xC rfl Qg Gq.z.y.size ?_;intro Wc wV Hp Hu;have m9:=Gq.im.mblk Hu Gq.m A6;have o9:=Gq.im.mblk Hu oBU A6;have k9:=m9.k 0;have f9:=m9.free 0;obtain⟨ma3,mk3,rfl,_⟩:=aH Hp;refine M918 ?_;intro Tr HFI;refine hK.out _ _ (⟨k9,m9.k 1,o9.k 4⟩) (fun Aa=>?_);clear hK K;try simp only[nrm]
     refine la 13 ?_;try simp only[nrm]
     refine ea fun K hK=>?_;go_simp;refine hK.out _ _ ?_;clear hK K Aa Gq oBU pcU xC hSC m9 o9 k9 f9 Hp Hu Tr;go_wp2;go_roundw
     case rel=>exact⟨j+1,by omega,by go_num,⟨some ⟨ge,o',none⟩,rj-n2,cj-n2,by simp[hc,hrj0],hRJ.out,by omega,by simp,.inr ⟨_,rfl⟩,HWF⟩,HFI⟩
     case measure=>simp[intOf];omega
    .
     have HWF:Hid (WAt w (some ⟨ge,o'+n2*7,none⟩) ((aT l n).drop (aT l (j+1)).length)):=Xn;clear Xn;go_upto_region 9 with fail;refine M928 ?_;intro Dj Dk Br;refine rl 14 (S:=fun wl=>wl.cell? ⟨g,0,none⟩=some (.slice ma rs.length mc)/\wl.cell? ⟨g,1,none⟩=some (.slice Mb lz Ma)/\wl.cell? ⟨gO,4,none⟩=some (.slice a4 n4 e4)) A1 Br (fun Aa=>?_);generalize wE.drew=wS at *;clear st9 oB9;refine M933 ?_;intro Tq;refine da 9 fun K hK=>?_;go_simp
     (with_reducible refine Tq.mono ?_)
     rintro e wT ⟨vc,rfl,Me,Ec⟩;obtain⟨ax,cx,rfl,_⟩:=aH Me.own;have Lh:wT.cell? ⟨g,0,none⟩=some (.slice ma rs.length mc)/\wT.cell? ⟨g,1,none⟩=some (.slice Mb lz Ma)/\wT.cell? ⟨gO,4,none⟩=some (.slice a4 n4 e4):=⟨aB Br.1 Ec,aB Br.2.1 Ec,aB Br.2.2 Ec⟩
     go_wp2_with fail;refine hK.out _ _ (Lh) (fun Aa=>?_);clear hK K;refine M967 ?_;intro xC bC hSC Gq oBU pcU hcS hiS;simp only[List.toArray]at xC;refine da 11 fun K hK=>?_;go_simp;refine hK.out _ _ (hSC) (fun Aa=>?_);clear hK K;try simp only[nrm]
     clear Tq Ec bC Me Dj Dk Br Lh;generalize wT.alloc (.cells #[.int .i64 (nw:Int),.int .i64 (lz:Int),.int .i64 (n2:Int),.slice ax n4 cx] 110 (0,0))=wU at *;generalize wT.heap.size=gC at *;have Qg:rs.length<=1000:=by
      exact QA81
     refine da 12 fun K hK=>?_;rw[if_pos A1];refine lA _ _ rfl w.heap.size _ rs.length rs rfl Gq.im.mrow.own gC (.slice ax n4 cx) ⟨(nw:Int),(lz:Int),(n2:Int),o.code⟩ rfl xC rfl Qg Gq.z.y.size ?_;intro Wc wV Hp Hu;have m9:=Gq.im.mblk Hu Gq.m A6;have o9:=Gq.im.mblk Hu oBU A6;have k9:=m9.k 0;have f9:=m9.free 0;obtain⟨ma3,mk3,rfl,_⟩:=aH Hp;refine M918 ?_;intro Tr HFI;refine hK.out _ _ (⟨k9,m9.k 1,o9.k 4⟩) (fun Aa=>?_);clear hK K;try simp only[nrm]
     refine la 13 ?_;try simp only[nrm]
     refine ea fun K hK=>?_;go_simp;refine hK.out _ _ ?_;clear hK K Aa Gq oBU pcU xC hSC m9 o9 k9 f9 Hp Hu Tr;go_wp2;go_roundw
     case rel=>exact⟨j+1,by omega,by go_num,⟨some ⟨ge,o'+n2*7,none⟩,rj-n2,cj-n2,by simp[hc],hRJ.out,by omega,by simp,.inr ⟨_,rfl⟩,HWF⟩,HFI⟩
     case measure=>simp[intOf];omega
  .
   have:n=j:=A0;subst this;have HF:Hid ((rs.map fun x=>x.2)=fY l n):=st.rs;obtain⟨mm0,mm1,mm2⟩:=st.m.c3;obtain⟨z0,z1,z2⟩:=st.z.z.c3;have f0:=st.z.z.free 0;have f1:=st.z.z.free 1;have f2:=st.z.z.free 2;generalize (bU l n).length=lz at *;have D:Blk (((wr.setCell ⟨w.heap.size,0,none⟩ (.slice ma rs.length mc)).setCell ⟨w.heap.size,1,none⟩ (.slice wa lz wk)).setCell ⟨w.heap.size,2,none⟩ (.int .i64 s)) w.heap.size 28 [.slice ma rs.length mc,.slice wa lz wk,.int .i64 s]:=Blk.put3 st.z.z;have i2:=st.im.put (i:=0) (v:=.slice ma rs.length mc) st.z.z A6 A6 (.inl A6);have y2:=st.z.z.set (i:=0) (.slice ma rs.length mc);have i3:=i2.put (i:=1) (v:=.slice wa lz wk) y2 A6 A6 (.inl A6);have y3:=y2.set (i:=1) (.slice wa lz wk);have i4:=i3.put (i:=2) (v:=.int .i64 s) y3 A6 A6 (.inl A6);have Bg:(((wr.setCell ⟨w.heap.size,0,none⟩ (.slice ma rs.length mc)).setCell ⟨w.heap.size,1,none⟩ (.slice wa lz wk)).setCell ⟨w.heap.size,2,none⟩ (.int .i64 s)).heap.size=wr.heap.size:=by simp
   have HI:Hid (Im (((wr.setCell ⟨w.heap.size,0,none⟩ (.slice ma rs.length mc)).setCell ⟨w.heap.size,1,none⟩ (.slice wa lz wk)).setCell ⟨w.heap.size,2,none⟩ (.int .i64 s)) w.heap.size wr.heap.size wr.heap.size (.slice ma rs.length mc) (.slice wa lz wk) rs (bU l n)):=i4.wide (zB0 _) st.hi.2 st.h2;have HYF:Hid (Below w.heap.size w (((wr.setCell ⟨w.heap.size,0,none⟩ (.slice ma rs.length mc)).setCell ⟨w.heap.size,1,none⟩ (.slice wa lz wk)).setCell ⟨w.heap.size,2,none⟩ (.int .i64 s))):=nB st.z.y (zB0 _);have HSZ:Hid _:=Bg;obtain⟨x0,x1,x2⟩:=D.c3;clear D i2 i3 i4 y2 y3 st Bg;go_wp2_with fail;refine zI1 (v:=.agg #[.slice ma rs.length mc,.slice wa lz wk,.int .i64 s]) (by simp only[results,Tryz.results20];simp[go_sem,x0,x1,x2]) rfl ⟨_,_,rs,rfl,HF.out,by rw[HSZ.out];exact HI.out,HYF.out⟩
end Go.Proofs.YtcbhdhmhidpdgaaGreatDoor

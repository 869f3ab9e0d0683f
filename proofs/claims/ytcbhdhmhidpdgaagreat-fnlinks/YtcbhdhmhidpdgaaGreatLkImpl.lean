import Derived.Test.YtcbhdhmhidpdgaaGreatLkImg
import Derived.Test.YtcbhdhmhidpdgaaGreatPackS
namespace Go.Proofs.YtcbhdhmhidpdgaaGreat
open Go.RowKit
set_option linter.unusedVariables false
set_option linter.unusedSimpArgs false
set_option maxRecDepth 100000
theorem A23{p:Prop}(h:p:=by simp only[results,Tryz.results5];simp[go_sem,d0,d1,d2]):p:=h
theorem QA63{p:Prop}(h:p:=by
 obtain⟨d0,d1,d2⟩:=D.c3
 clear D
 go_wp2_with fail
 refine zI1 (v:=.tuple #[.agg #[.slice none 0 0,.slice none 0 0,.int .i64 0],.int .i64 1]) A23 rfl HF.out):p:=h
theorem M935{p q:Prop}(k:q)(h:Kx q->p:=by
 intro kQ
 try simp only[nrm]
 refine ta 7 ?_
 try simp only[nrm]
 exact kQ.o):p:=h ⟨k⟩
theorem M953{p q:Prop}(k:q)(h:Kx q->p:=by
 intro kQ
 try simp only[nrm]
 refine wpAnyH_ready (rs:=[6]) A1 A9 ?_
 exact kQ.o):p:=h ⟨k⟩
theorem M965{p q:Prop}(k:q)(h:Kx q->p:=by
 intro kQ
 try simp only[nrm]
 refine wpAnyH_ready (rs:=[2]) A1 A9 ?_
 exact kQ.o):p:=h ⟨k⟩
theorem fJ {W:World}{g:Nat}(h:MC W g):Calls Tryz.prog 19 #[.slice (some ⟨g,0,none⟩) 4 4,.slice none 0 0] W fun e w'=>e=.returned (.int .i64 mG)/\Below W.heap.size W w':=
 aB7 (some ⟨g,0,none⟩) 4 4 nV none 0 0 [] W h.row (aLx _) A0 A0
theorem aT8:Ent 14:=aAt Tryz.func14 A1 rfl
theorem aQy:Ent 28:=aAt Tryz.func28 A1 rfl
theorem aI7 (l:List Oj)(a:Option Addr)(n c:Nat)(w:World)(h:aX w a c 5 (l.map Oj.fl))(hn:l.length=n)(Bg:∀o ∈ l,aP o.fl<=1048576):
  Calls Tryz.prog 13 #[.slice a n c,.func (.func 14) #[] #[]] w fun e w'=>∃r:Bool,e=.returned (.bool r)/\(r=true ↔ ∀o ∈ l,dF o.ob=true)/\w.grownBy w' none:=by
 refine(aFw 14 #[] none a n c (l.map Oj.fl) (fun j=>dF (kT l j).ob) (fun _ wr=>Below w.heap.size w wr) (fun _ _=>True) w ⟨aT8,fun j wr hi=>h.below hi, ?_, ?_⟩ A84 (zD2 _ _) (fun j w1 w2 hi hg=>hi.trans ((aA hg).mono hi.size)) (fun k e=>by cases e) aQy).mono ?_
 .
  exact QA108
 .
  intro j r wr vs hr hi Al _;rw[zA2]at hr;obtain⟨x,hx,rfl⟩:=zF0.1 hr;have hl:=Al.len
  match vs,hl with
  | [v0,v1,v2,v3,v4],_=>
   have H:=sJ ⟨v0,v1,v2,v3,v4⟩ x.ob wr (zH Al) (by rw[aJz];exact Bg x (zA3 hx));refine H.mono ?_;rintro e w' ⟨rfl,hb⟩;rw[cH hx];exact⟨rfl,aN hb none,fun _=>hi.trans (hb.mono hi.size),fun _=>trivial⟩
 .
  rintro e w' ⟨r,rfl,hg,ht⟩;refine⟨r,rfl, ?_,hg⟩;rw[aGl ht,zF3];constructor
  .
   intro Bl o ho;obtain⟨i,hi,rfl⟩:=List.mem_iff_getElem.1 ho;have:=Bl i (by rw[List.mem_range,<-hn];exact hi);rwa [cH (zA0 hi)]at this
  .
   intro Bl j hj;have Gw:j<l.length:=by rw[hn];simpa using hj
   rw[cH (zA0 Gw)];exact Bl _ (List.getElem_mem Gw)
theorem aNa {l:List Oj}{w w6:World}{lo n x:Nat}{mv wv:Value}{rs:List (Value × Rg)}{s:Int}(hn:l.length=n)(z:S0 w w6)(im:Im w6 lo w6.heap.size w6.heap.size mv wv rs (aM l n))(Lm:w.heap.size<=lo)(Qs:(rs.map fun x=>x.2)=eD l n)(hf:jF l)(hu:aF8 l)(hg:fV l n)(hx:iZ (kT l (l.length-1)) nV mG=some x)(hs:s=((kT l (l.length-1)).ex[x]?.map Xp.pos).getD 0):
  tB l w (.returned (.tuple #[.agg #[mv,wv,.int .i64 s],.int .i64 0])) (((w6.setCell ⟨w.heap.size,0,none⟩ mv).setCell ⟨w.heap.size,1,none⟩ wv).setCell ⟨w.heap.size,2,none⟩ (.int .i64 s)):=by
 subst hn;have i2:=im.put (i:=0) (v:=mv) z.z A6 A6 (.inl A6);have y2:=z.z.set (i:=0) mv;have i3:=i2.put (i:=1) (v:=wv) y2 A6 A6 (.inl A6);have y3:=y2.set (i:=1) wv;have i4:=i3.put (i:=2) (v:=.int .i64 s) y3 A6 A6 (.inl A6);have Bg:(((w6.setCell ⟨w.heap.size,0,none⟩ mv).setCell ⟨w.heap.size,1,none⟩ wv).setCell ⟨w.heap.size,2,none⟩ (.int .i64 s)).heap.size=w6.heap.size:=by simp
 refine⟨mv,wv,rs,aM l l.length,s,0,rfl, ?_,by rw[Bg];exact i4.wide Lm (zB0 _) (zB0 _),nJ z.y (zB0 _)⟩;unfold uK;rw[Qs,hs];exact Lk.well x hf hu hg hx
set_option maxHeartbeats 16000000 in
theorem aH7 (l:List Oj)(a:Option Addr)(c:Nat)(w:World)(h:aX w a c 5 (l.map Oj.fl))(Bg:∀o ∈ l,aP o.fl<=1048576):
  Calls Tryz.prog 5 #[.slice a l.length c] w (tB l w):=by
 have Dh:=h.len9;have Rc:=h.cap;rw[zB2]at Dh Rc;obtain⟨n,hN⟩:=zx (l.length);have HN:Hid (l.length=n):=hN.symm;rw[<-hN]at Dh Rc ⊢;have HL:Hid (aX w a c 5 (l.map Oj.fl)):=h;have HS:Hid (∀o ∈ l,aP o.fl<=1048576):=Bg;have s0:=S0.start w;clear h Bg hN;go_enter Tryz.func5,Tryz.ntmps5;go_upto_region 1 with fail;generalize w.alloc (.cells #[.slice none 0 0,.slice none 0 0,.int .i64 0] 28 (0,0))=w0 at *;have HR:=iO (n:Int) 1 8 w0;by_cases h18:1<=n/\n<=8
 .
  rw[show(decide ((1:Int)<=(n:Int)) && decide ((n:Int)<=8))=true by simp;omega]at HR;have H1:=aI7 l a n c w0 (aX.below HL.out s0.y) HN.out HS.out;obtain⟨h1,h8⟩:=h18;go_wp2_with fail;refine HR.mono ?_;rintro e w0' ⟨rfl,rfl⟩;go_wp2_with fail;refine H1.mono ?_;rintro e w1 ⟨r,rfl,hr,hg1⟩;have s1:=s0.step (aA hg1);have HRI:Hid (r=true ↔ ∀o ∈ l,dF o.ob=true):=hr;clear s0 HR H1 hg1 hr;cases r
  .
   have HNF:Hid (¬jF l):=fun hf=>by have:=HRI.out.2 hf.2;cases this
   obtain⟨z0,z1,z2⟩:=s1.z.c3;have f0:=s1.z.free 0;have f1:=s1.z.free 1;have f2:=s1.z.free 2;have HF:Hid (tB l w (.returned (.tuple #[.agg #[.slice none 0 0,.slice none 0 0,.int .i64 0],.int .i64 1])) (((w1.setCell ⟨w.heap.size,0,none⟩ (.slice none 0 0)).setCell ⟨w.heap.size,1,none⟩ (.slice none 0 0)).setCell ⟨w.heap.size,2,none⟩ (.int .i64 0))):=vJ s1 (Lk.form HNF.out);have D:Blk (((w1.setCell ⟨w.heap.size,0,none⟩ (.slice none 0 0)).setCell ⟨w.heap.size,1,none⟩ (.slice none 0 0)).setCell ⟨w.heap.size,2,none⟩ (.int .i64 0)) w.heap.size 28 [.slice none 0 0,.slice none 0 0,.int .i64 0]:=Blk.put3 s1.z;exact QA63
  .
   have Qm:Hid (jF l):=⟨⟨by rw[HN.out];exact h1,by rw[HN.out];exact h8⟩,HRI.out.1 rfl⟩
   clear HRI;obtain⟨b,off,rfl⟩:=aX.addr HL.out A63;have HC:Hid _:=lY HL.out HN.out;have H2:=tK aWs _ c l n w1 HN.out (aX.below HL.out s1.y);go_wp2_with fail;refine H2.mono ?_;rintro e w2 ⟨rfl,hg2⟩;have s2:=s1.step (aA hg2);clear s1 H2 hg2;cases hu:lS (l.map Oj.name)
   .
    have HNU:Hid (¬aF8 l):=fun h=>by have:=rJ.2 h;rw[hu]at this;cases this
    clear hu;obtain⟨z0,z1,z2⟩:=s2.z.c3;have f0:=s2.z.free 0;have f1:=s2.z.free 1;have f2:=s2.z.free 2;have HF:Hid (tB l w (.returned (.tuple #[.agg #[.slice none 0 0,.slice none 0 0,.int .i64 0],.int .i64 2])) (((w2.setCell ⟨w.heap.size,0,none⟩ (.slice none 0 0)).setCell ⟨w.heap.size,1,none⟩ (.slice none 0 0)).setCell ⟨w.heap.size,2,none⟩ (.int .i64 0))):=vJ s2 (Lk.name Qm.out HNU.out);have D:Blk (((w2.setCell ⟨w.heap.size,0,none⟩ (.slice none 0 0)).setCell ⟨w.heap.size,1,none⟩ (.slice none 0 0)).setCell ⟨w.heap.size,2,none⟩ (.int .i64 0)) w.heap.size 28 [.slice none 0 0,.slice none 0 0,.int .i64 0]:=Blk.put3 s2.z;obtain⟨d0,d1,d2⟩:=D.c3;clear D;go_wp2_with fail;refine zI1 (v:=.tuple #[.agg #[.slice none 0 0,.slice none 0 0,.int .i64 0],.int .i64 2]) A23 rfl HF.out
   .
    have HUo:Hid (aF8 l):=rJ.1 hu;clear hu;have H3:=aCo l _ n c w2 (aX.below HL.out s2.y) HN.out h8 HUo.out Qm.out.2;go_wp2_with fail;refine H3.mono ?_;rintro e w3 ⟨Je,hh⟩;have s3:=s2.step Je;clear H3;rcases hh with⟨ev,rfl,hgood,An⟩|⟨rfl,hng⟩
    .
     have HG:Hid (fV l n):=hgood;obtain⟨ne,Ae⟩:=zx ((aU l n).length);have Lc:Hid ((aU l n).length=ne):=Ae.symm;rw[<-Ae]at An;obtain⟨av,cv,rfl,Qq,Ug,hv3,hv4⟩:=aH An;have HWA:Hid (WAt w3 av (aU l n)):=by
      intro hp;rw[Lc.out]at hp;obtain⟨g,rfl⟩:=hv4 hp;exact⟨g,0,rfl,fun i v hv=>by rw[zJ1];exact cM An i v hv⟩
     have HAV:Hid (∃ge,av=none\/∃o,av=some ⟨ge,o,none⟩):=by
      rcases An.2 with⟨e,_⟩|⟨g,cap,cur,e,_⟩
      .
       simp only[Value.slice.injEq]at e;exact⟨0,.inl e.1⟩
      .
       simp only[Value.slice.injEq]at e;exact⟨g,.inr ⟨0,e.1⟩⟩
     clear hgood An Ae Ug hv4 Je s2;obtain⟨q,hq⟩:∃q,n=q+1:=⟨n-1,by omega⟩
     obtain⟨o,v0,v1,v2,v3,v4,ho,hv,c0,c1,c2,c3,c4⟩:=HC.out q A0;have HLO:Hid (kT l (l.length-1)=o):=aLs HN.out hq ho;have y:=s3.y;have b0:=aB c0 y;have b1:=aB c1 y;have b2:=aB c2 y;have b3:=aB c3 y;have b4:=aB c4 y;have Gi:(n:Int)-1=(q:Int):=A0;have hq0:(0:Int)<=(q:Int):=A0;have hqn:(q:Int)<(n:Int):=A0;have hwq:IntKind.i64.wrap (q:Int)=(q:Int):=aGb A0;clear hq;have HV:Hid (aL w o.fl [v0,v1,v2,v3,v4]):=hv;obtain⟨a0,e0,a1,e1,a2,e2,a4,e4,rfl,rfl,rfl,rfl,rfl,_,Tw,_⟩:=kU hv;have Ya:Hid (aX w a1 e1 3 (o.ex.map Xp.fl)):=Tw;obtain⟨Jk,_,_,_,_,hue,_⟩:=cP (Qm.out.2 o (zA3 ho));have HXP:Hid (∀(W:World) (gA:Nat),Below w.heap.size w W->MC W gA->Calls Tryz.prog 18 #[.agg #[.slice a0 o.name.length e0,.slice a1 o.ex.length e1,.slice a2 o.im.length e2,.int .i64 o.data,.slice a4 o.code.length e4],.slice (some ⟨gA,0,none⟩) 4 4,.int .i64 mG] W fun e w'=>e=.returned (.int .i64 (qY (iZ o nV mG)))/\Below W.heap.size W w'):=by
      intro W gA hb hm;refine(nO o _ _ _ _ _ W (aL.below HV.out hb) hue (some ⟨gA,0,none⟩) 4 4 nV hm.row mG).mono ?_;rintro e w' ⟨rfl,hg⟩;exact⟨rfl,aA hg⟩
     generalize o.name.length=n0 at *;obtain⟨n1,hn1'⟩:∃z,z=o.ex.length:=⟨_,rfl⟩
     rw[<-hn1']at HXP Jk b1;have HN1:Hid (o.ex.length=n1):=hn1'.symm;generalize o.im.length=n2 at *;generalize o.code.length=n4 at *;generalize o.data=dt at *;clear hv Tw c0 c1 c2 c3 c4 hn1' ho hue;have bO:Below w3.heap.size w3 (w3.alloc (.cells #[.slice a0 n0 e0,.slice a1 n1 e1,.slice a2 n2 e2,.int .i64 dt,.slice a4 n4 e4] 36 (0,0))):=(zD2 _ _).alloc (zB0 _) _;have oB:=Blk.new w3 36 [.slice a0 n0 e0,.slice a1 n1 e1,.slice a2 n2 e2,.int .i64 dt,.slice a4 n4 e4];have s4:=s3.step bO;have HWA4:Hid (WAt (w3.alloc (.cells #[.slice a0 n0 e0,.slice a1 n1 e1,.slice a2 n2 e2,.int .i64 dt,.slice a4 n4 e4] 36 (0,0))) av (aU l n)):=HWA.out.below bO;simp only[List.toArray]at oB;clear s3 y bO HWA;go_upto_region 9 with fail;generalize w3.alloc (.cells #[.slice a0 n0 e0,.slice a1 n1 e1,.slice a2 n2 e2,.int .i64 dt,.slice a4 n4 e4] 36 (0,0))=wr at *;generalize w3.heap.size=gO at *;clear b0 b1 b2 b3 b4;have Lb:Hid (∀(W:World) (gA:Nat),Below wr.heap.size wr W->MC W gA->Calls Tryz.prog 18 #[.agg #[.slice a0 n0 e0,.slice a1 n1 e1,.slice a2 n2 e2,.int .i64 dt,.slice a4 n4 e4],.slice (some ⟨gA,0,none⟩) 4 4,.int .i64 mG] W fun e w'=>e=.returned (.int .i64 (qY (iZ o nV mG)))/\Below W.heap.size W w'):=fun W gA hb hm=>HXP.out W gA (s4.y.trans (hb.mono s4.y.size)) hm;have HK9:Hid (∀{wl:World},Below wr.heap.size wr wl->(wl.cell? ⟨gO,0,none⟩=some (.slice a0 n0 e0)/\wl.cell? ⟨gO,1,none⟩=some (.slice a1 n1 e1)/\wl.cell? ⟨gO,2,none⟩=some (.slice a2 n2 e2)/\wl.cell? ⟨gO,3,none⟩=some (.int .i64 dt)/\wl.cell? ⟨gO,4,none⟩=some (.slice a4 n4 e4))):=
      fun hb=>⟨aB (oB.k 0) hb,aB (oB.k 1) hb,aB (oB.k 2) hb,aB (oB.k 3) hb,aB (oB.k 4) hb⟩
     go_cut [7] from 36 to 43 (fun s7 wz=>s7=.int .i64 (qY (iZ o nV mG))/\Hid (Below wr.heap.size wr wz))
     case first=>
      have Bj:Hid (∀{wl:World},Below wr.heap.size wr wl->(wl.cell? ⟨gO,0,none⟩=some (.slice a0 n0 e0)/\wl.cell? ⟨gO,1,none⟩=some (.slice a1 n1 e1)/\wl.cell? ⟨gO,2,none⟩=some (.slice a2 n2 e2)/\wl.cell? ⟨gO,3,none⟩=some (.int .i64 dt)/\wl.cell? ⟨gO,4,none⟩=some (.slice a4 n4 e4))):=HK9;have Gz:Below wr.heap.size wr wr.drew:=(zD2 _ _).drew;refine zK0 (S:=fun wl=>(wl.cell? ⟨gO,0,none⟩=some (.slice a0 n0 e0)/\wl.cell? ⟨gO,1,none⟩=some (.slice a1 n1 e1)/\wl.cell? ⟨gO,2,none⟩=some (.slice a2 n2 e2)/\wl.cell? ⟨gO,3,none⟩=some (.int .i64 dt)/\wl.cell? ⟨gO,4,none⟩=some (.slice a4 n4 e4))) A1 (Bj.out Gz) (fun Aa=>?_);generalize wr.drew=wS at Gz Aa ⊢;refine ta 0 ?_;try simp only[nrm]
      refine wpAnyH_ready (rs:=[1,3]) A1 A9 ?_;refine AllReadyH.cons (i:=1) (o:=?o101) ?i101 ?g101 (AllReadyH.cons (i:=3) (o:=?o102) ?i102 ?g102 AllReadyH.nil)
      case i101=>exact rfl
      case i102=>exact rfl
      case g101=>
       intro K hK;go_simp;have hb101:Below wS.heap.size wS (wS.alloc (.cells #[.int .u8 109,.int .u8 97,.int .u8 105,.int .u8 110] 5)):=(zD2 _ _).alloc (zB0 _) _;have mA:=Blk.new wS 5 [.int .u8 109,.int .u8 97,.int .u8 105,.int .u8 110];simp only[List.toArray]at mA;have Nj:wr.heap.size<=wS.heap.size:=Gz.size;have Lx:=Gz.trans (hb101.mono Gz.size);have hS101:=Bj.out Lx;refine hK.out _ _ hS101 (fun Aa=>?_);clear hK K;try simp only[nrm]
       clear hb101;generalize wS.alloc (.cells #[.int .u8 109,.int .u8 97,.int .u8 105,.int .u8 110] 5)=Io at *;generalize wS.heap.size=gA at *;refine wpAnyH_ready (rs:=[2,3]) A1 A9 ?_;refine AllReadyH.cons (i:=2) (o:=?o103) ?i103 ?g103 (AllReadyH.cons (i:=3) (o:=?o104) ?i104 ?g104 AllReadyH.nil)
       case i103=>exact rfl
       case i104=>exact rfl
       case g103=>
        intro K hK;have kc:=cT (n:=4) (c:=4) mA;go_simp;have Qg:Below wr.heap.size wr (Io.freeze ⟨gA,4,none⟩ 1):=cS Lx Nj;have kA:MC (Io.freeze ⟨gA,4,none⟩ 1) gA:=MC.frz mA;have hS103:=Bj.out Qg;refine hK.out _ _ hS103 (fun Aa=>?_);clear hK K kc mA;try simp only[nrm]
        generalize Io.freeze ⟨gA,4,none⟩ 1=Ki at *;refine wpAnyH_ready (rs:=[3]) A1 A9 ?_;refine AllReadyH.cons (i:=3) (o:=?o105) ?i105 ?g105 AllReadyH.nil
        case i105=>exact rfl
        case g105=>
         intro K hK;go_simp;have Vj:Below Ki.heap.size Ki (Ki.alloc (.cells #[.int .u8 109,.int .u8 97,.int .u8 105,.int .u8 110] 5)):=(zD2 _ _).alloc (zB0 _) _;have mB:=Blk.new Ki 5 [.int .u8 109,.int .u8 97,.int .u8 105,.int .u8 110];simp only[List.toArray]at mB;have Tq:wr.heap.size<=Ki.heap.size:=Qg.size;have Ae:gA ≠ Ki.heap.size:=Nat.ne_of_lt (zI2 Ki _ (kA 0 _ rfl));replace kA:=kA.below Vj;have hB105:=Qg.trans (Vj.mono Qg.size);have hS105:=Bj.out hB105;refine hK.out _ _ hS105 (fun Aa=>?_);clear hK K;try simp only[nrm]
         clear Vj;generalize Ki.alloc (.cells #[.int .u8 109,.int .u8 97,.int .u8 105,.int .u8 110] 5)=V105 at *;generalize Ki.heap.size=gB at *;refine wpAnyH_ready (rs:=[4]) A1 A9 ?_;refine AllReadyH.cons (i:=4) (o:=?o106) ?i106 ?g106 AllReadyH.nil
         case i106=>exact rfl
         case g106=>
          intro K hK;have kc:=cT (n:=4) (c:=4) mB;go_simp;have Vx:Below wr.heap.size wr (V105.freeze ⟨gB,4,none⟩ 1):=cS hB105 Tq;have kB:MC (V105.freeze ⟨gB,4,none⟩ 1) gB:=MC.frz mB;replace kA:=kA.frzO (k:=4) (show gA ≠ gB by omega);have hS106:=Bj.out Vx;refine hK.out _ _ hS106 (fun Aa=>?_);clear hK K kc mB;try simp only[nrm]
          generalize V105.freeze ⟨gB,4,none⟩ 1=V106 at *;refine wpAnyH_ready (rs:=[5]) A1 A9 ?_;refine AllReadyH.cons (i:=5) (o:=?o107) ?i107 ?g107 AllReadyH.nil
          case i107=>exact rfl
          case g107=>
           intro K hK;go_simp
           (with_reducible refine(fJ kB).mono ?_)
           rintro e V107 ⟨rfl,Pp⟩;replace kA:=kA.below Pp;replace kB:=kB.below Pp;have Qf:=Vx.trans (Pp.mono Vx.size);have hS107:=Bj.out Qf;go_wp2_with fail;refine hK.out _ _ hS107 (fun Aa=>?_);clear hK K Pp;refine M953 ?_;refine AllReadyH.cons (i:=6) (o:=?o108) ?i108 ?g108 AllReadyH.nil
           case i108=>exact rfl
           case g108=>
            intro K hK;go_simp
            (with_reducible refine(Lb.out V107 gA Qf kA).mono ?_)
            rintro e V108 ⟨rfl,hb108⟩;have hB108:=Qf.trans (hb108.mono Qf.size);have hS108:=Bj.out hB108;go_wp2_with fail;refine hK.out _ _ hS108 (fun Aa=>?_);clear hK K hb108;refine M935 ?_;refine zK1 A1 ?_ _;go_wp2_with fail;go_meet
            case rel=>exact⟨rfl,hB108⟩
       case g104=>
        intro K hK;go_simp;have Vk:Below Io.heap.size Io (Io.alloc (.cells #[.int .u8 109,.int .u8 97,.int .u8 105,.int .u8 110] 5)):=(zD2 _ _).alloc (zB0 _) _;have mB:=Blk.new Io 5 [.int .u8 109,.int .u8 97,.int .u8 105,.int .u8 110];simp only[List.toArray]at mB;have Tq:wr.heap.size<=Io.heap.size:=Lx.size;have Ae:gA ≠ Io.heap.size:=Nat.ne_of_lt mA.lt;replace mA:=mA.below Vk mA.lt;have Vy:=Lx.trans (Vk.mono Lx.size);have hS104:=Bj.out Vy;refine hK.out _ _ hS104 (fun Aa=>?_);clear hK K;try simp only[nrm]
        clear Vk;generalize Io.alloc (.cells #[.int .u8 109,.int .u8 97,.int .u8 105,.int .u8 110] 5)=Rj at *;generalize Io.heap.size=gB at *;refine wpAnyH_ready (rs:=[2,4]) A1 A9 ?_;refine AllReadyH.cons (i:=2) (o:=?o110) ?i110 ?g110 (AllReadyH.cons (i:=4) (o:=?o111) ?i111 ?g111 AllReadyH.nil)
        case i110=>exact rfl
        case i111=>exact rfl
        case g110=>
         intro K hK;have kc:=cT (n:=4) (c:=4) mA;go_simp;have hB110:Below wr.heap.size wr (Rj.freeze ⟨gA,4,none⟩ 1):=cS Vy Nj;have kA:MC (Rj.freeze ⟨gA,4,none⟩ 1) gA:=MC.frz mA;replace mB:=mB.frzO (k:=4) (show gB ≠ gA by omega);have hS110:=Bj.out hB110;refine hK.out _ _ hS110 (fun Aa=>?_);clear hK K kc mA;try simp only[nrm]
         generalize Rj.freeze ⟨gA,4,none⟩ 1=V110 at *;refine wpAnyH_ready (rs:=[4]) A1 A9 ?_;refine AllReadyH.cons (i:=4) (o:=?o112) ?i112 ?g112 AllReadyH.nil
         case i112=>exact rfl
         case g112=>
          intro K hK;have kc:=cT (n:=4) (c:=4) mB;go_simp;have Vw:Below wr.heap.size wr (V110.freeze ⟨gB,4,none⟩ 1):=cS hB110 Tq;have kB:MC (V110.freeze ⟨gB,4,none⟩ 1) gB:=MC.frz mB;replace kA:=kA.frzO (k:=4) (show gA ≠ gB by omega);have hS112:=Bj.out Vw;refine hK.out _ _ hS112 (fun Aa=>?_);clear hK K kc mB;try simp only[nrm]
          generalize V110.freeze ⟨gB,4,none⟩ 1=V112 at *;refine wpAnyH_ready (rs:=[5]) A1 A9 ?_;refine AllReadyH.cons (i:=5) (o:=?o113) ?i113 ?g113 AllReadyH.nil
          case i113=>exact rfl
          case g113=>
           intro K hK;go_simp
           (with_reducible refine(fJ kB).mono ?_)
           rintro e V113 ⟨rfl,Po⟩;replace kA:=kA.below Po;replace kB:=kB.below Po;have Qd:=Vw.trans (Po.mono Vw.size);have hS113:=Bj.out Qd;go_wp2_with fail;refine hK.out _ _ hS113 (fun Aa=>?_);clear hK K Po;refine M953 ?_;refine AllReadyH.cons (i:=6) (o:=?o114) ?i114 ?g114 AllReadyH.nil
           case i114=>exact rfl
           case g114=>
            intro K hK;go_simp
            (with_reducible refine(Lb.out V113 gA Qd kA).mono ?_)
            rintro e V114 ⟨rfl,hb114⟩;have hB114:=Qd.trans (hb114.mono Qd.size);have hS114:=Bj.out hB114;go_wp2_with fail;refine hK.out _ _ hS114 (fun Aa=>?_);clear hK K hb114;refine M935 ?_;refine zK1 A1 ?_ _;go_wp2_with fail;go_meet
            case rel=>exact⟨rfl,hB114⟩
        case g111=>
         intro K hK;have kc:=cT (n:=4) (c:=4) mB;go_simp;have Qe:Below wr.heap.size wr (Rj.freeze ⟨gB,4,none⟩ 1):=cS Vy Tq;have kB:MC (Rj.freeze ⟨gB,4,none⟩ 1) gB:=MC.frz mB;replace mA:=mA.frzO (k:=4) (show gA ≠ gB by omega);have hS111:=Bj.out Qe;refine hK.out _ _ hS111 (fun Aa=>?_);clear hK K kc mB;try simp only[nrm]
         generalize Rj.freeze ⟨gB,4,none⟩ 1=V111 at *;refine wpAnyH_ready (rs:=[2,5]) A1 A9 ?_;refine AllReadyH.cons (i:=2) (o:=?o116) ?i116 ?g116 (AllReadyH.cons (i:=5) (o:=?o117) ?i117 ?g117 AllReadyH.nil)
         case i116=>exact rfl
         case i117=>exact rfl
         case g116=>
          intro K hK;have kc:=cT (n:=4) (c:=4) mA;go_simp;have Vv:Below wr.heap.size wr (V111.freeze ⟨gA,4,none⟩ 1):=cS Qe Nj;have kA:MC (V111.freeze ⟨gA,4,none⟩ 1) gA:=MC.frz mA;replace kB:=kB.frzO (k:=4) (show gB ≠ gA by omega);have hS116:=Bj.out Vv;refine hK.out _ _ hS116 (fun Aa=>?_);clear hK K kc mA;try simp only[nrm]
          generalize V111.freeze ⟨gA,4,none⟩ 1=V116 at *;refine wpAnyH_ready (rs:=[5]) A1 A9 ?_;refine AllReadyH.cons (i:=5) (o:=?o118) ?i118 ?g118 AllReadyH.nil
          case i118=>exact rfl
          case g118=>
           intro K hK;go_simp
           (with_reducible refine(fJ kB).mono ?_)
           rintro e V118 ⟨rfl,Pm⟩;replace kA:=kA.below Pm;replace kB:=kB.below Pm;have Qc:=Vv.trans (Pm.mono Vv.size);have hS118:=Bj.out Qc;go_wp2_with fail;refine hK.out _ _ hS118 (fun Aa=>?_);clear hK K Pm;refine M953 ?_;refine AllReadyH.cons (i:=6) (o:=?o119) ?i119 ?g119 AllReadyH.nil
           case i119=>exact rfl
           case g119=>
            intro K hK;go_simp
            (with_reducible refine(Lb.out V118 gA Qc kA).mono ?_)
            rintro e V119 ⟨rfl,hb119⟩;have hB119:=Qc.trans (hb119.mono Qc.size);have hS119:=Bj.out hB119;go_wp2_with fail;refine hK.out _ _ hS119 (fun Aa=>?_);clear hK K hb119;refine M935 ?_;refine zK1 A1 ?_ _;go_wp2_with fail;go_meet
            case rel=>exact⟨rfl,hB119⟩
         case g117=>
          intro K hK;go_simp
          (with_reducible refine(fJ kB).mono ?_)
          rintro e V117 ⟨rfl,Pn⟩;replace mA:=mA.below Pn mA.lt;replace kB:=kB.below Pn;have hB117:=Qe.trans (Pn.mono Qe.size);have hS117:=Bj.out hB117;go_wp2_with fail;refine hK.out _ _ hS117 (fun Aa=>?_);clear hK K Pn;refine M965 ?_;refine AllReadyH.cons (i:=2) (o:=?o121) ?i121 ?g121 AllReadyH.nil
          case i121=>exact rfl
          case g121=>
           intro K hK;have kc:=cT (n:=4) (c:=4) mA;go_simp;have Qb:Below wr.heap.size wr (V117.freeze ⟨gA,4,none⟩ 1):=cS hB117 Nj;have kA:MC (V117.freeze ⟨gA,4,none⟩ 1) gA:=MC.frz mA;replace kB:=kB.frzO (k:=4) (show gB ≠ gA by omega);have hS121:=Bj.out Qb;refine hK.out _ _ hS121 (fun Aa=>?_);clear hK K kc mA;try simp only[nrm]
           generalize V117.freeze ⟨gA,4,none⟩ 1=V121 at *;refine wpAnyH_ready (rs:=[6]) A1 A9 ?_;refine AllReadyH.cons (i:=6) (o:=?o122) ?i122 ?g122 AllReadyH.nil
           case i122=>exact rfl
           case g122=>
            intro K hK;go_simp
            (with_reducible refine(Lb.out V121 gA Qb kA).mono ?_)
            rintro e V122 ⟨rfl,hb122⟩;have hB122:=Qb.trans (hb122.mono Qb.size);have hS122:=Bj.out hB122;go_wp2_with fail;refine hK.out _ _ hS122 (fun Aa=>?_);clear hK K hb122;refine M935 ?_;refine zK1 A1 ?_ _;go_wp2_with fail;go_meet
            case rel=>exact⟨rfl,hB122⟩
      case g102=>
       intro K hK;go_simp;have hb102:Below wS.heap.size wS (wS.alloc (.cells #[.int .u8 109,.int .u8 97,.int .u8 105,.int .u8 110] 5)):=(zD2 _ _).alloc (zB0 _) _;have mB:=Blk.new wS 5 [.int .u8 109,.int .u8 97,.int .u8 105,.int .u8 110];simp only[List.toArray]at mB;have Tq:wr.heap.size<=wS.heap.size:=Gz.size;have Lw:=Gz.trans (hb102.mono Gz.size);have hS102:=Bj.out Lw;refine hK.out _ _ hS102 (fun Aa=>?_);clear hK K;try simp only[nrm]
       clear hb102;generalize wS.alloc (.cells #[.int .u8 109,.int .u8 97,.int .u8 105,.int .u8 110] 5)=In at *;generalize wS.heap.size=gB at *;refine wpAnyH_ready (rs:=[1,4]) A1 A9 ?_;refine AllReadyH.cons (i:=1) (o:=?o124) ?i124 ?g124 (AllReadyH.cons (i:=4) (o:=?o125) ?i125 ?g125 AllReadyH.nil)
       case i124=>exact rfl
       case i125=>exact rfl
       case g124=>
        intro K hK;go_simp;have Vi:Below In.heap.size In (In.alloc (.cells #[.int .u8 109,.int .u8 97,.int .u8 105,.int .u8 110] 5)):=(zD2 _ _).alloc (zB0 _) _;have mA:=Blk.new In 5 [.int .u8 109,.int .u8 97,.int .u8 105,.int .u8 110];simp only[List.toArray]at mA;have Nj:wr.heap.size<=In.heap.size:=Lw.size;have Ae:gB ≠ In.heap.size:=Nat.ne_of_lt mB.lt;replace mB:=mB.below Vi mB.lt;have Vu:=Lw.trans (Vi.mono Lw.size);have hS124:=Bj.out Vu;refine hK.out _ _ hS124 (fun Aa=>?_);clear hK K;try simp only[nrm]
        clear Vi;generalize In.alloc (.cells #[.int .u8 109,.int .u8 97,.int .u8 105,.int .u8 110] 5)=Rh at *;generalize In.heap.size=gA at *;refine wpAnyH_ready (rs:=[2,4]) A1 A9 ?_;refine AllReadyH.cons (i:=2) (o:=?o126) ?i126 ?g126 (AllReadyH.cons (i:=4) (o:=?o127) ?i127 ?g127 AllReadyH.nil)
        case i126=>exact rfl
        case i127=>exact rfl
        case g126=>
         intro K hK;have kc:=cT (n:=4) (c:=4) mA;go_simp;have hB126:Below wr.heap.size wr (Rh.freeze ⟨gA,4,none⟩ 1):=cS Vu Nj;have kA:MC (Rh.freeze ⟨gA,4,none⟩ 1) gA:=MC.frz mA;replace mB:=mB.frzO (k:=4) (show gB ≠ gA by omega);have hS126:=Bj.out hB126;refine hK.out _ _ hS126 (fun Aa=>?_);clear hK K kc mA;try simp only[nrm]
         generalize Rh.freeze ⟨gA,4,none⟩ 1=V126 at *;refine wpAnyH_ready (rs:=[4]) A1 A9 ?_;refine AllReadyH.cons (i:=4) (o:=?o128) ?i128 ?g128 AllReadyH.nil
         case i128=>exact rfl
         case g128=>
          intro K hK;have kc:=cT (n:=4) (c:=4) mB;go_simp;have Vt:Below wr.heap.size wr (V126.freeze ⟨gB,4,none⟩ 1):=cS hB126 Tq;have kB:MC (V126.freeze ⟨gB,4,none⟩ 1) gB:=MC.frz mB;replace kA:=kA.frzO (k:=4) (show gA ≠ gB by omega);have hS128:=Bj.out Vt;refine hK.out _ _ hS128 (fun Aa=>?_);clear hK K kc mB;try simp only[nrm]
          generalize V126.freeze ⟨gB,4,none⟩ 1=V128 at *;refine wpAnyH_ready (rs:=[5]) A1 A9 ?_;refine AllReadyH.cons (i:=5) (o:=?o129) ?i129 ?g129 AllReadyH.nil
          case i129=>exact rfl
          case g129=>
           intro K hK;go_simp
           (with_reducible refine(fJ kB).mono ?_)
           rintro e V129 ⟨rfl,Pk⟩;replace kA:=kA.below Pk;replace kB:=kB.below Pk;have Pz:=Vt.trans (Pk.mono Vt.size);have hS129:=Bj.out Pz;go_wp2_with fail;refine hK.out _ _ hS129 (fun Aa=>?_);clear hK K Pk;refine M953 ?_;refine AllReadyH.cons (i:=6) (o:=?o130) ?i130 ?g130 AllReadyH.nil
           case i130=>exact rfl
           case g130=>
            intro K hK;go_simp
            (with_reducible refine(Lb.out V129 gA Pz kA).mono ?_)
            rintro e V130 ⟨rfl,hb130⟩;have hB130:=Pz.trans (hb130.mono Pz.size);have hS130:=Bj.out hB130;go_wp2_with fail;refine hK.out _ _ hS130 (fun Aa=>?_);clear hK K hb130;refine M935 ?_;refine zK1 A1 ?_ _;go_wp2_with fail;go_meet
            case rel=>exact⟨rfl,hB130⟩
        case g127=>
         intro K hK;have kc:=cT (n:=4) (c:=4) mB;go_simp;have Qa:Below wr.heap.size wr (Rh.freeze ⟨gB,4,none⟩ 1):=cS Vu Tq;have kB:MC (Rh.freeze ⟨gB,4,none⟩ 1) gB:=MC.frz mB;replace mA:=mA.frzO (k:=4) (show gA ≠ gB by omega);have hS127:=Bj.out Qa;refine hK.out _ _ hS127 (fun Aa=>?_);clear hK K kc mB;try simp only[nrm]
         generalize Rh.freeze ⟨gB,4,none⟩ 1=V127 at *;refine wpAnyH_ready (rs:=[2,5]) A1 A9 ?_;refine AllReadyH.cons (i:=2) (o:=?o132) ?i132 ?g132 (AllReadyH.cons (i:=5) (o:=?o133) ?i133 ?g133 AllReadyH.nil)
         case i132=>exact rfl
         case i133=>exact rfl
         case g132=>
          intro K hK;have kc:=cT (n:=4) (c:=4) mA;go_simp;have Vs:Below wr.heap.size wr (V127.freeze ⟨gA,4,none⟩ 1):=cS Qa Nj;have kA:MC (V127.freeze ⟨gA,4,none⟩ 1) gA:=MC.frz mA;replace kB:=kB.frzO (k:=4) (show gB ≠ gA by omega);have hS132:=Bj.out Vs;refine hK.out _ _ hS132 (fun Aa=>?_);clear hK K kc mA;try simp only[nrm]
          generalize V127.freeze ⟨gA,4,none⟩ 1=V132 at *;refine wpAnyH_ready (rs:=[5]) A1 A9 ?_;refine AllReadyH.cons (i:=5) (o:=?o134) ?i134 ?g134 AllReadyH.nil
          case i134=>exact rfl
          case g134=>
           intro K hK;go_simp
           (with_reducible refine(fJ kB).mono ?_)
           rintro e V134 ⟨rfl,Pi⟩;replace kA:=kA.below Pi;replace kB:=kB.below Pi;have Py:=Vs.trans (Pi.mono Vs.size);have hS134:=Bj.out Py;go_wp2_with fail;refine hK.out _ _ hS134 (fun Aa=>?_);clear hK K Pi;refine M953 ?_;refine AllReadyH.cons (i:=6) (o:=?o135) ?i135 ?g135 AllReadyH.nil
           case i135=>exact rfl
           case g135=>
            intro K hK;go_simp
            (with_reducible refine(Lb.out V134 gA Py kA).mono ?_)
            rintro e V135 ⟨rfl,hb135⟩;have hB135:=Py.trans (hb135.mono Py.size);have hS135:=Bj.out hB135;go_wp2_with fail;refine hK.out _ _ hS135 (fun Aa=>?_);clear hK K hb135;refine M935 ?_;refine zK1 A1 ?_ _;go_wp2_with fail;go_meet
            case rel=>exact⟨rfl,hB135⟩
         case g133=>
          intro K hK;go_simp
          (with_reducible refine(fJ kB).mono ?_)
          rintro e V133 ⟨rfl,Pj⟩;replace mA:=mA.below Pj mA.lt;replace kB:=kB.below Pj;have hB133:=Qa.trans (Pj.mono Qa.size);have hS133:=Bj.out hB133;go_wp2_with fail;refine hK.out _ _ hS133 (fun Aa=>?_);clear hK K Pj;refine M965 ?_;refine AllReadyH.cons (i:=2) (o:=?o137) ?i137 ?g137 AllReadyH.nil
          case i137=>exact rfl
          case g137=>
           intro K hK;have kc:=cT (n:=4) (c:=4) mA;go_simp;have Px:Below wr.heap.size wr (V133.freeze ⟨gA,4,none⟩ 1):=cS hB133 Nj;have kA:MC (V133.freeze ⟨gA,4,none⟩ 1) gA:=MC.frz mA;replace kB:=kB.frzO (k:=4) (show gB ≠ gA by omega);have hS137:=Bj.out Px;refine hK.out _ _ hS137 (fun Aa=>?_);clear hK K kc mA;try simp only[nrm]
           generalize V133.freeze ⟨gA,4,none⟩ 1=V137 at *;refine wpAnyH_ready (rs:=[6]) A1 A9 ?_;refine AllReadyH.cons (i:=6) (o:=?o138) ?i138 ?g138 AllReadyH.nil
           case i138=>exact rfl
           case g138=>
            intro K hK;go_simp
            (with_reducible refine(Lb.out V137 gA Px kA).mono ?_)
            rintro e V138 ⟨rfl,hb138⟩;have hB138:=Px.trans (hb138.mono Px.size);have hS138:=Bj.out hB138;go_wp2_with fail;refine hK.out _ _ hS138 (fun Aa=>?_);clear hK K hb138;refine M935 ?_;refine zK1 A1 ?_ _;go_wp2_with fail;go_meet
            case rel=>exact⟨rfl,hB138⟩
       case g125=>
        intro K hK;have kc:=cT (n:=4) (c:=4) mB;go_simp;have Jo:Below wr.heap.size wr (In.freeze ⟨gB,4,none⟩ 1):=cS Lw Tq;have kB:MC (In.freeze ⟨gB,4,none⟩ 1) gB:=MC.frz mB;have hS125:=Bj.out Jo;refine hK.out _ _ hS125 (fun Aa=>?_);clear hK K kc mB;try simp only[nrm]
        generalize In.freeze ⟨gB,4,none⟩ 1=Kh at *;refine wpAnyH_ready (rs:=[1,5]) A1 A9 ?_;refine AllReadyH.cons (i:=1) (o:=?o140) ?i140 ?g140 (AllReadyH.cons (i:=5) (o:=?o141) ?i141 ?g141 AllReadyH.nil)
        case i140=>exact rfl
        case i141=>exact rfl
        case g140=>
         intro K hK;go_simp;have Vh:Below Kh.heap.size Kh (Kh.alloc (.cells #[.int .u8 109,.int .u8 97,.int .u8 105,.int .u8 110] 5)):=(zD2 _ _).alloc (zB0 _) _;have mA:=Blk.new Kh 5 [.int .u8 109,.int .u8 97,.int .u8 105,.int .u8 110];simp only[List.toArray]at mA;have Nj:wr.heap.size<=Kh.heap.size:=Jo.size;have Ae:gB ≠ Kh.heap.size:=Nat.ne_of_lt (zI2 Kh _ (kB 0 _ rfl));replace kB:=kB.below Vh;have Pw:=Jo.trans (Vh.mono Jo.size);have hS140:=Bj.out Pw;refine hK.out _ _ hS140 (fun Aa=>?_);clear hK K;try simp only[nrm]
         clear Vh;generalize Kh.alloc (.cells #[.int .u8 109,.int .u8 97,.int .u8 105,.int .u8 110] 5)=V140 at *;generalize Kh.heap.size=gA at *;refine wpAnyH_ready (rs:=[2,5]) A1 A9 ?_;refine AllReadyH.cons (i:=2) (o:=?o142) ?i142 ?g142 (AllReadyH.cons (i:=5) (o:=?o143) ?i143 ?g143 AllReadyH.nil)
         case i142=>exact rfl
         case i143=>exact rfl
         case g142=>
          intro K hK;have kc:=cT (n:=4) (c:=4) mA;go_simp;have Vr:Below wr.heap.size wr (V140.freeze ⟨gA,4,none⟩ 1):=cS Pw Nj;have kA:MC (V140.freeze ⟨gA,4,none⟩ 1) gA:=MC.frz mA;replace kB:=kB.frzO (k:=4) (show gB ≠ gA by omega);have hS142:=Bj.out Vr;refine hK.out _ _ hS142 (fun Aa=>?_);clear hK K kc mA;try simp only[nrm]
          generalize V140.freeze ⟨gA,4,none⟩ 1=V142 at *;refine wpAnyH_ready (rs:=[5]) A1 A9 ?_;refine AllReadyH.cons (i:=5) (o:=?o144) ?i144 ?g144 AllReadyH.nil
          case i144=>exact rfl
          case g144=>
           intro K hK;go_simp
           (with_reducible refine(fJ kB).mono ?_)
           rintro e V144 ⟨rfl,Pg⟩;replace kA:=kA.below Pg;replace kB:=kB.below Pg;have Pu:=Vr.trans (Pg.mono Vr.size);have hS144:=Bj.out Pu;go_wp2_with fail;refine hK.out _ _ hS144 (fun Aa=>?_);clear hK K Pg;refine M953 ?_;refine AllReadyH.cons (i:=6) (o:=?o145) ?i145 ?g145 AllReadyH.nil
           case i145=>exact rfl
           case g145=>
            intro K hK;go_simp
            (with_reducible refine(Lb.out V144 gA Pu kA).mono ?_)
            rintro e V145 ⟨rfl,hb145⟩;have hB145:=Pu.trans (hb145.mono Pu.size);have hS145:=Bj.out hB145;go_wp2_with fail;refine hK.out _ _ hS145 (fun Aa=>?_);clear hK K hb145;refine M935 ?_;refine zK1 A1 ?_ _;go_wp2_with fail;go_meet
            case rel=>exact⟨rfl,hB145⟩
         case g143=>
          intro K hK;go_simp
          (with_reducible refine(fJ kB).mono ?_)
          rintro e V143 ⟨rfl,Ph⟩;replace mA:=mA.below Ph mA.lt;replace kB:=kB.below Ph;have hB143:=Pw.trans (Ph.mono Pw.size);have hS143:=Bj.out hB143;go_wp2_with fail;refine hK.out _ _ hS143 (fun Aa=>?_);clear hK K Ph;refine M965 ?_;refine AllReadyH.cons (i:=2) (o:=?o147) ?i147 ?g147 AllReadyH.nil
          case i147=>exact rfl
          case g147=>
           intro K hK;have kc:=cT (n:=4) (c:=4) mA;go_simp;have Pt:Below wr.heap.size wr (V143.freeze ⟨gA,4,none⟩ 1):=cS hB143 Nj;have kA:MC (V143.freeze ⟨gA,4,none⟩ 1) gA:=MC.frz mA;replace kB:=kB.frzO (k:=4) (show gB ≠ gA by omega);have hS147:=Bj.out Pt;refine hK.out _ _ hS147 (fun Aa=>?_);clear hK K kc mA;try simp only[nrm]
           generalize V143.freeze ⟨gA,4,none⟩ 1=V147 at *;refine wpAnyH_ready (rs:=[6]) A1 A9 ?_;refine AllReadyH.cons (i:=6) (o:=?o148) ?i148 ?g148 AllReadyH.nil
           case i148=>exact rfl
           case g148=>
            intro K hK;go_simp
            (with_reducible refine(Lb.out V147 gA Pt kA).mono ?_)
            rintro e V148 ⟨rfl,hb148⟩;have hB148:=Pt.trans (hb148.mono Pt.size);have hS148:=Bj.out hB148;go_wp2_with fail;refine hK.out _ _ hS148 (fun Aa=>?_);clear hK K hb148;refine M935 ?_;refine zK1 A1 ?_ _;go_wp2_with fail;go_meet
            case rel=>exact⟨rfl,hB148⟩
        case g141=>
         intro K hK;go_simp
         (with_reducible refine(fJ kB).mono ?_)
         rintro e Kg ⟨rfl,Vg⟩;replace kB:=kB.below Vg;have Pv:=Jo.trans (Vg.mono Jo.size);have hS141:=Bj.out Pv;go_wp2_with fail;refine hK.out _ _ hS141 (fun Aa=>?_);clear hK K Vg;try simp only[nrm]
         refine wpAnyH_ready (rs:=[1]) A1 A9 ?_;refine AllReadyH.cons (i:=1) (o:=?o150) ?i150 ?g150 AllReadyH.nil
         case i150=>exact rfl
         case g150=>
          intro K hK;go_simp;have Vf:Below Kg.heap.size Kg (Kg.alloc (.cells #[.int .u8 109,.int .u8 97,.int .u8 105,.int .u8 110] 5)):=(zD2 _ _).alloc (zB0 _) _;have mA:=Blk.new Kg 5 [.int .u8 109,.int .u8 97,.int .u8 105,.int .u8 110];simp only[List.toArray]at mA;have Nj:wr.heap.size<=Kg.heap.size:=Pv.size;have Ae:gB ≠ Kg.heap.size:=Nat.ne_of_lt (zI2 Kg _ (kB 0 _ rfl));replace kB:=kB.below Vf;have hB150:=Pv.trans (Vf.mono Pv.size);have hS150:=Bj.out hB150;refine hK.out _ _ hS150 (fun Aa=>?_);clear hK K;try simp only[nrm]
          clear Vf;generalize Kg.alloc (.cells #[.int .u8 109,.int .u8 97,.int .u8 105,.int .u8 110] 5)=V150 at *;generalize Kg.heap.size=gA at *;refine wpAnyH_ready (rs:=[2]) A1 A9 ?_;refine AllReadyH.cons (i:=2) (o:=?o151) ?i151 ?g151 AllReadyH.nil
          case i151=>exact rfl
          case g151=>
           intro K hK;have kc:=cT (n:=4) (c:=4) mA;go_simp;have Ps:Below wr.heap.size wr (V150.freeze ⟨gA,4,none⟩ 1):=cS hB150 Nj;have kA:MC (V150.freeze ⟨gA,4,none⟩ 1) gA:=MC.frz mA;replace kB:=kB.frzO (k:=4) (show gB ≠ gA by omega);have hS151:=Bj.out Ps;refine hK.out _ _ hS151 (fun Aa=>?_);clear hK K kc mA;try simp only[nrm]
           generalize V150.freeze ⟨gA,4,none⟩ 1=V151 at *;refine wpAnyH_ready (rs:=[6]) A1 A9 ?_;refine AllReadyH.cons (i:=6) (o:=?o152) ?i152 ?g152 AllReadyH.nil
           case i152=>exact rfl
           case g152=>
            intro K hK;go_simp
            (with_reducible refine(Lb.out V151 gA Ps kA).mono ?_)
            rintro e V152 ⟨rfl,hb152⟩;have hB152:=Ps.trans (hb152.mono Ps.size);have hS152:=Bj.out hB152;go_wp2_with fail;refine hK.out _ _ hS152 (fun Aa=>?_);clear hK K hb152;refine M935 ?_;refine zK1 A1 ?_ _;go_wp2_with fail;go_meet
            case rel=>exact⟨rfl,hB152⟩
     case rest=>
      obtain⟨rfl,Eh⟩:=hcut;have s9:=s4.step Eh.out;have k1:=(HK9.out Eh.out).2.1;have HWA9:Hid (WAt wc av (aU l n)):=HWA4.out.below Eh.out;clear s4 Lb HXP HWA4 oB;obtain⟨fx,Tr⟩:=zx (iZ o nV mG);rw[<-Tr];cases fx with
      | none=>
       simp only[qY];have HM:Hid (Lk mG l oP 4):=Lk.main Qm.out HUo.out (by rw[HN.out];exact HG.out) (by rw[HLO.out];exact Tr.symm);clear Tr;obtain⟨z0,z1,z2⟩:=s9.z.c3;have f0:=s9.z.free 0;have f1:=s9.z.free 1;have f2:=s9.z.free 2;have HF:Hid (tB l w (.returned (.tuple #[.agg #[.slice none 0 0,.slice none 0 0,.int .i64 0],.int .i64 4])) (((wc.setCell ⟨w.heap.size,0,none⟩ (.slice none 0 0)).setCell ⟨w.heap.size,1,none⟩ (.slice none 0 0)).setCell ⟨w.heap.size,2,none⟩ (.int .i64 0))):=vJ s9 (HM.out);have D:Blk (((wc.setCell ⟨w.heap.size,0,none⟩ (.slice none 0 0)).setCell ⟨w.heap.size,1,none⟩ (.slice none 0 0)).setCell ⟨w.heap.size,2,none⟩ (.int .i64 0)) w.heap.size 28 [.slice none 0 0,.slice none 0 0,.int .i64 0]:=Blk.put3 s9.z;obtain⟨d0,d1,d2⟩:=D.c3;clear D;go_wp2_with fail;refine zI1 (v:=.tuple #[.agg #[.slice none 0 0,.slice none 0 0,.int .i64 0],.int .i64 4]) A23 rfl HF.out
      | some x=>
       obtain⟨ex,Hj,_,_⟩:=dW Tr.symm;obtain⟨be,oe,am,cm,rfl,⟨r0,r1,r2⟩,_⟩:=aAn Ya.out Hj;have p2:=aB r2 s9.y;have Gd:x<n1:=by have:=(zC1.1 Hj).1;rw[HN1.out]at this;exact this
       have Iq:(x:Int)<(n1:Int):=A0;have Gg:¬((x:Int)<0):=A0;obtain⟨ge,Yy⟩:=HAV.out;have H6:=aIa l (some ⟨b,off,none⟩) n c av ne cv ex.pos wc (aX.below HL.out s9.y) HN.out h8 Qm.out.2 Lc.out HWA9.out Qq hv3 ge Yy;have HXF:Hid (iZ (kT l (l.length-1)) nV mG=some x/\ex.pos=((kT l (l.length-1)).ex[x]?.map Xp.pos).getD 0):=⟨by rw[HLO.out];exact Tr.symm,by rw[HLO.out,Hj];rfl⟩
       clear Tr Hj r0 r1 r2 Yy HWA9;simp only[qY];go_wp2_with fail;refine H6.mono ?_;rintro e w6 ⟨mv,wv,rs,rfl,Qs,him,Xt⟩;have s6:=s9.step Xt;have HWE:Hid (tB l w (.returned (.tuple #[.agg #[mv,wv,.int .i64 ex.pos],.int .i64 0])) (((w6.setCell ⟨w.heap.size,0,none⟩ mv).setCell ⟨w.heap.size,1,none⟩ wv).setCell ⟨w.heap.size,2,none⟩ (.int .i64 ex.pos))):=aNa HN.out s6 him s9.y.size Qs Qm.out HUo.out HG.out HXF.out.1 HXF.out.2;obtain⟨ma,mc,rfl,_⟩:=aH him.mrow.own;obtain⟨wa,wk,rfl,_⟩:=aH him.wrow.own;generalize (aM l n).length=lz at *;obtain⟨z0,z1,z2⟩:=s6.z.c3;have f0:=s6.z.free 0;have f1:=s6.z.free 1;have f2:=s6.z.free 2;have D:Blk (((w6.setCell ⟨w.heap.size,0,none⟩ (.slice ma rs.length mc)).setCell ⟨w.heap.size,1,none⟩ (.slice wa lz wk)).setCell ⟨w.heap.size,2,none⟩ (.int .i64 ex.pos)) w.heap.size 28 [.slice ma rs.length mc,.slice wa lz wk,.int .i64 ex.pos]:=Blk.put3 s6.z;obtain⟨x0,x1,x2⟩:=D.c3;clear D H6 s6 s9 him Xt Qs HXF;go_wp2_with fail;refine zI1 (v:=.tuple #[.agg #[.slice ma rs.length mc,.slice wa lz wk,.int .i64 ex.pos],.int .i64 0]) (by simp only[results,Tryz.results5];simp[go_sem,x0,x1,x2]) rfl HWE.out
    .
     have HNG:Hid (¬fV l l.length):=by rw[HN.out];exact hng
     clear hng Je s2;obtain⟨z0,z1,z2⟩:=s3.z.c3;have f0:=s3.z.free 0;have f1:=s3.z.free 1;have f2:=s3.z.free 2;have HF:Hid (tB l w (.returned (.tuple #[.agg #[.slice none 0 0,.slice none 0 0,.int .i64 0],.int .i64 3])) (((w3.setCell ⟨w.heap.size,0,none⟩ (.slice none 0 0)).setCell ⟨w.heap.size,1,none⟩ (.slice none 0 0)).setCell ⟨w.heap.size,2,none⟩ (.int .i64 0))):=vJ s3 (Lk.missing Qm.out HUo.out HNG.out);have D:Blk (((w3.setCell ⟨w.heap.size,0,none⟩ (.slice none 0 0)).setCell ⟨w.heap.size,1,none⟩ (.slice none 0 0)).setCell ⟨w.heap.size,2,none⟩ (.int .i64 0)) w.heap.size 28 [.slice none 0 0,.slice none 0 0,.int .i64 0]:=Blk.put3 s3.z;obtain⟨d0,d1,d2⟩:=D.c3;clear D;go_wp2_with fail;refine zI1 (v:=.tuple #[.agg #[.slice none 0 0,.slice none 0 0,.int .i64 0],.int .i64 3]) A23 rfl HF.out
 .
  rw[show(decide ((1:Int)<=(n:Int)) && decide ((n:Int)<=8))=false by simp;omega]at HR;have HNF:Hid (¬jF l):=fun hf=>h18 ⟨by rw[<-HN.out];exact hf.1.1,by rw[<-HN.out];exact hf.1.2⟩;go_wp2_with fail;refine HR.mono ?_;rintro e w0' ⟨rfl,rfl⟩;clear HR;obtain⟨z0,z1,z2⟩:=s0.z.c3;have f0:=s0.z.free 0;have f1:=s0.z.free 1;have f2:=s0.z.free 2;have HF:Hid (tB l w (.returned (.tuple #[.agg #[.slice none 0 0,.slice none 0 0,.int .i64 0],.int .i64 1])) (((w0'.setCell ⟨w.heap.size,0,none⟩ (.slice none 0 0)).setCell ⟨w.heap.size,1,none⟩ (.slice none 0 0)).setCell ⟨w.heap.size,2,none⟩ (.int .i64 0))):=vJ s0 (Lk.form HNF.out);have D:Blk (((w0'.setCell ⟨w.heap.size,0,none⟩ (.slice none 0 0)).setCell ⟨w.heap.size,1,none⟩ (.slice none 0 0)).setCell ⟨w.heap.size,2,none⟩ (.int .i64 0)) w.heap.size 28 [.slice none 0 0,.slice none 0 0,.int .i64 0]:=Blk.put3 s0.z;exact QA63
end Go.Proofs.YtcbhdhmhidpdgaaGreat

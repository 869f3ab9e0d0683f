import Derived.Test.YtcbhdhmhidpdgaaGreatDoorLkImg
import Derived.Test.YtcbhdhmhidpdgaaGreatDoorPackT
namespace Go.Proofs.YtcbhdhmhidpdgaaGreatDoor
open Go.RowKit
set_option linter.unusedVariables false
set_option linter.unusedSimpArgs false
set_option maxRecDepth 100000
theorem A21{p:Prop}(h:p:=by simp only[results,Tryz.results5];simp[go_sem,d0,d1,d2]):p:=h
theorem QA64{p:Prop}(h:p:=by
 obtain⟨d0,d1,d2⟩:=D.c3
 clear D
 go_wp2_with fail
 refine zI1 (v:=.tuple #[.agg #[.slice none 0 0,.slice none 0 0,.int .i64 0],.int .i64 1]) A21 rfl HF.out):p:=h
theorem M935{p q:Prop}(k:q)(h:Kx q->p:=by
 intro kQz
 try simp only[nrm]
 refine ta 7 ?_
 try simp only[nrm]
 exact kQz.o):p:=h ⟨k⟩
theorem M952{p q:Prop}(k:q)(h:Kx q->p:=by
 intro kQz
 try simp only[nrm]
 refine wpAnyH_ready (rs:=[6]) A1 A8 ?_
 exact kQz.o):p:=h ⟨k⟩
theorem M964{p q:Prop}(k:q)(h:Kx q->p:=by
 intro kQz
 try simp only[nrm]
 refine wpAnyH_ready (rs:=[2]) A1 A8 ?_
 exact kQz.o):p:=h ⟨k⟩
theorem eZ {W:World}{g:Nat}(h:MC W g):Calls Tryz.prog 19 #[.slice (some ⟨g,0,none⟩) 4 4,.slice none 0 0] W fun e w'=>e=.returned (.int .i64 kX)/\Below W.heap.size W w':=
 aBv (some ⟨g,0,none⟩) 4 4 nM none 0 0 [] W h.row (aK5 _) A0 A0
theorem aS6:Ent 14:=qV Tryz.func14 A1 rfl
theorem aPy:Ent 31:=qV Tryz.func31 A1 rfl
theorem aIn (l:List Oj)(a:Option Addr)(n c:Nat)(w:World)(h:aW w a c 5 (l.map Oj.fl))(hn:l.length=n)(Bg:∀o ∈ l,aO o.fl<=1048576):
  Calls Tryz.prog 13 #[.slice a n c,.func (.func 14) #[] #[]] w fun e w'=>∃r:Bool,e=.returned (.bool r)/\(r=true ↔ ∀o ∈ l,cU o.ob=true)/\w.grownBy w' none:=by
 refine(aFf 14 #[] none a n c (l.map Oj.fl) (fun j=>cU (mG l j).ob) (fun _ wr=>Below w.heap.size w wr) (fun _ _=>True) w ⟨aS6,fun j wr hi=>h.below hi, ?_, ?_⟩ A81 (zD2 _ _) (fun j w1 w2 hi hg=>hi.trans ((aA hg).mono hi.size)) (fun k e=>by cases e) aPy).mono ?_
 .
  exact QA108
 .
  intro j r wr vs hr hi Ak _;rw[zA2]at hr;obtain⟨x,hx,rfl⟩:=zF0.1 hr;have hl:=Ak.len
  match vs,hl with
  | [v0,v1,v2,v3,v4],_=>
   have H:=sA ⟨v0,v1,v2,v3,v4⟩ x.ob wr (yT Ak) (by rw[aI8];exact Bg x (zA3 hx));refine H.mono ?_;rintro e w' ⟨rfl,hb⟩;rw[cA hx];exact⟨rfl,aM hb none,fun _=>hi.trans (hb.mono hi.size),fun _=>trivial⟩
 .
  rintro e w' ⟨r,rfl,hg,ht⟩;refine⟨r,rfl, ?_,hg⟩;rw[yB ht,zF3];constructor
  .
   intro Bj o ho;obtain⟨i,hi,rfl⟩:=List.mem_iff_getElem.1 ho;have:=Bj i (by rw[List.mem_range,<-hn];exact hi);rwa [cA (zA0 hi)]at this
  .
   intro Bj j hj;have Gs:j<l.length:=by rw[hn];simpa using hj
   rw[cA (zA0 Gs)];exact Bj _ (List.getElem_mem Gs)
theorem aMg {l:List Oj}{w w6:World}{lo n x:Nat}{mv wv:Value}{rs:List (Value × Rg)}{s:Int}(hn:l.length=n)(z:S0 w w6)(im:Im w6 lo w6.heap.size w6.heap.size mv wv rs (bU l n))(Ki:w.heap.size<=lo)(Qf:(rs.map fun x=>x.2)=fY l n)(hf:kZ l)(hu:aCo l)(hg:jM l n)(hx:gQ (mG l (l.length-1)) nM kX=some x)(hs:s=((mG l (l.length-1)).ex[x]?.map Xp.pos).getD 0):
  sU l w (.returned (.tuple #[.agg #[mv,wv,.int .i64 s],.int .i64 0])) (((w6.setCell ⟨w.heap.size,0,none⟩ mv).setCell ⟨w.heap.size,1,none⟩ wv).setCell ⟨w.heap.size,2,none⟩ (.int .i64 s)):=by
 subst hn;have i2:=im.put (i:=0) (v:=mv) z.z A6 A6 (.inl A6);have y2:=z.z.set (i:=0) mv;have i3:=i2.put (i:=1) (v:=wv) y2 A6 A6 (.inl A6);have y3:=y2.set (i:=1) wv;have i4:=i3.put (i:=2) (v:=.int .i64 s) y3 A6 A6 (.inl A6);have Bg:(((w6.setCell ⟨w.heap.size,0,none⟩ mv).setCell ⟨w.heap.size,1,none⟩ wv).setCell ⟨w.heap.size,2,none⟩ (.int .i64 s)).heap.size=w6.heap.size:=by simp
 refine⟨mv,wv,rs,bU l l.length,s,0,rfl, ?_,by rw[Bg];exact i4.wide Ki (zB0 _) (zB0 _),nB z.y (zB0 _)⟩;unfold aGw;rw[Qf,hs];exact Lk.well x hf hu hg hx
set_option maxHeartbeats 16000000 in
theorem sB (l:List Oj)(a:Option Addr)(c:Nat)(w:World)(h:aW w a c 5 (l.map Oj.fl))(Bg:∀o ∈ l,aO o.fl<=1048576):
  Calls Tryz.prog 5 #[.slice a l.length c] w (sU l w):=by
 have Df:=h.len9;have Qr:=h.cap;rw[zB2]at Df Qr;obtain⟨n,hN⟩:=zx (l.length);have HN:Hid (l.length=n):=hN.symm;rw[<-hN]at Df Qr ⊢;have HL:Hid (aW w a c 5 (l.map Oj.fl)):=h;have HS:Hid (∀o ∈ l,aO o.fl<=1048576):=Bg;have s0:=S0.start w;clear h Bg hN;go_enter Tryz.func5,Tryz.ntmps5;go_upto_region 1 with fail;generalize w.alloc (.cells #[.slice none 0 0,.slice none 0 0,.int .i64 0] 28 (0,0))=w0 at *;have HR:=iI (n:Int) 1 8 w0;by_cases h18:1<=n/\n<=8
 .
  rw[show(decide ((1:Int)<=(n:Int)) && decide ((n:Int)<=8))=true by simp;omega]at HR;have H1:=aIn l a n c w0 (aW.below HL.out s0.y) HN.out HS.out;obtain⟨h1,h8⟩:=h18;go_wp2_with fail;refine HR.mono ?_;rintro e w0' ⟨rfl,rfl⟩;go_wp2_with fail;refine H1.mono ?_;rintro e w1 ⟨r,rfl,hr,hg1⟩;have s1:=s0.step (aA hg1);have HRI:Hid (r=true ↔ ∀o ∈ l,cU o.ob=true):=hr;clear s0 HR H1 hg1 hr;cases r
  .
   have HNF:Hid (¬kZ l):=fun hf=>by have:=HRI.out.2 hf.2;cases this
   obtain⟨z0,z1,z2⟩:=s1.z.c3;have f0:=s1.z.free 0;have f1:=s1.z.free 1;have f2:=s1.z.free 2;have HF:Hid (sU l w (.returned (.tuple #[.agg #[.slice none 0 0,.slice none 0 0,.int .i64 0],.int .i64 1])) (((w1.setCell ⟨w.heap.size,0,none⟩ (.slice none 0 0)).setCell ⟨w.heap.size,1,none⟩ (.slice none 0 0)).setCell ⟨w.heap.size,2,none⟩ (.int .i64 0))):=uX s1 (Lk.form HNF.out);have D:Blk (((w1.setCell ⟨w.heap.size,0,none⟩ (.slice none 0 0)).setCell ⟨w.heap.size,1,none⟩ (.slice none 0 0)).setCell ⟨w.heap.size,2,none⟩ (.int .i64 0)) w.heap.size 28 [.slice none 0 0,.slice none 0 0,.int .i64 0]:=Blk.put3 s1.z;exact QA64
  .
   have Py:Hid (kZ l):=⟨⟨by rw[HN.out];exact h1,by rw[HN.out];exact h8⟩,HRI.out.1 rfl⟩
   clear HRI;obtain⟨b,off,rfl⟩:=aW.addr HL.out A59;have HC:Hid _:=lQ HL.out HN.out;have H2:=tA aVm _ c l n w1 HN.out (aW.below HL.out s1.y);go_wp2_with fail;refine H2.mono ?_;rintro e w2 ⟨rfl,hg2⟩;have s2:=s1.step (aA hg2);clear s1 H2 hg2;cases hu:lK (l.map Oj.name)
   .
    have HNU:Hid (¬aCo l):=fun h=>by have:=rB.2 h;rw[hu]at this;cases this
    clear hu;obtain⟨z0,z1,z2⟩:=s2.z.c3;have f0:=s2.z.free 0;have f1:=s2.z.free 1;have f2:=s2.z.free 2;have HF:Hid (sU l w (.returned (.tuple #[.agg #[.slice none 0 0,.slice none 0 0,.int .i64 0],.int .i64 2])) (((w2.setCell ⟨w.heap.size,0,none⟩ (.slice none 0 0)).setCell ⟨w.heap.size,1,none⟩ (.slice none 0 0)).setCell ⟨w.heap.size,2,none⟩ (.int .i64 0))):=uX s2 (Lk.name Py.out HNU.out);have D:Blk (((w2.setCell ⟨w.heap.size,0,none⟩ (.slice none 0 0)).setCell ⟨w.heap.size,1,none⟩ (.slice none 0 0)).setCell ⟨w.heap.size,2,none⟩ (.int .i64 0)) w.heap.size 28 [.slice none 0 0,.slice none 0 0,.int .i64 0]:=Blk.put3 s2.z;obtain⟨d0,d1,d2⟩:=D.c3;clear D;go_wp2_with fail;refine zI1 (v:=.tuple #[.agg #[.slice none 0 0,.slice none 0 0,.int .i64 0],.int .i64 2]) A21 rfl HF.out
   .
    have HUo:Hid (aCo l):=rB.1 hu;clear hu;have H3:=aCc l _ n c w2 (aW.below HL.out s2.y) HN.out h8 HUo.out Py.out.2;go_wp2_with fail;refine H3.mono ?_;rintro e w3 ⟨Iz,hh⟩;have s3:=s2.step Iz;clear H3;rcases hh with⟨ev,rfl,hgood,Au⟩|⟨rfl,hng⟩
    .
     have HG:Hid (jM l n):=hgood;obtain⟨ne,Ae⟩:=zx ((aT l n).length);have Kr:Hid ((aT l n).length=ne):=Ae.symm;rw[<-Ae]at Au;obtain⟨av,cv,rfl,Qd,Tv,hv3,hv4⟩:=aH Au;have HWA:Hid (WAt w3 av (aT l n)):=by
      intro hp;rw[Kr.out]at hp;obtain⟨g,rfl⟩:=hv4 hp;exact⟨g,0,rfl,fun i v hv=>by rw[zJ0];exact dL Au i v hv⟩
     have HAV:Hid (∃ge,av=none\/∃o,av=some ⟨ge,o,none⟩):=by
      rcases Au.2 with⟨e,_⟩|⟨g,cap,cur,e,_⟩
      .
       simp only[Value.slice.injEq]at e;exact⟨0,.inl e.1⟩
      .
       simp only[Value.slice.injEq]at e;exact⟨g,.inr ⟨0,e.1⟩⟩
     clear hgood Au Ae Tv hv4 Iz s2;obtain⟨q,hq⟩:∃q,n=q+1:=⟨n-1,by omega⟩
     obtain⟨o,v0,v1,v2,v3,v4,ho,hv,c0,c1,c2,c3,c4⟩:=HC.out q A0;have HLO:Hid (mG l (l.length-1)=o):=aK0 HN.out hq ho;have y:=s3.y;have b0:=aB c0 y;have b1:=aB c1 y;have b2:=aB c2 y;have b3:=aB c3 y;have b4:=aB c4 y;have Gd:(n:Int)-1=(q:Int):=A0;have hq0:(0:Int)<=(q:Int):=A0;have hqn:(q:Int)<(n:Int):=A0;have hwq:IntKind.i64.wrap (q:Int)=(q:Int):=aFt A0;clear hq;have HV:Hid (aL w o.fl [v0,v1,v2,v3,v4]):=hv;obtain⟨a0,e0,a1,e1,a2,e2,a4,e4,rfl,rfl,rfl,rfl,rfl,_,Tl,_⟩:=kJ hv;have HL1:Hid (aW w a1 e1 3 (o.ex.map Xp.fl)):=Tl;obtain⟨hn1,_,_,_,_,hue,_⟩:=dE (Py.out.2 o (zA3 ho));have HXP:Hid (∀(W:World) (gA:Nat),Below w.heap.size w W->MC W gA->Calls Tryz.prog 18 #[.agg #[.slice a0 o.name.length e0,.slice a1 o.ex.length e1,.slice a2 o.im.length e2,.int .i64 o.data,.slice a4 o.code.length e4],.slice (some ⟨gA,0,none⟩) 4 4,.int .i64 kX] W fun e w'=>e=.returned (.int .i64 (qO (gQ o nM kX)))/\Below W.heap.size W w'):=by
      intro W gA hb hm;refine(nF o _ _ _ _ _ W (aL.below HV.out hb) hue (some ⟨gA,0,none⟩) 4 4 nM hm.row kX).mono ?_;rintro e w' ⟨rfl,hg⟩;exact⟨rfl,aA hg⟩
     generalize o.name.length=n0 at *;obtain⟨n1,hn1'⟩:∃z,z=o.ex.length:=⟨_,rfl⟩
     rw[<-hn1']at HXP hn1 b1;have HN1:Hid (o.ex.length=n1):=hn1'.symm;generalize o.im.length=n2 at *;generalize o.code.length=n4 at *;generalize o.data=dt at *;clear hv Tl c0 c1 c2 c3 c4 hn1' ho hue;have bO:Below w3.heap.size w3 (w3.alloc (.cells #[.slice a0 n0 e0,.slice a1 n1 e1,.slice a2 n2 e2,.int .i64 dt,.slice a4 n4 e4] 39 (0,0))):=(zD2 _ _).alloc (zB0 _) _;have oB:=Blk.new w3 39 [.slice a0 n0 e0,.slice a1 n1 e1,.slice a2 n2 e2,.int .i64 dt,.slice a4 n4 e4];have s4:=s3.step bO;have HWA4:=hid (HWA.out.below bO);simp only[List.toArray]at oB;clear s3 y bO HWA;go_upto_region 9 with fail;generalize w3.alloc (.cells #[.slice a0 n0 e0,.slice a1 n1 e1,.slice a2 n2 e2,.int .i64 dt,.slice a4 n4 e4] 39 (0,0))=wr at *;generalize w3.heap.size=gO at *;clear b0 b1 b2 b3 b4;have Kq:Hid (∀(W:World) (gA:Nat),Below wr.heap.size wr W->MC W gA->Calls Tryz.prog 18 #[.agg #[.slice a0 n0 e0,.slice a1 n1 e1,.slice a2 n2 e2,.int .i64 dt,.slice a4 n4 e4],.slice (some ⟨gA,0,none⟩) 4 4,.int .i64 kX] W fun e w'=>e=.returned (.int .i64 (qO (gQ o nM kX)))/\Below W.heap.size W w'):=fun W gA hb hm=>HXP.out W gA (s4.y.trans (hb.mono s4.y.size)) hm;have HK9:Hid (∀{wl:World},Below wr.heap.size wr wl->(wl.cell? ⟨gO,0,none⟩=some (.slice a0 n0 e0)/\wl.cell? ⟨gO,1,none⟩=some (.slice a1 n1 e1)/\wl.cell? ⟨gO,2,none⟩=some (.slice a2 n2 e2)/\wl.cell? ⟨gO,3,none⟩=some (.int .i64 dt)/\wl.cell? ⟨gO,4,none⟩=some (.slice a4 n4 e4))):=
      fun hb=>⟨aB (oB.k 0) hb,aB (oB.k 1) hb,aB (oB.k 2) hb,aB (oB.k 3) hb,aB (oB.k 4) hb⟩
     go_cut [7] from 36 to 43 (fun s7 wz=>s7=.int .i64 (qO (gQ o nM kX))/\Hid (Below wr.heap.size wr wz))
     case first=>
      have Bi:Hid (∀{wl:World},Below wr.heap.size wr wl->(wl.cell? ⟨gO,0,none⟩=some (.slice a0 n0 e0)/\wl.cell? ⟨gO,1,none⟩=some (.slice a1 n1 e1)/\wl.cell? ⟨gO,2,none⟩=some (.slice a2 n2 e2)/\wl.cell? ⟨gO,3,none⟩=some (.int .i64 dt)/\wl.cell? ⟨gO,4,none⟩=some (.slice a4 n4 e4))):=HK9;have Gv:Below wr.heap.size wr wr.drew:=(zD2 _ _).drew;refine zJ3 (S:=fun wl=>(wl.cell? ⟨gO,0,none⟩=some (.slice a0 n0 e0)/\wl.cell? ⟨gO,1,none⟩=some (.slice a1 n1 e1)/\wl.cell? ⟨gO,2,none⟩=some (.slice a2 n2 e2)/\wl.cell? ⟨gO,3,none⟩=some (.int .i64 dt)/\wl.cell? ⟨gO,4,none⟩=some (.slice a4 n4 e4))) A1 (Bi.out Gv) (fun Aa=>?_);generalize wr.drew=wS at Gv Aa ⊢;refine ta 0 ?_;try simp only[nrm]
      refine wpAnyH_ready (rs:=[1,3]) A1 A8 ?_;refine AllReadyH.cons (i:=1) (o:=?o101) ?i101 ?g101 (AllReadyH.cons (i:=3) (o:=?o102) ?i102 ?g102 AllReadyH.nil)
      case i101=>exact rfl
      case i102=>exact rfl
      case g101=>
       intro K hK;go_simp;have hb101:Below wS.heap.size wS (wS.alloc (.cells #[.int .u8 109,.int .u8 97,.int .u8 105,.int .u8 110] 5)):=(zD2 _ _).alloc (zB0 _) _;have mA:=Blk.new wS 5 [.int .u8 109,.int .u8 97,.int .u8 105,.int .u8 110];simp only[List.toArray]at mA;have Qo:wr.heap.size<=wS.heap.size:=Gv.size;have Ll:=Gv.trans (hb101.mono Gv.size);have hS101:=Bi.out Ll;refine hK.out _ _ hS101 (fun Aa=>?_);clear hK K;try simp only[nrm]
       clear hb101;generalize wS.alloc (.cells #[.int .u8 109,.int .u8 97,.int .u8 105,.int .u8 110] 5)=Ii at *;generalize wS.heap.size=gA at *;refine wpAnyH_ready (rs:=[2,3]) A1 A8 ?_;refine AllReadyH.cons (i:=2) (o:=?o103) ?i103 ?g103 (AllReadyH.cons (i:=3) (o:=?o104) ?i104 ?g104 AllReadyH.nil)
       case i103=>exact rfl
       case i104=>exact rfl
       case g103=>
        intro K hK;have kc:=cP (n:=4) (c:=4) mA;go_simp;have Pq:Below wr.heap.size wr (Ii.freeze ⟨gA,4,none⟩ 1):=cN Ll Qo;have kA:MC (Ii.freeze ⟨gA,4,none⟩ 1) gA:=MC.frz mA;have hS103:=Bi.out Pq;refine hK.out _ _ hS103 (fun Aa=>?_);clear hK K kc mA;try simp only[nrm]
        generalize Ii.freeze ⟨gA,4,none⟩ 1=Kc at *;refine wpAnyH_ready (rs:=[3]) A1 A8 ?_;refine AllReadyH.cons (i:=3) (o:=?o105) ?i105 ?g105 AllReadyH.nil
        case i105=>exact rfl
        case g105=>
         intro K hK;go_simp;have Uz:Below Kc.heap.size Kc (Kc.alloc (.cells #[.int .u8 109,.int .u8 97,.int .u8 105,.int .u8 110] 5)):=(zD2 _ _).alloc (zB0 _) _;have mB:=Blk.new Kc 5 [.int .u8 109,.int .u8 97,.int .u8 105,.int .u8 110];simp only[List.toArray]at mB;have Te:wr.heap.size<=Kc.heap.size:=Pq.size;have Ae:gA ≠ Kc.heap.size:=Nat.ne_of_lt (zI2 Kc _ (kA 0 _ rfl));replace kA:=kA.below Uz;have hB105:=Pq.trans (Uz.mono Pq.size);have hS105:=Bi.out hB105;refine hK.out _ _ hS105 (fun Aa=>?_);clear hK K;try simp only[nrm]
         clear Uz;generalize Kc.alloc (.cells #[.int .u8 109,.int .u8 97,.int .u8 105,.int .u8 110] 5)=V105 at *;generalize Kc.heap.size=gB at *;refine wpAnyH_ready (rs:=[4]) A1 A8 ?_;refine AllReadyH.cons (i:=4) (o:=?o106) ?i106 ?g106 AllReadyH.nil
         case i106=>exact rfl
         case g106=>
          intro K hK;have kc:=cP (n:=4) (c:=4) mB;go_simp;have Vo:Below wr.heap.size wr (V105.freeze ⟨gB,4,none⟩ 1):=cN hB105 Te;have kB:MC (V105.freeze ⟨gB,4,none⟩ 1) gB:=MC.frz mB;replace kA:=kA.frzO (k:=4) (show gA ≠ gB by omega);have hS106:=Bi.out Vo;refine hK.out _ _ hS106 (fun Aa=>?_);clear hK K kc mB;try simp only[nrm]
          generalize V105.freeze ⟨gB,4,none⟩ 1=V106 at *;refine wpAnyH_ready (rs:=[5]) A1 A8 ?_;refine AllReadyH.cons (i:=5) (o:=?o107) ?i107 ?g107 AllReadyH.nil
          case i107=>exact rfl
          case g107=>
           intro K hK;go_simp
           (with_reducible refine(eZ kB).mono ?_)
           rintro e V107 ⟨rfl,Ow⟩;replace kA:=kA.below Ow;replace kB:=kB.below Ow;have Pp:=Vo.trans (Ow.mono Vo.size);have hS107:=Bi.out Pp;go_wp2_with fail;refine hK.out _ _ hS107 (fun Aa=>?_);clear hK K Ow;refine M952 ?_;refine AllReadyH.cons (i:=6) (o:=?o108) ?i108 ?g108 AllReadyH.nil
           case i108=>exact rfl
           case g108=>
            intro K hK;go_simp
            (with_reducible refine(Kq.out V107 gA Pp kA).mono ?_)
            rintro e V108 ⟨rfl,hb108⟩;have hB108:=Pp.trans (hb108.mono Pp.size);have hS108:=Bi.out hB108;go_wp2_with fail;refine hK.out _ _ hS108 (fun Aa=>?_);clear hK K hb108;refine M935 ?_;refine zK0 A1 ?_ _;go_wp2_with fail;go_meet
            case rel=>exact⟨rfl,hB108⟩
       case g104=>
        intro K hK;go_simp;have Vb:Below Ii.heap.size Ii (Ii.alloc (.cells #[.int .u8 109,.int .u8 97,.int .u8 105,.int .u8 110] 5)):=(zD2 _ _).alloc (zB0 _) _;have mB:=Blk.new Ii 5 [.int .u8 109,.int .u8 97,.int .u8 105,.int .u8 110];simp only[List.toArray]at mB;have Te:wr.heap.size<=Ii.heap.size:=Ll.size;have Ae:gA ≠ Ii.heap.size:=Nat.ne_of_lt mA.lt;replace mA:=mA.below Vb mA.lt;have Vp:=Ll.trans (Vb.mono Ll.size);have hS104:=Bi.out Vp;refine hK.out _ _ hS104 (fun Aa=>?_);clear hK K;try simp only[nrm]
        clear Vb;generalize Ii.alloc (.cells #[.int .u8 109,.int .u8 97,.int .u8 105,.int .u8 110] 5)=Qv at *;generalize Ii.heap.size=gB at *;refine wpAnyH_ready (rs:=[2,4]) A1 A8 ?_;refine AllReadyH.cons (i:=2) (o:=?o110) ?i110 ?g110 (AllReadyH.cons (i:=4) (o:=?o111) ?i111 ?g111 AllReadyH.nil)
        case i110=>exact rfl
        case i111=>exact rfl
        case g110=>
         intro K hK;have kc:=cP (n:=4) (c:=4) mA;go_simp;have hB110:Below wr.heap.size wr (Qv.freeze ⟨gA,4,none⟩ 1):=cN Vp Qo;have kA:MC (Qv.freeze ⟨gA,4,none⟩ 1) gA:=MC.frz mA;replace mB:=mB.frzO (k:=4) (show gB ≠ gA by omega);have hS110:=Bi.out hB110;refine hK.out _ _ hS110 (fun Aa=>?_);clear hK K kc mA;try simp only[nrm]
         generalize Qv.freeze ⟨gA,4,none⟩ 1=V110 at *;refine wpAnyH_ready (rs:=[4]) A1 A8 ?_;refine AllReadyH.cons (i:=4) (o:=?o112) ?i112 ?g112 AllReadyH.nil
         case i112=>exact rfl
         case g112=>
          intro K hK;have kc:=cP (n:=4) (c:=4) mB;go_simp;have Vn:Below wr.heap.size wr (V110.freeze ⟨gB,4,none⟩ 1):=cN hB110 Te;have kB:MC (V110.freeze ⟨gB,4,none⟩ 1) gB:=MC.frz mB;replace kA:=kA.frzO (k:=4) (show gA ≠ gB by omega);have hS112:=Bi.out Vn;refine hK.out _ _ hS112 (fun Aa=>?_);clear hK K kc mB;try simp only[nrm]
          generalize V110.freeze ⟨gB,4,none⟩ 1=V112 at *;refine wpAnyH_ready (rs:=[5]) A1 A8 ?_;refine AllReadyH.cons (i:=5) (o:=?o113) ?i113 ?g113 AllReadyH.nil
          case i113=>exact rfl
          case g113=>
           intro K hK;go_simp
           (with_reducible refine(eZ kB).mono ?_)
           rintro e V113 ⟨rfl,Ov⟩;replace kA:=kA.below Ov;replace kB:=kB.below Ov;have Pn:=Vn.trans (Ov.mono Vn.size);have hS113:=Bi.out Pn;go_wp2_with fail;refine hK.out _ _ hS113 (fun Aa=>?_);clear hK K Ov;refine M952 ?_;refine AllReadyH.cons (i:=6) (o:=?o114) ?i114 ?g114 AllReadyH.nil
           case i114=>exact rfl
           case g114=>
            intro K hK;go_simp
            (with_reducible refine(Kq.out V113 gA Pn kA).mono ?_)
            rintro e V114 ⟨rfl,hb114⟩;have hB114:=Pn.trans (hb114.mono Pn.size);have hS114:=Bi.out hB114;go_wp2_with fail;refine hK.out _ _ hS114 (fun Aa=>?_);clear hK K hb114;refine M935 ?_;refine zK0 A1 ?_ _;go_wp2_with fail;go_meet
            case rel=>exact⟨rfl,hB114⟩
        case g111=>
         intro K hK;have kc:=cP (n:=4) (c:=4) mB;go_simp;have Po:Below wr.heap.size wr (Qv.freeze ⟨gB,4,none⟩ 1):=cN Vp Te;have kB:MC (Qv.freeze ⟨gB,4,none⟩ 1) gB:=MC.frz mB;replace mA:=mA.frzO (k:=4) (show gA ≠ gB by omega);have hS111:=Bi.out Po;refine hK.out _ _ hS111 (fun Aa=>?_);clear hK K kc mB;try simp only[nrm]
         generalize Qv.freeze ⟨gB,4,none⟩ 1=V111 at *;refine wpAnyH_ready (rs:=[2,5]) A1 A8 ?_;refine AllReadyH.cons (i:=2) (o:=?o116) ?i116 ?g116 (AllReadyH.cons (i:=5) (o:=?o117) ?i117 ?g117 AllReadyH.nil)
         case i116=>exact rfl
         case i117=>exact rfl
         case g116=>
          intro K hK;have kc:=cP (n:=4) (c:=4) mA;go_simp;have Vm:Below wr.heap.size wr (V111.freeze ⟨gA,4,none⟩ 1):=cN Po Qo;have kA:MC (V111.freeze ⟨gA,4,none⟩ 1) gA:=MC.frz mA;replace kB:=kB.frzO (k:=4) (show gB ≠ gA by omega);have hS116:=Bi.out Vm;refine hK.out _ _ hS116 (fun Aa=>?_);clear hK K kc mA;try simp only[nrm]
          generalize V111.freeze ⟨gA,4,none⟩ 1=V116 at *;refine wpAnyH_ready (rs:=[5]) A1 A8 ?_;refine AllReadyH.cons (i:=5) (o:=?o118) ?i118 ?g118 AllReadyH.nil
          case i118=>exact rfl
          case g118=>
           intro K hK;go_simp
           (with_reducible refine(eZ kB).mono ?_)
           rintro e V118 ⟨rfl,Ot⟩;replace kA:=kA.below Ot;replace kB:=kB.below Ot;have Pm:=Vm.trans (Ot.mono Vm.size);have hS118:=Bi.out Pm;go_wp2_with fail;refine hK.out _ _ hS118 (fun Aa=>?_);clear hK K Ot;refine M952 ?_;refine AllReadyH.cons (i:=6) (o:=?o119) ?i119 ?g119 AllReadyH.nil
           case i119=>exact rfl
           case g119=>
            intro K hK;go_simp
            (with_reducible refine(Kq.out V118 gA Pm kA).mono ?_)
            rintro e V119 ⟨rfl,hb119⟩;have hB119:=Pm.trans (hb119.mono Pm.size);have hS119:=Bi.out hB119;go_wp2_with fail;refine hK.out _ _ hS119 (fun Aa=>?_);clear hK K hb119;refine M935 ?_;refine zK0 A1 ?_ _;go_wp2_with fail;go_meet
            case rel=>exact⟨rfl,hB119⟩
         case g117=>
          intro K hK;go_simp
          (with_reducible refine(eZ kB).mono ?_)
          rintro e V117 ⟨rfl,Ou⟩;replace mA:=mA.below Ou mA.lt;replace kB:=kB.below Ou;have hB117:=Po.trans (Ou.mono Po.size);have hS117:=Bi.out hB117;go_wp2_with fail;refine hK.out _ _ hS117 (fun Aa=>?_);clear hK K Ou;refine M964 ?_;refine AllReadyH.cons (i:=2) (o:=?o121) ?i121 ?g121 AllReadyH.nil
          case i121=>exact rfl
          case g121=>
           intro K hK;have kc:=cP (n:=4) (c:=4) mA;go_simp;have Pk:Below wr.heap.size wr (V117.freeze ⟨gA,4,none⟩ 1):=cN hB117 Qo;have kA:MC (V117.freeze ⟨gA,4,none⟩ 1) gA:=MC.frz mA;replace kB:=kB.frzO (k:=4) (show gB ≠ gA by omega);have hS121:=Bi.out Pk;refine hK.out _ _ hS121 (fun Aa=>?_);clear hK K kc mA;try simp only[nrm]
           generalize V117.freeze ⟨gA,4,none⟩ 1=V121 at *;refine wpAnyH_ready (rs:=[6]) A1 A8 ?_;refine AllReadyH.cons (i:=6) (o:=?o122) ?i122 ?g122 AllReadyH.nil
           case i122=>exact rfl
           case g122=>
            intro K hK;go_simp
            (with_reducible refine(Kq.out V121 gA Pk kA).mono ?_)
            rintro e V122 ⟨rfl,hb122⟩;have hB122:=Pk.trans (hb122.mono Pk.size);have hS122:=Bi.out hB122;go_wp2_with fail;refine hK.out _ _ hS122 (fun Aa=>?_);clear hK K hb122;refine M935 ?_;refine zK0 A1 ?_ _;go_wp2_with fail;go_meet
            case rel=>exact⟨rfl,hB122⟩
      case g102=>
       intro K hK;go_simp;have hb102:Below wS.heap.size wS (wS.alloc (.cells #[.int .u8 109,.int .u8 97,.int .u8 105,.int .u8 110] 5)):=(zD2 _ _).alloc (zB0 _) _;have mB:=Blk.new wS 5 [.int .u8 109,.int .u8 97,.int .u8 105,.int .u8 110];simp only[List.toArray]at mB;have Te:wr.heap.size<=wS.heap.size:=Gv.size;have Lj:=Gv.trans (hb102.mono Gv.size);have hS102:=Bi.out Lj;refine hK.out _ _ hS102 (fun Aa=>?_);clear hK K;try simp only[nrm]
       clear hb102;generalize wS.alloc (.cells #[.int .u8 109,.int .u8 97,.int .u8 105,.int .u8 110] 5)=Ih at *;generalize wS.heap.size=gB at *;refine wpAnyH_ready (rs:=[1,4]) A1 A8 ?_;refine AllReadyH.cons (i:=1) (o:=?o124) ?i124 ?g124 (AllReadyH.cons (i:=4) (o:=?o125) ?i125 ?g125 AllReadyH.nil)
       case i124=>exact rfl
       case i125=>exact rfl
       case g124=>
        intro K hK;go_simp;have Uy:Below Ih.heap.size Ih (Ih.alloc (.cells #[.int .u8 109,.int .u8 97,.int .u8 105,.int .u8 110] 5)):=(zD2 _ _).alloc (zB0 _) _;have mA:=Blk.new Ih 5 [.int .u8 109,.int .u8 97,.int .u8 105,.int .u8 110];simp only[List.toArray]at mA;have Qo:wr.heap.size<=Ih.heap.size:=Lj.size;have Ae:gB ≠ Ih.heap.size:=Nat.ne_of_lt mB.lt;replace mB:=mB.below Uy mB.lt;have Vk:=Lj.trans (Uy.mono Lj.size);have hS124:=Bi.out Vk;refine hK.out _ _ hS124 (fun Aa=>?_);clear hK K;try simp only[nrm]
        clear Uy;generalize Ih.alloc (.cells #[.int .u8 109,.int .u8 97,.int .u8 105,.int .u8 110] 5)=Qu at *;generalize Ih.heap.size=gA at *;refine wpAnyH_ready (rs:=[2,4]) A1 A8 ?_;refine AllReadyH.cons (i:=2) (o:=?o126) ?i126 ?g126 (AllReadyH.cons (i:=4) (o:=?o127) ?i127 ?g127 AllReadyH.nil)
        case i126=>exact rfl
        case i127=>exact rfl
        case g126=>
         intro K hK;have kc:=cP (n:=4) (c:=4) mA;go_simp;have hB126:Below wr.heap.size wr (Qu.freeze ⟨gA,4,none⟩ 1):=cN Vk Qo;have kA:MC (Qu.freeze ⟨gA,4,none⟩ 1) gA:=MC.frz mA;replace mB:=mB.frzO (k:=4) (show gB ≠ gA by omega);have hS126:=Bi.out hB126;refine hK.out _ _ hS126 (fun Aa=>?_);clear hK K kc mA;try simp only[nrm]
         generalize Qu.freeze ⟨gA,4,none⟩ 1=V126 at *;refine wpAnyH_ready (rs:=[4]) A1 A8 ?_;refine AllReadyH.cons (i:=4) (o:=?o128) ?i128 ?g128 AllReadyH.nil
         case i128=>exact rfl
         case g128=>
          intro K hK;have kc:=cP (n:=4) (c:=4) mB;go_simp;have Vj:Below wr.heap.size wr (V126.freeze ⟨gB,4,none⟩ 1):=cN hB126 Te;have kB:MC (V126.freeze ⟨gB,4,none⟩ 1) gB:=MC.frz mB;replace kA:=kA.frzO (k:=4) (show gA ≠ gB by omega);have hS128:=Bi.out Vj;refine hK.out _ _ hS128 (fun Aa=>?_);clear hK K kc mB;try simp only[nrm]
          generalize V126.freeze ⟨gB,4,none⟩ 1=V128 at *;refine wpAnyH_ready (rs:=[5]) A1 A8 ?_;refine AllReadyH.cons (i:=5) (o:=?o129) ?i129 ?g129 AllReadyH.nil
          case i129=>exact rfl
          case g129=>
           intro K hK;go_simp
           (with_reducible refine(eZ kB).mono ?_)
           rintro e V129 ⟨rfl,Oq⟩;replace kA:=kA.below Oq;replace kB:=kB.below Oq;have Pi:=Vj.trans (Oq.mono Vj.size);have hS129:=Bi.out Pi;go_wp2_with fail;refine hK.out _ _ hS129 (fun Aa=>?_);clear hK K Oq;refine M952 ?_;refine AllReadyH.cons (i:=6) (o:=?o130) ?i130 ?g130 AllReadyH.nil
           case i130=>exact rfl
           case g130=>
            intro K hK;go_simp
            (with_reducible refine(Kq.out V129 gA Pi kA).mono ?_)
            rintro e V130 ⟨rfl,hb130⟩;have hB130:=Pi.trans (hb130.mono Pi.size);have hS130:=Bi.out hB130;go_wp2_with fail;refine hK.out _ _ hS130 (fun Aa=>?_);clear hK K hb130;refine M935 ?_;refine zK0 A1 ?_ _;go_wp2_with fail;go_meet
            case rel=>exact⟨rfl,hB130⟩
        case g127=>
         intro K hK;have kc:=cP (n:=4) (c:=4) mB;go_simp;have Pj:Below wr.heap.size wr (Qu.freeze ⟨gB,4,none⟩ 1):=cN Vk Te;have kB:MC (Qu.freeze ⟨gB,4,none⟩ 1) gB:=MC.frz mB;replace mA:=mA.frzO (k:=4) (show gA ≠ gB by omega);have hS127:=Bi.out Pj;refine hK.out _ _ hS127 (fun Aa=>?_);clear hK K kc mB;try simp only[nrm]
         generalize Qu.freeze ⟨gB,4,none⟩ 1=V127 at *;refine wpAnyH_ready (rs:=[2,5]) A1 A8 ?_;refine AllReadyH.cons (i:=2) (o:=?o132) ?i132 ?g132 (AllReadyH.cons (i:=5) (o:=?o133) ?i133 ?g133 AllReadyH.nil)
         case i132=>exact rfl
         case i133=>exact rfl
         case g132=>
          intro K hK;have kc:=cP (n:=4) (c:=4) mA;go_simp;have Vi:Below wr.heap.size wr (V127.freeze ⟨gA,4,none⟩ 1):=cN Pj Qo;have kA:MC (V127.freeze ⟨gA,4,none⟩ 1) gA:=MC.frz mA;replace kB:=kB.frzO (k:=4) (show gB ≠ gA by omega);have hS132:=Bi.out Vi;refine hK.out _ _ hS132 (fun Aa=>?_);clear hK K kc mA;try simp only[nrm]
          generalize V127.freeze ⟨gA,4,none⟩ 1=V132 at *;refine wpAnyH_ready (rs:=[5]) A1 A8 ?_;refine AllReadyH.cons (i:=5) (o:=?o134) ?i134 ?g134 AllReadyH.nil
          case i134=>exact rfl
          case g134=>
           intro K hK;go_simp
           (with_reducible refine(eZ kB).mono ?_)
           rintro e V134 ⟨rfl,On⟩;replace kA:=kA.below On;replace kB:=kB.below On;have Ph:=Vi.trans (On.mono Vi.size);have hS134:=Bi.out Ph;go_wp2_with fail;refine hK.out _ _ hS134 (fun Aa=>?_);clear hK K On;refine M952 ?_;refine AllReadyH.cons (i:=6) (o:=?o135) ?i135 ?g135 AllReadyH.nil
           case i135=>exact rfl
           case g135=>
            intro K hK;go_simp
            (with_reducible refine(Kq.out V134 gA Ph kA).mono ?_)
            rintro e V135 ⟨rfl,hb135⟩;have hB135:=Ph.trans (hb135.mono Ph.size);have hS135:=Bi.out hB135;go_wp2_with fail;refine hK.out _ _ hS135 (fun Aa=>?_);clear hK K hb135;refine M935 ?_;refine zK0 A1 ?_ _;go_wp2_with fail;go_meet
            case rel=>exact⟨rfl,hB135⟩
         case g133=>
          intro K hK;go_simp
          (with_reducible refine(eZ kB).mono ?_)
          rintro e V133 ⟨rfl,Oo⟩;replace mA:=mA.below Oo mA.lt;replace kB:=kB.below Oo;have hB133:=Pj.trans (Oo.mono Pj.size);have hS133:=Bi.out hB133;go_wp2_with fail;refine hK.out _ _ hS133 (fun Aa=>?_);clear hK K Oo;refine M964 ?_;refine AllReadyH.cons (i:=2) (o:=?o137) ?i137 ?g137 AllReadyH.nil
          case i137=>exact rfl
          case g137=>
           intro K hK;have kc:=cP (n:=4) (c:=4) mA;go_simp;have Pg:Below wr.heap.size wr (V133.freeze ⟨gA,4,none⟩ 1):=cN hB133 Qo;have kA:MC (V133.freeze ⟨gA,4,none⟩ 1) gA:=MC.frz mA;replace kB:=kB.frzO (k:=4) (show gB ≠ gA by omega);have hS137:=Bi.out Pg;refine hK.out _ _ hS137 (fun Aa=>?_);clear hK K kc mA;try simp only[nrm]
           generalize V133.freeze ⟨gA,4,none⟩ 1=V137 at *;refine wpAnyH_ready (rs:=[6]) A1 A8 ?_;refine AllReadyH.cons (i:=6) (o:=?o138) ?i138 ?g138 AllReadyH.nil
           case i138=>exact rfl
           case g138=>
            intro K hK;go_simp
            (with_reducible refine(Kq.out V137 gA Pg kA).mono ?_)
            rintro e V138 ⟨rfl,hb138⟩;have hB138:=Pg.trans (hb138.mono Pg.size);have hS138:=Bi.out hB138;go_wp2_with fail;refine hK.out _ _ hS138 (fun Aa=>?_);clear hK K hb138;refine M935 ?_;refine zK0 A1 ?_ _;go_wp2_with fail;go_meet
            case rel=>exact⟨rfl,hB138⟩
       case g125=>
        intro K hK;have kc:=cP (n:=4) (c:=4) mB;go_simp;have Jk:Below wr.heap.size wr (Ih.freeze ⟨gB,4,none⟩ 1):=cN Lj Te;have kB:MC (Ih.freeze ⟨gB,4,none⟩ 1) gB:=MC.frz mB;have hS125:=Bi.out Jk;refine hK.out _ _ hS125 (fun Aa=>?_);clear hK K kc mB;try simp only[nrm]
        generalize Ih.freeze ⟨gB,4,none⟩ 1=Kb at *;refine wpAnyH_ready (rs:=[1,5]) A1 A8 ?_;refine AllReadyH.cons (i:=1) (o:=?o140) ?i140 ?g140 (AllReadyH.cons (i:=5) (o:=?o141) ?i141 ?g141 AllReadyH.nil)
        case i140=>exact rfl
        case i141=>exact rfl
        case g140=>
         intro K hK;go_simp;have Ux:Below Kb.heap.size Kb (Kb.alloc (.cells #[.int .u8 109,.int .u8 97,.int .u8 105,.int .u8 110] 5)):=(zD2 _ _).alloc (zB0 _) _;have mA:=Blk.new Kb 5 [.int .u8 109,.int .u8 97,.int .u8 105,.int .u8 110];simp only[List.toArray]at mA;have Qo:wr.heap.size<=Kb.heap.size:=Jk.size;have Ae:gB ≠ Kb.heap.size:=Nat.ne_of_lt (zI2 Kb _ (kB 0 _ rfl));replace kB:=kB.below Ux;have Pf:=Jk.trans (Ux.mono Jk.size);have hS140:=Bi.out Pf;refine hK.out _ _ hS140 (fun Aa=>?_);clear hK K;try simp only[nrm]
         clear Ux;generalize Kb.alloc (.cells #[.int .u8 109,.int .u8 97,.int .u8 105,.int .u8 110] 5)=V140 at *;generalize Kb.heap.size=gA at *;refine wpAnyH_ready (rs:=[2,5]) A1 A8 ?_;refine AllReadyH.cons (i:=2) (o:=?o142) ?i142 ?g142 (AllReadyH.cons (i:=5) (o:=?o143) ?i143 ?g143 AllReadyH.nil)
         case i142=>exact rfl
         case i143=>exact rfl
         case g142=>
          intro K hK;have kc:=cP (n:=4) (c:=4) mA;go_simp;have Vh:Below wr.heap.size wr (V140.freeze ⟨gA,4,none⟩ 1):=cN Pf Qo;have kA:MC (V140.freeze ⟨gA,4,none⟩ 1) gA:=MC.frz mA;replace kB:=kB.frzO (k:=4) (show gB ≠ gA by omega);have hS142:=Bi.out Vh;refine hK.out _ _ hS142 (fun Aa=>?_);clear hK K kc mA;try simp only[nrm]
          generalize V140.freeze ⟨gA,4,none⟩ 1=V142 at *;refine wpAnyH_ready (rs:=[5]) A1 A8 ?_;refine AllReadyH.cons (i:=5) (o:=?o144) ?i144 ?g144 AllReadyH.nil
          case i144=>exact rfl
          case g144=>
           intro K hK;go_simp
           (with_reducible refine(eZ kB).mono ?_)
           rintro e V144 ⟨rfl,Ol⟩;replace kA:=kA.below Ol;replace kB:=kB.below Ol;have Pd:=Vh.trans (Ol.mono Vh.size);have hS144:=Bi.out Pd;go_wp2_with fail;refine hK.out _ _ hS144 (fun Aa=>?_);clear hK K Ol;refine M952 ?_;refine AllReadyH.cons (i:=6) (o:=?o145) ?i145 ?g145 AllReadyH.nil
           case i145=>exact rfl
           case g145=>
            intro K hK;go_simp
            (with_reducible refine(Kq.out V144 gA Pd kA).mono ?_)
            rintro e V145 ⟨rfl,hb145⟩;have hB145:=Pd.trans (hb145.mono Pd.size);have hS145:=Bi.out hB145;go_wp2_with fail;refine hK.out _ _ hS145 (fun Aa=>?_);clear hK K hb145;refine M935 ?_;refine zK0 A1 ?_ _;go_wp2_with fail;go_meet
            case rel=>exact⟨rfl,hB145⟩
         case g143=>
          intro K hK;go_simp
          (with_reducible refine(eZ kB).mono ?_)
          rintro e V143 ⟨rfl,Om⟩;replace mA:=mA.below Om mA.lt;replace kB:=kB.below Om;have hB143:=Pf.trans (Om.mono Pf.size);have hS143:=Bi.out hB143;go_wp2_with fail;refine hK.out _ _ hS143 (fun Aa=>?_);clear hK K Om;refine M964 ?_;refine AllReadyH.cons (i:=2) (o:=?o147) ?i147 ?g147 AllReadyH.nil
          case i147=>exact rfl
          case g147=>
           intro K hK;have kc:=cP (n:=4) (c:=4) mA;go_simp;have Pb:Below wr.heap.size wr (V143.freeze ⟨gA,4,none⟩ 1):=cN hB143 Qo;have kA:MC (V143.freeze ⟨gA,4,none⟩ 1) gA:=MC.frz mA;replace kB:=kB.frzO (k:=4) (show gB ≠ gA by omega);have hS147:=Bi.out Pb;refine hK.out _ _ hS147 (fun Aa=>?_);clear hK K kc mA;try simp only[nrm]
           generalize V143.freeze ⟨gA,4,none⟩ 1=V147 at *;refine wpAnyH_ready (rs:=[6]) A1 A8 ?_;refine AllReadyH.cons (i:=6) (o:=?o148) ?i148 ?g148 AllReadyH.nil
           case i148=>exact rfl
           case g148=>
            intro K hK;go_simp
            (with_reducible refine(Kq.out V147 gA Pb kA).mono ?_)
            rintro e V148 ⟨rfl,hb148⟩;have hB148:=Pb.trans (hb148.mono Pb.size);have hS148:=Bi.out hB148;go_wp2_with fail;refine hK.out _ _ hS148 (fun Aa=>?_);clear hK K hb148;refine M935 ?_;refine zK0 A1 ?_ _;go_wp2_with fail;go_meet
            case rel=>exact⟨rfl,hB148⟩
        case g141=>
         intro K hK;go_simp
         (with_reducible refine(eZ kB).mono ?_)
         rintro e Ka ⟨rfl,Uw⟩;replace kB:=kB.below Uw;have Pe:=Jk.trans (Uw.mono Jk.size);have hS141:=Bi.out Pe;go_wp2_with fail;refine hK.out _ _ hS141 (fun Aa=>?_);clear hK K Uw;try simp only[nrm]
         refine wpAnyH_ready (rs:=[1]) A1 A8 ?_;refine AllReadyH.cons (i:=1) (o:=?o150) ?i150 ?g150 AllReadyH.nil
         case i150=>exact rfl
         case g150=>
          intro K hK;go_simp;have Uv:Below Ka.heap.size Ka (Ka.alloc (.cells #[.int .u8 109,.int .u8 97,.int .u8 105,.int .u8 110] 5)):=(zD2 _ _).alloc (zB0 _) _;have mA:=Blk.new Ka 5 [.int .u8 109,.int .u8 97,.int .u8 105,.int .u8 110];simp only[List.toArray]at mA;have Qo:wr.heap.size<=Ka.heap.size:=Pe.size;have Ae:gB ≠ Ka.heap.size:=Nat.ne_of_lt (zI2 Ka _ (kB 0 _ rfl));replace kB:=kB.below Uv;have hB150:=Pe.trans (Uv.mono Pe.size);have hS150:=Bi.out hB150;refine hK.out _ _ hS150 (fun Aa=>?_);clear hK K;try simp only[nrm]
          clear Uv;generalize Ka.alloc (.cells #[.int .u8 109,.int .u8 97,.int .u8 105,.int .u8 110] 5)=V150 at *;generalize Ka.heap.size=gA at *;refine wpAnyH_ready (rs:=[2]) A1 A8 ?_;refine AllReadyH.cons (i:=2) (o:=?o151) ?i151 ?g151 AllReadyH.nil
          case i151=>exact rfl
          case g151=>
           intro K hK;have kc:=cP (n:=4) (c:=4) mA;go_simp;have Oy:Below wr.heap.size wr (V150.freeze ⟨gA,4,none⟩ 1):=cN hB150 Qo;have kA:MC (V150.freeze ⟨gA,4,none⟩ 1) gA:=MC.frz mA;replace kB:=kB.frzO (k:=4) (show gB ≠ gA by omega);have hS151:=Bi.out Oy;refine hK.out _ _ hS151 (fun Aa=>?_);clear hK K kc mA;try simp only[nrm]
           generalize V150.freeze ⟨gA,4,none⟩ 1=V151 at *;refine wpAnyH_ready (rs:=[6]) A1 A8 ?_;refine AllReadyH.cons (i:=6) (o:=?o152) ?i152 ?g152 AllReadyH.nil
           case i152=>exact rfl
           case g152=>
            intro K hK;go_simp
            (with_reducible refine(Kq.out V151 gA Oy kA).mono ?_)
            rintro e V152 ⟨rfl,hb152⟩;have hB152:=Oy.trans (hb152.mono Oy.size);have hS152:=Bi.out hB152;go_wp2_with fail;refine hK.out _ _ hS152 (fun Aa=>?_);clear hK K hb152;refine M935 ?_;refine zK0 A1 ?_ _;go_wp2_with fail;go_meet
            case rel=>exact⟨rfl,hB152⟩
     case rest=>
      obtain⟨rfl,Er⟩:=hcut;have s9:=s4.step Er.out;have k1:=(HK9.out Er.out).2.1;have HWA9:Hid (WAt wc av (aT l n)):=HWA4.out.below Er.out;clear s4 Kq HXP HWA4 oB;obtain⟨fx,Wn⟩:=zx (gQ o nM kX);rw[<-Wn];cases fx with
      | none=>
       simp only[qO];have HM:Hid (Lk kX l qE 4):=Lk.main Py.out HUo.out (by rw[HN.out];exact HG.out) (by rw[HLO.out];exact Wn.symm);clear Wn;obtain⟨z0,z1,z2⟩:=s9.z.c3;have f0:=s9.z.free 0;have f1:=s9.z.free 1;have f2:=s9.z.free 2;have HF:Hid (sU l w (.returned (.tuple #[.agg #[.slice none 0 0,.slice none 0 0,.int .i64 0],.int .i64 4])) (((wc.setCell ⟨w.heap.size,0,none⟩ (.slice none 0 0)).setCell ⟨w.heap.size,1,none⟩ (.slice none 0 0)).setCell ⟨w.heap.size,2,none⟩ (.int .i64 0))):=uX s9 (HM.out);have D:Blk (((wc.setCell ⟨w.heap.size,0,none⟩ (.slice none 0 0)).setCell ⟨w.heap.size,1,none⟩ (.slice none 0 0)).setCell ⟨w.heap.size,2,none⟩ (.int .i64 0)) w.heap.size 28 [.slice none 0 0,.slice none 0 0,.int .i64 0]:=Blk.put3 s9.z;obtain⟨d0,d1,d2⟩:=D.c3;clear D;go_wp2_with fail;refine zI1 (v:=.tuple #[.agg #[.slice none 0 0,.slice none 0 0,.int .i64 0],.int .i64 4]) A21 rfl HF.out
      | some x=>
       obtain⟨ex,Gx,_,_⟩:=dZ Wn.symm;obtain⟨be,oe,am,cm,rfl,⟨r0,r1,r2⟩,_⟩:=aAc HL1.out Gx;have p2:=aB r2 s9.y;have Fi:x<n1:=by have:=(zC1.1 Gx).1;rw[HN1.out]at this;exact this
       have Ij:(x:Int)<(n1:Int):=A0;have Fj:¬((x:Int)<0):=A0;obtain⟨ge,Yb⟩:=HAV.out;have H6:=aHq l (some ⟨b,off,none⟩) n c av ne cv ex.pos wc (aW.below HL.out s9.y) HN.out h8 Py.out.2 Kr.out HWA9.out Qd hv3 ge Yb;have HXF:Hid (gQ (mG l (l.length-1)) nM kX=some x/\ex.pos=((mG l (l.length-1)).ex[x]?.map Xp.pos).getD 0):=⟨by rw[HLO.out];exact Wn.symm,by rw[HLO.out,Gx];rfl⟩
       clear Wn Gx r0 r1 r2 Yb HWA9;simp only[qO];go_wp2_with fail;refine H6.mono ?_;rintro e w6 ⟨mv,wv,rs,rfl,Qf,him,Wq⟩;have s6:=s9.step Wq;have HWE:Hid (sU l w (.returned (.tuple #[.agg #[mv,wv,.int .i64 ex.pos],.int .i64 0])) (((w6.setCell ⟨w.heap.size,0,none⟩ mv).setCell ⟨w.heap.size,1,none⟩ wv).setCell ⟨w.heap.size,2,none⟩ (.int .i64 ex.pos))):=aMg HN.out s6 him s9.y.size Qf Py.out HUo.out HG.out HXF.out.1 HXF.out.2;obtain⟨ma,mc,rfl,_⟩:=aH him.mrow.own;obtain⟨wa,wk,rfl,_⟩:=aH him.wrow.own;generalize (bU l n).length=lz at *;obtain⟨z0,z1,z2⟩:=s6.z.c3;have f0:=s6.z.free 0;have f1:=s6.z.free 1;have f2:=s6.z.free 2;have D:Blk (((w6.setCell ⟨w.heap.size,0,none⟩ (.slice ma rs.length mc)).setCell ⟨w.heap.size,1,none⟩ (.slice wa lz wk)).setCell ⟨w.heap.size,2,none⟩ (.int .i64 ex.pos)) w.heap.size 28 [.slice ma rs.length mc,.slice wa lz wk,.int .i64 ex.pos]:=Blk.put3 s6.z;obtain⟨x0,x1,x2⟩:=D.c3;clear D H6 s6 s9 him Wq Qf HXF;go_wp2_with fail;refine zI1 (v:=.tuple #[.agg #[.slice ma rs.length mc,.slice wa lz wk,.int .i64 ex.pos],.int .i64 0]) (by simp only[results,Tryz.results5];simp[go_sem,x0,x1,x2]) rfl HWE.out
    .
     have HNG:Hid (¬jM l l.length):=by rw[HN.out];exact hng
     clear hng Iz s2;obtain⟨z0,z1,z2⟩:=s3.z.c3;have f0:=s3.z.free 0;have f1:=s3.z.free 1;have f2:=s3.z.free 2;have HF:Hid (sU l w (.returned (.tuple #[.agg #[.slice none 0 0,.slice none 0 0,.int .i64 0],.int .i64 3])) (((w3.setCell ⟨w.heap.size,0,none⟩ (.slice none 0 0)).setCell ⟨w.heap.size,1,none⟩ (.slice none 0 0)).setCell ⟨w.heap.size,2,none⟩ (.int .i64 0))):=uX s3 (Lk.missing Py.out HUo.out HNG.out);have D:Blk (((w3.setCell ⟨w.heap.size,0,none⟩ (.slice none 0 0)).setCell ⟨w.heap.size,1,none⟩ (.slice none 0 0)).setCell ⟨w.heap.size,2,none⟩ (.int .i64 0)) w.heap.size 28 [.slice none 0 0,.slice none 0 0,.int .i64 0]:=Blk.put3 s3.z;obtain⟨d0,d1,d2⟩:=D.c3;clear D;go_wp2_with fail;refine zI1 (v:=.tuple #[.agg #[.slice none 0 0,.slice none 0 0,.int .i64 0],.int .i64 3]) A21 rfl HF.out
 .
  rw[show(decide ((1:Int)<=(n:Int)) && decide ((n:Int)<=8))=false by simp;omega]at HR;have HNF:Hid (¬kZ l):=fun hf=>h18 ⟨by rw[<-HN.out];exact hf.1.1,by rw[<-HN.out];exact hf.1.2⟩;go_wp2_with fail;refine HR.mono ?_;rintro e w0' ⟨rfl,rfl⟩;clear HR;obtain⟨z0,z1,z2⟩:=s0.z.c3;have f0:=s0.z.free 0;have f1:=s0.z.free 1;have f2:=s0.z.free 2;have HF:Hid (sU l w (.returned (.tuple #[.agg #[.slice none 0 0,.slice none 0 0,.int .i64 0],.int .i64 1])) (((w0'.setCell ⟨w.heap.size,0,none⟩ (.slice none 0 0)).setCell ⟨w.heap.size,1,none⟩ (.slice none 0 0)).setCell ⟨w.heap.size,2,none⟩ (.int .i64 0))):=uX s0 (Lk.form HNF.out);have D:Blk (((w0'.setCell ⟨w.heap.size,0,none⟩ (.slice none 0 0)).setCell ⟨w.heap.size,1,none⟩ (.slice none 0 0)).setCell ⟨w.heap.size,2,none⟩ (.int .i64 0)) w.heap.size 28 [.slice none 0 0,.slice none 0 0,.int .i64 0]:=Blk.put3 s0.z;exact QA64
end Go.Proofs.YtcbhdhmhidpdgaaGreatDoor

import Derived.Test.YtcbhdhmhidpdgaaGreatSpExC
import Derived.Deep.AppendLies
namespace Go.Proofs.YtcbhdhmhidpdgaaGreat
open Go.RowKit
set_option linter.unusedVariables false
set_option linter.unusedSimpArgs false
set_option maxRecDepth 100000
set_option maxHeartbeats 8000000
section
theorem A66{p:Prop}(h:p:=by rw[Xz.out];exact Ad):p:=h
theorem A72{p:Prop}(h:p:=by rw[nM];exact if_pos (by rw[hv];simp)):p:=h
theorem A73{p:Prop}(h:p:=by rw[nM];exact if_neg (by rw[hv];simp)):p:=h
theorem A76{p:Prop}(h:p:=by rw[Xz.out];exact zB0 _):p:=h
theorem A91{p:Prop}(h:p:=by rw[hv];simp):p:=h
theorem QA19{p:Prop}(h:p:=by
 have HF:Hid (eY m fs p 0 l=eY m fs p (dJ (jI m fs p z kids) (dJ (eY m fs p 0 body) (eY m fs p 0 els))) (l.drop (j+1))):=by show _=_;rw[HZ.out,HDR.out];exact mN A73
 rw[hv]at H1
 clear hv
 go_wp2_with fail
 refine H1.mono ?_
 rintro r w6 ⟨rfl,hg⟩
 replace z5:=z5.below (aA hg) z5.lt
 clear H1 n0 n2 k0 k1 k2 k3 q0 q1 q2 q3 q4 z0 z1
 have n0:=z5.k 0
 go_wp2_with fail
 exact HK3.out w6 _ _ _ _ _ _ _ _ _ _ _ _ _ _ _ _ _ _ _ _ _ _ _ _ _ _ _ _ _ _ _ _ _ _ _ _ _ _ _ _ _ _ _ _ _ _ _ _ _ _ _ _ _ _ _ _ _ _ _ _ _ _ _ _ _ _ _ _ _ hg HF.out):p:=h
theorem QA35{p:Prop}(h:p:=by
 have HF:Hid (eY m fs p 0 l=2):=by show _=_;rw[HZ.out,HDR.out];exact qA A72
 rw[hv]at H1
 clear hv HK3
 go_wp2_with fail
 refine H1.mono ?_
 rintro r w6 ⟨rfl,hg⟩
 have yg:=aC y5 hg
 replace z5:=z5.below (aA hg) z5.lt
 clear H1 n0 n2 k0 k1 k2 k3 q0 q1 q2 q3 q4 z0 z1 hg
 have n0:=z5.k 0
 go_wp2
 go_ret
 exact⟨bZ HF.out.symm,yg⟩):p:=h
variable{c:Int}{fs:List Fa}{l:List St}{m:Mo}{p:Pr}{s:St}
mutual
def stC (m:Mo)(fs:List Fa)(p:Pr):Int->St->Option Int
 | c,.mk k _ name kids body els=>if ((decide (k=0) && !sgl m p name) || (decide (k=1) && !arq m p name))=true then none
  else some (dJ (jI m fs p c kids) (dJ (eY m fs p 0 body) (eY m fs p 0 els)))
def eY (m:Mo)(fs:List Fa)(p:Pr):Int->List St->Int
 | c,[]=>c| c,s :: l=>match stC m fs p c s with
  | none=>2| some c'=>eY m fs p c' l
end
theorem nM (m:Mo)(fs:List Fa)(p:Pr)(c k n:Int)(name:List Int)(kids:List Ex)(body els:List St):stC m fs p c (.mk k n name kids body els)=if ((decide (k=0) && !sgl m p name) || (decide (k=1) && !arq m p name))=true then none
  else some (dJ (jI m fs p c kids) (dJ (eY m fs p 0 body) (eY m fs p 0 els))):=by unfold stC;rfl
theorem qA(h:stC m fs p c s=none):eY m fs p c (s :: l)=2:=by unfold eY;rw[h]
theorem mN{c':Int}(h:stC m fs p c s=some c'):eY m fs p c (s :: l)=eY m fs p c' l:=by conv=>lhs;unfold eY;rw[h]
theorem aA6 (m:Mo)(fs:List Fa)(p:Pr)(c:Int):eY m fs p c []=c:=by unfold eY;rfl
def vX (m:Mo)(fs:List Fa)(p:Pr)(l:List St):Prop:=∀(w:World) (vs us:List Value) (b:Option Addr) (nf d:Nat) (al:Option Addr) (cl:Nat),Env w m fs p vs us b nf d->aX w al cl 6 (sts l) →
 Calls Tryz.prog 77 #[agg vs,.slice b nf d,agg us,.slice al l.length cl] w fun r w'=>r=.returned (.int .i64 (eY m fs p 0 l))/\w.grownBy w' none
set_option maxHeartbeats 16000000 in
theorem sC (m:Mo)(fs:List Fa)(p:Pr)(l:List St)(IH:∀k n name kids body els,St.mk k n name kids body els ∈ l->vX m fs p body/\vX m fs p els):vX m fs p l:=by
 intro w vs us b nf d al cl hE hL;obtain⟨v0,v1,v2,v3,rfl⟩:=xQ (hE.rm.len.trans (show m.fl.length=4 from rfl));obtain⟨u0,u1,u2,u3,u4,rfl⟩:=dV (hE.rp.len.trans (show p.fl.length=5 from rfl));have hl9:=hL.len9;have hll:(sts l).length=l.length:=by simp[bE]
 rw[hll]at hl9;obtain⟨nl,Kp⟩:=zx (l.length);have Xz:=hid Kp.symm;rw[<-Kp]at hl9 ⊢;have HE:=hid hE;have HL:=hid hL;have HI:=hid IH;clear hE hL IH hll Kp;have z0:=(Blk.new w 81 [v0,v1,v2,v3]).old (o:=.cells #[u0,u1,u2,u3,u4] 111 (0,0));have z1:=Blk.new (w.alloc (.cells #[v0,v1,v2,v3] 81 (0,0))) 111 [u0,u1,u2,u3,u4];have hg1:(w.alloc (.cells #[v0,v1,v2,v3] 81 (0,0))).heap.size=w.heap.size+1:=by simp
 have y0:w.grownBy ((w.alloc (.cells #[v0,v1,v2,v3] 81 (0,0))).alloc (.cells #[u0,u1,u2,u3,u4] 111 (0,0))) none:=aC (aE w _ none) (aE _ _ none);simp only[List.toArray]at z0 z1;rw[hg1]at z1;clear hg1;simp only[agg];go_enter Tryz.func77,Tryz.ntmps77;go_upto_region 1 with fail;generalize (w.alloc (.cells #[v0,v1,v2,v3] 81 (0,0))).alloc (.cells #[u0,u1,u2,u3,u4] 111 (0,0))=w1 at *;have Z0:=hid z0;have Z1:=hid z1;have Y0:=hid y0;clear z0 z1 y0;go_wp2_with fail;go_loopw [9,10] (fun cc i wr=>∃(j:Nat) (z:Int),j<=nl/\i=.int .i64 j/\cc=.int .i64 z/\Hid (eY m fs p 0 l=eY m fs p z (l.drop j))/\Hid (w1.grownBy wr none)) (fun _ i _=>nl-(intOf i).toNat)
 case atStart=>exact⟨0,0,zD1 _,rfl,rfl,rfl,aQ _ _⟩
 case round=>
  obtain⟨j,z,hj,rfl,rfl,HZ,Hg⟩:=hrel;have hg:=Hg.out;have yw:=aC Y0.out hg;by_cases Ad:j<nl
  .
   obtain⟨s,hsj⟩:∃s,l[j]?=some s:=⟨_,zA0 A66⟩
   obtain⟨y0,y1,name,kids,body,els⟩:=s;have HDR:Hid (l.drop j=St.mk y0 y1 name kids body els :: l.drop (j+1)):=by
    obtain⟨h5,h6⟩:=zC1.1 hsj;show _=_
    rw[List.drop_eq_getElem_cons h5,h6]
   have HIs:=HI.out _ _ _ _ _ _ (zA3 hsj);obtain⟨bs,ofs,ss,rfl,hss,Ab⟩:=aX.cellsAt HL.out (show(sts l)[j]?=some (St.fl ⟨y0,y1,name,kids,body,els⟩) by rw[bE,zA2,hsj];rfl);obtain⟨s0,_,rfl,rfl,s1,_,rfl,rfl,s2,_,rfl,⟨an,cn,rfl,Be,_⟩,s3,_,rfl,hk,s4,_,rfl,Pe,s5,_,rfl,Nk,rfl⟩:=hss;obtain⟨ak,ck,rfl,hK⟩:=hk.list;obtain⟨ab,cb,rfl,hB⟩:=Pe.list;obtain⟨ae,ce,rfl,hEl⟩:=Nk.list;have Kq:=hK.len9;have Ls:=hB.len9;have he9:=hEl.len9;have e1:(exs kids).length=kids.length:=by simp[aY]
   have e2:(sts body).length=body.length:=by simp[bE]
   have e3:(sts els).length=els.length:=by simp[bE]
   rw[e1]at Kq Ab;rw[e2]at Ls Ab;rw[e3]at he9 Ab;obtain⟨nk,hnk⟩:=zx (kids.length);obtain⟨nb,Ba⟩:=zx (body.length);obtain⟨ne,Ae⟩:=zx (els.length);have Ap:=hid hnk.symm;have Ea:=hid Ba.symm;have Lc:=hid Ae.symm;rw[<-hnk,<-Ba,<-Ae]at Ab;rw[<-hnk]at Kq;rw[<-Ba]at Ls;rw[<-Ae]at he9;have Mu:=hid Be;have HK:=hid hK;have HB:=hid hB;have HEL:=hid hEl;have Rn:=hid HIs.1;have Ua:=hid HIs.2;have bw:=aA yw;refine M955 ?_;intro r0 r1 r2 r3 r4;have r5:=aB (Ab 5 _ rfl) bw;rw[zG1]at r0;have z5:=Blk.new wr 150 [.int .i64 y0,.int .i64 y1,.slice an name.length cn,.slice ak nk ck,.slice ab nb cb,.slice ae ne ce];have g5:=aE wr (.cells #[.int .i64 y0,.int .i64 y1,.slice an name.length cn,.slice ak nk ck,.slice ab nb cb,.slice ae ne ce] 150 (0,0)) none;simp only[List.toArray]at z5;clear Ab hsj Be hK hB hEl HIs hk Pe Nk e1 e2 e3 hnk Ba Ae;go_upto_region 6 with fail;generalize wr.alloc (.cells #[.int .i64 y0,.int .i64 y1,.slice an name.length cn,.slice ak nk ck,.slice ab nb cb,.slice ae ne ce] 150 (0,0))=w5 at *;have hgS:wr.heap.size=wr.heap.size:=rfl;generalize wr.heap.size=gS at *;have y5:=aC yw g5;have g15:=aC hg g5;have Xx:=aA y5;have Y5:=hid y5;have G15:=hid g15;have Z5:=hid z5;have z0:=Z0.out.below (aA g15) Z0.out.lt;have z1:=Z1.out.below (aA g15) Z1.out.lt;have Z05:=hid z0;have Z15:=hid z1;clear r0 r1 r2 r3 r4 r5 bw yw hg Hg g5 g15 hgS;rename_i K3 h3 K4 h4;have HK3:Hid (∀(w6:World) (t8 t12 t13 Th Tf Te Td Tc Tb Ta Sz Sy Sx Km Sw Sv Su Ss Sr Sq Sp Sn Sk Sj Si Sh Sf Sd Sc Sa Ry Rx Rw Rv Ru Rt Rr Rq Rp Ro t51 t52 t53 t54 t55 t56 t57 t58 t59 t60 t61 t62 t63 t64 t65 t66 t67 t68 t69 t70 t71 t72 t73 t74 t75 t76 t77 t78 t79:Value),w5.grownBy w6 none->eY m fs p 0 l=eY m fs p (dJ (jI m fs p z kids) (dJ (eY m fs p 0 body) (eY m fs p 0 els))) (l.drop (j+1))->K3 { tmps:=#[.agg #[v0,v1,v2,v3],.slice b nf d,.agg #[u0,u1,u2,u3,u4],.slice (some ⟨bs,ofs,none⟩) nl cl,.pointer (some ⟨w.heap.size,0,none⟩),undef,.pointer (some ⟨w.heap.size+1,0,none⟩),undef,t8,.int .i64 z,.int .i64 j,.pointer (some ⟨gS,0,none⟩),t12,t13,Th,Tf,Te,Td,Tc,Tb,Ta,Sz,Sy,Sx,Km,Sw,Sv,Su,Ss,Sr,Sq,Sp,Sn,Sk,Sj,Si,Sh,Sf,Sd,Sc,Sa,Ry,Rx,Rw,Rv,Ru,Rt,Rr,Rq,Rp,Ro,t51,t52,t53,t54,t55,t56,t57,t58,t59,t60,t61,t62,t63,t64,t65,t66,t67,t68,t69,t70,t71,t72,t73,t74,t75,t76,t77,t78,t79,undef],defers:=[] } w6):=by
    intro w6 t8 t12 t13 Th Tf Te Td Tc Tb Ta Sz Sy Sx Km Sw Sv Su Ss Sr Sq Sp Sn Sk Sj Si Sh Sf Sd Sc Sa Ry Rx Rw Rv Ru Rt Rr Rq Rp Ro t51 t52 t53 t54 t55 t56 t57 t58 t59 t60 t61 t62 t63 t64 t65 t66 t67 t68 t69 t70 t71 t72 t73 t74 t75 t76 t77 t78 t79 Bs Zb;have Ub:=hid Zb;have G6:=hid Bs;clear Bs Zb h4 z0 z1 z5 y5 Xx HZ HDR;refine h3 _ _ ?_;clear h3;go_wp2_with fail;go_loopw [9,12] (fun cc i wr=>∃(i':Nat) (x:Int),i'<=nk/\i=.int .i64 i'/\cc=.int .i64 x/\Hid (x=jI m fs p z (kids.take i'))/\Hid (w5.grownBy wr none)) (fun _ i _=>nk-(intOf i).toNat)
    case atStart=>exact⟨0,z,zD1 _,rfl,rfl,(by show _=_;simp[jI]),G6⟩
    case round=>
     obtain⟨i,x,hi,rfl,rfl,hx,Hg⟩:=hrel;have hg:=Hg.out;have yw:=aC Y5.out hg;have bw:=aA yw;have z0:=Z05.out.below (aA hg) Z05.out.lt;have z1:=Z15.out.below (aA hg) Z15.out.lt;have z5:=Z5.out.below (aA hg) Z5.out.lt;have n3:=z5.k 3;by_cases Ln:i<nk
     .
      obtain⟨e,Pb⟩:∃e,kids[i]?=some e:=⟨_,zA0 (by rw[Ap.out];exact Ln)⟩
      have HX2:Hid (dJ x (exC m fs p e)=jI m fs p z (kids.take (i+1))):=by show _=_;rw[vL Pb,hx.out]
      obtain⟨bk,off,es,rfl,Ts,Ab⟩:=aX.cellsAt HK.out (show(exs kids)[i]?=some e.fl by rw[aY,zA2,Pb];rfl);have Nk:es.length=5:=by rw[Ts.len];cases e;rfl
      obtain⟨s0,s1,s2,s3,s4,rfl⟩:=dV Nk;have HES:=hid Ts;refine M955 ?_;intro r0 r1 r2 r3 r4;rw[zG1]at r0;clear Ab Pb Ts Nk hx;have HS:∀{wl:World},Below wr.heap.size wr wl->wl.cell? ⟨w.heap.size,0,none⟩=some (v0)/\wl.cell? ⟨w.heap.size,1,none⟩=some (v1)/\wl.cell? ⟨w.heap.size,2,none⟩=some (v2)/\wl.cell? ⟨w.heap.size,3,none⟩=some (v3)/\wl.cell? ⟨w.heap.size+1,0,none⟩=some (u0)/\wl.cell? ⟨w.heap.size+1,1,none⟩=some (u1)/\wl.cell? ⟨w.heap.size+1,2,none⟩=some (u2)/\wl.cell? ⟨w.heap.size+1,3,none⟩=some (u3)/\wl.cell? ⟨w.heap.size+1,4,none⟩=some (u4)/\wl.cell? ⟨gS,3,none⟩=some (.slice (some ⟨bk,off,none⟩) nk ck)/\wl.cell? ⟨bk,off+i*5,none⟩=some s0/\wl.cell? ⟨bk,off+i*5+1,none⟩=some s1/\wl.cell? ⟨bk,off+i*5+2,none⟩=some s2/\wl.cell? ⟨bk,off+i*5+3,none⟩=some s3/\wl.cell? ⟨bk,off+i*5+4,none⟩=some s4:=fun hb=>⟨aB (z0.k 0) hb,aB (z0.k 1) hb,aB (z0.k 2) hb,aB (z0.k 3) hb,aB (z1.k 0) hb,aB (z1.k 1) hb,aB (z1.k 2) hb,aB (z1.k 3) hb,aB (z1.k 4) hb,aB n3 hb,aB r0 hb,aB r1 hb,aB r2 hb,aB r3 hb,aB r4 hb⟩;have Ao:=HS (wl:=wr.drew) (zD2 _ _).drew;have H9:=aQu m fs p e wr.drew _ _ _ b nf d (HE.out.below bw.drew) (aL.below HES.out bw.drew);simp only[agg,List.toArray]at H9;go_wp2_with fail;refine zK0 (S:=fun wl=>wl.cell? ⟨w.heap.size,0,none⟩=some (v0)/\wl.cell? ⟨w.heap.size,1,none⟩=some (v1)/\wl.cell? ⟨w.heap.size,2,none⟩=some (v2)/\wl.cell? ⟨w.heap.size,3,none⟩=some (v3)/\wl.cell? ⟨w.heap.size+1,0,none⟩=some (u0)/\wl.cell? ⟨w.heap.size+1,1,none⟩=some (u1)/\wl.cell? ⟨w.heap.size+1,2,none⟩=some (u2)/\wl.cell? ⟨w.heap.size+1,3,none⟩=some (u3)/\wl.cell? ⟨w.heap.size+1,4,none⟩=some (u4)/\wl.cell? ⟨gS,3,none⟩=some (.slice (some ⟨bk,off,none⟩) nk ck)/\wl.cell? ⟨bk,off+i*5,none⟩=some s0/\wl.cell? ⟨bk,off+i*5+1,none⟩=some s1/\wl.cell? ⟨bk,off+i*5+2,none⟩=some s2/\wl.cell? ⟨bk,off+i*5+3,none⟩=some s3/\wl.cell? ⟨bk,off+i*5+4,none⟩=some s4) A1 Ao (fun Aa=>?_);refine M921 ?_;refine M925 ?_;refine ta 6 ?_;refine ta 7 ?_;refine ta 8 ?_;try simp only[nrm]
      refine ra 9 fun K hK=>?_;go_simp
      (with_reducible refine H9.mono ?_)
      refine M958 ?_;intro w4 Ah b4 Cq;have H10:=tF x (exC m fs p e) w4;go_wp2_with fail;refine hK.out _ _ (Cq) (fun Aa=>?_);clear hK K;try simp only[nrm]
      refine ra 10 fun K hK=>?_;go_simp
      (with_reducible refine H10.mono ?_)
      rintro r w7 ⟨rfl,rfl⟩;go_wp2_with fail;refine hK.out _ _ (Cq) (fun Aa=>?_);clear hK K;try simp only[nrm]
      refine ta 11 ?_;try simp only[nrm]
      refine zK1 A1 ?_ _;have HG7:=hid (aC hg (aN b4 none));clear HS Ao Cq Aa H9 H10 r0 r1 r2 r3 r4 n3 z0 z1 z5 bw yw hg Hg Ah b4;generalize dJ x (exC m fs p e)=x' at *;go_wp2;go_roundw
      case rel=>exact⟨i+1,x',by omega,by go_num,rfl,HX2,HG7⟩
      case measure=>simp[intOf];omega
     .
      have:nk=i:=by omega
      subst this;have HXF:Hid (x=jI m fs p z kids):=by show _=_;rw[hx.out,zD3 A20]
      clear hx;have n4:=z5.k 4;have n5:=z5.k 5;have HS:∀{wl:World},Below wr.heap.size wr wl->wl.cell? ⟨w.heap.size,0,none⟩=some (v0)/\wl.cell? ⟨w.heap.size,1,none⟩=some (v1)/\wl.cell? ⟨w.heap.size,2,none⟩=some (v2)/\wl.cell? ⟨w.heap.size,3,none⟩=some (v3)/\wl.cell? ⟨w.heap.size+1,0,none⟩=some (u0)/\wl.cell? ⟨w.heap.size+1,1,none⟩=some (u1)/\wl.cell? ⟨w.heap.size+1,2,none⟩=some (u2)/\wl.cell? ⟨w.heap.size+1,3,none⟩=some (u3)/\wl.cell? ⟨w.heap.size+1,4,none⟩=some (u4)/\wl.cell? ⟨gS,4,none⟩=some (.slice ab nb cb)/\wl.cell? ⟨gS,5,none⟩=some (.slice ae ne ce):=fun hb=>⟨aB (z0.k 0) hb,aB (z0.k 1) hb,aB (z0.k 2) hb,aB (z0.k 3) hb,aB (z1.k 0) hb,aB (z1.k 1) hb,aB (z1.k 2) hb,aB (z1.k 3) hb,aB (z1.k 4) hb,aB n4 hb,aB n5 hb⟩;have Ao:=HS (wl:=wr.drew) (zD2 _ _).drew;have H6:=Rn.out wr.drew _ _ b nf d ab cb (HE.out.below bw.drew) (aX.below HB.out bw.drew);rw[Ea.out]at H6;simp only[agg,List.toArray]at H6;go_wp2_with fail;refine zK0 (S:=fun wl=>wl.cell? ⟨w.heap.size,0,none⟩=some (v0)/\wl.cell? ⟨w.heap.size,1,none⟩=some (v1)/\wl.cell? ⟨w.heap.size,2,none⟩=some (v2)/\wl.cell? ⟨w.heap.size,3,none⟩=some (v3)/\wl.cell? ⟨w.heap.size+1,0,none⟩=some (u0)/\wl.cell? ⟨w.heap.size+1,1,none⟩=some (u1)/\wl.cell? ⟨w.heap.size+1,2,none⟩=some (u2)/\wl.cell? ⟨w.heap.size+1,3,none⟩=some (u3)/\wl.cell? ⟨w.heap.size+1,4,none⟩=some (u4)/\wl.cell? ⟨gS,4,none⟩=some (.slice ab nb cb)/\wl.cell? ⟨gS,5,none⟩=some (.slice ae ne ce)) A1 Ao (fun Aa=>?_);refine M921 ?_;refine M925 ?_;refine ta 7 ?_;refine ta 8 ?_;refine ta 9 ?_;refine ta 10 ?_;refine ta 11 ?_;try simp only[nrm]
      refine ra 6 fun K hK=>?_;go_simp
      (with_reducible refine H6.mono ?_)
      refine M958 ?_;intro w4 Ah b4 Cq;have bw4:=bw.trans (b4.mono bw.size);have H12:=Ua.out w4 _ _ b nf d ae ce (HE.out.below bw4) (aX.below HEL.out bw4);rw[Lc.out]at H12;simp only[agg,List.toArray]at H12;go_wp2_with fail;refine hK.out _ _ (Cq) (fun Aa=>?_);clear hK K;try simp only[nrm]
      refine ra 12 fun K hK=>?_;go_simp
      (with_reducible refine H12.mono ?_)
      rintro r w7 ⟨rfl,Dz⟩;have b7:=b4.trans ((aA Dz).mono b4.size);have HS7:=HS b7;have H13:=tF (eY m fs p 0 body) (eY m fs p 0 els) w7;have H14:=tF x (dJ (eY m fs p 0 body) (eY m fs p 0 els)) w7;go_wp2_with fail;refine hK.out _ _ (HS7) (fun Aa=>?_);clear hK K;try simp only[nrm]
      refine ra 13 fun K hK=>?_;go_simp
      (with_reducible refine H13.mono ?_)
      rintro r w8 ⟨rfl,rfl⟩;go_wp2_with fail;refine hK.out _ _ (HS7) (fun Aa=>?_);clear hK K;try simp only[nrm]
      refine ra 14 fun K hK=>?_;go_simp
      (with_reducible refine H14.mono ?_)
      rintro r w9 ⟨rfl,rfl⟩;go_wp2_with fail;refine hK.out _ _ (HS7) (fun Aa=>?_);clear hK K;try simp only[nrm]
      refine ta 15 ?_;try simp only[nrm]
      refine zK1 A1 ?_ _;have HG9:=hid (aC G15.out (aC hg (aN b7 none)));have Oo:Hid (eY m fs p 0 l=eY m fs p (dJ x (dJ (eY m fs p 0 body) (eY m fs p 0 els))) (l.drop (j+1))):=by show _=_;rw[HXF.out];exact Ub.out
      clear HS Ao Cq HS7 Aa H6 H12 H13 H14 n3 n4 n5 z0 z1 z5 bw bw4 yw hg Hg Ah Dz b4 b7 HXF Ub;generalize dJ x (dJ (eY m fs p 0 body) (eY m fs p 0 els))=x' at *;go_wp2;go_roundw
      case rel=>exact⟨j+1,x',by omega,by go_num,rfl,Oo,HG9⟩
      case measure=>simp[intOf];omega
   clear h3;by_cases hy0:y0=0
   .
    subst hy0;have n0:=z5.k 0;have n2:=z5.k 2;obtain⟨k0,k1,k2,k3⟩:=z0.c4;obtain⟨q0,q1,q2,q3,q4⟩:=z1.c5;have H1:=uQ m p _ _ w5 (HE.out.rm.below Xx) (HE.out.rp.below Xx) an name.length cn name (aV.below Mu.out Xx);simp only[agg,List.toArray]at H1;cases hv:sgl m p name
    .
     exact QA35
    .
     exact QA19
   have gy0:(y0 == 0)=false:=by simpa using hy0
   by_cases Xe:y0=1
   .
    subst Xe;have n0:=z5.k 0;have n2:=z5.k 2;obtain⟨k0,k1,k2,k3⟩:=z0.c4;obtain⟨q0,q1,q2,q3,q4⟩:=z1.c5;have H1:=oL m p _ _ w5 (HE.out.rm.below Xx) (HE.out.rp.below Xx) an name.length cn name (aV.below Mu.out Xx);simp only[agg,List.toArray]at H1;cases hv:arq m p name
    .
     exact QA35
    .
     exact QA19
   have gy1:(y0 == 1)=false:=by simpa using Xe
   have HF:Hid (eY m fs p 0 l=eY m fs p (dJ (jI m fs p z kids) (dJ (eY m fs p 0 body) (eY m fs p 0 els))) (l.drop (j+1))):=by show _=_;rw[HZ.out,HDR.out];exact mN (by rw[nM];exact if_neg (by rw[zC2 hy0,zC2 Xe];simp))
   have n0:=z5.k 0;clear hy0 Xe z0 z1 z5;go_wp2_with fail;exact HK3.out w5 _ _ _ _ _ _ _ _ _ _ _ _ _ _ _ _ _ _ _ _ _ _ _ _ _ _ _ _ _ _ _ _ _ _ _ _ _ _ _ _ _ _ _ _ _ _ _ _ _ _ _ _ _ _ _ _ _ _ _ _ _ _ _ _ _ _ _ _ _ (aQ _ _) HF.out
  .
   have:nl=j:=by omega
   subst this;have HF:Hid (eY m fs p 0 l=z):=by show _=_;rw[HZ.out,List.drop_of_length_le A76,aA6]
   clear HZ;go_wp2;go_ret;exact⟨bZ HF.out.symm,yw⟩
mutual
theorem aSh (m:Mo)(fs:List Fa)(p:Pr):∀s:St,∀k n name kids body els,s=St.mk k n name kids body els->vX m fs p body/\vX m fs p els
 | .mk _ _ _ _ b1 e1,k,n,name,kids,body,els,h=>by
  have h1:=sC m fs p b1 (aA5 m fs p b1);have h2:=sC m fs p e1 (aA5 m fs p e1);cases h;exact⟨h1,h2⟩
theorem aA5 (m:Mo)(fs:List Fa)(p:Pr):∀l:List St,∀k n name kids body els,St.mk k n name kids body els ∈ l->vX m fs p body/\vX m fs p els
 | [],k,n,name,kids,body,els,h=>by simp at h
 | y :: l,k,n,name,kids,body,els,h=>by
  rcases zG3.1 h with h|h
  .
   exact aSh m fs p y k n name kids body els h.symm
  .
   exact aA5 m fs p l k n name kids body els h
end
theorem aUt (m:Mo)(fs:List Fa)(p:Pr)(l:List St):vX m fs p l:=sC m fs p l (aA5 m fs p l)
end
section
def aFt (m:Mo)(p:Pr)(x:List Int):Bool:=(ix (p.params.map Pa.name) x).isSome || (ix (m.vars.map Va.name) x).isSome
def aKl (m:Mo)(fs:List Fa)(mod name:List Int):Bool:=if mod=[] then (ix (m.procs.map Pr.name) name).isSome else match sQ fs mod with
 | some f=>(ix (f.procs.map Fp.name) name).isSome| none=>false
mutual
def qI (m:Mo)(fs:List Fa)(p:Pr):Ex->Bool
 | .mk k _ mod name ks=>inB k 0 7 && decide (dA k<=ks.length) && decide (ks.length<=4) && (!decide (k=2\/k=5\/k=7) || aFt m p name) && (!decide (k=6) || aKl m fs mod name) && (decide (k=6) || decide (mod.length=0)) && fW m fs p ks
def fW (m:Mo)(fs:List Fa)(p:Pr):List Ex->Bool
 | []=>true| e :: l=>qI m fs p e && fW m fs p l
end
mutual
def xN (m:Mo)(fs:List Fa)(p:Pr):St->Bool
 | .mk k _ name ks bs es=>inB k 0 7 && decide (cD k<=ks.length) && (!decide (k=1) || aFt m p name) && fW m fs p ks && eI m fs p bs && eI m fs p es
def eI (m:Mo)(fs:List Fa)(p:Pr):List St->Bool
 | []=>true| s :: l=>xN m fs p s && eI m fs p l
end
theorem dI {m:Mo}{fs:List Fa}{p:Pr}:∀{l:List Ex},fW m fs p l=true->∀e ∈ l,qI m fs p e=true
 | [],_,e,h=>by cases h
 | x :: l,h,e,he=>by
  simp only[fW,zC0]at h;rcases zG3.1 he with rfl|he
  .
   exact h.1
  .
   exact dI h.2 e he
theorem sL {m:Mo}{fs:List Fa}{p:Pr}:∀{l:List St},eI m fs p l=true->∀e ∈ l,xN m fs p e=true
 | [],_,e,h=>by cases h
 | x :: l,h,e,he=>by
  simp only[eI,zC0]at h;rcases zG3.1 he with rfl|he
  .
   exact h.1
  .
   exact sL h.2 e he
theorem jK {a b:Int}(ha:0<=a)(hb:0<=b):0<=dJ a b:=by unfold dJ;split <;> (try split) <;> omega
theorem oR {a b:Int}(h:dJ a b=0)(ha:0<=a)(hb:0<=b):a=0/\b=0:=by
 unfold dJ at h;split at h
 .
  omega
 .
  split at h <;> omega
section
variable {m:Mo} {fs:List Fa} {p:Pr}
theorem aKe {e:Ex}{c:Int}(h:hdC m fs p e=some c):0<=c:=by
 obtain⟨k,n,mod,name,ks⟩:=e;rw[gQ]at h;split at h
 .
  split at h <;> simp at h;omega
 .
  split at h
  .
   split at h <;> simp at h;omega
  .
   split at h
   .
    obtain⟨_,_,h⟩:=zF0.1 h;split at h <;> omega
   .
    simp at h;omega
mutual
theorem aFb:∀e:Ex,0<=exC m fs p e
 | .mk k n mod name ks=>by
  unfold exC;split
  .
   omega
  .
   rename_i c h;exact pX ks c (aKe h)
theorem pX:∀(l:List Ex) (c:Int),0<=c->0<=jI m fs p c l
 | [],c,h=>by unfold jI;exact h
 | e :: l,c,h=>by unfold jI;exact pX l _ (jK h (aFb e))
end
theorem aAm:∀{l:List Ex} {c:Int},jI m fs p c l=0->0<=c->c=0/\∀e ∈ l,exC m fs p e=0
 | [],c,h,_=>by unfold jI at h;exact⟨h,fun e he=>by cases he⟩
 | x :: l,c,h,hc=>by
  unfold jI at h;obtain⟨h1,h2⟩:=aAm h (jK hc (aFb x));obtain⟨h3,h4⟩:=oR h1 hc (aFb x);exact⟨h3,fun e he=>by rcases zG3.1 he with rfl|he;exact h4;exact h2 e he⟩
theorem aKp {x:List Int}(h:arq m p x=true):aFt m p x=true:=by
 unfold arq at h;unfold aFt;rw[Bool.or_eq_true]at h ⊢;rcases h with h|h
 .
  left;cases hi:ix (p.params.map Pa.name) x with
  | none=>rw[mY hi]at h;simp at h| some i=>rfl
 .
  right;cases hi:ix (m.vars.map Va.name) x with
  | none=>rw[lJ hi]at h;simp at h| some i=>rfl
theorem aHn {mod name:List Int}{ks:List Int}(h:fQ m fs mod name=some ks):aKl m fs mod name=true:=by
 unfold aKl;by_cases hm:mod=[]
 .
  rw[if_pos hm];rw[qT hm]at h;unfold aN2 at h;cases hi:ix (m.procs.map Pr.name) name with
  | none=>rw[hi]at h;simp at h| some i=>rfl
 .
  rw[if_neg hm];rw[qU hm]at h;cases hf:sQ fs mod with
  | none=>rw[hf]at h;simp at h| some f=>
   rw[hf,Option.bind_some]at h;split at h
   .
    unfold wN at h;show(ix (f.procs.map Fp.name) name).isSome=true
    cases hi:ix (f.procs.map Fp.name) name with
    | none=>rw[hi]at h;simp at h| some i=>rfl
   .
    cases h
mutual
theorem aTo:∀e:Ex,uI e=true->exC m fs p e=0->qI m fs p e=true
 | .mk k n mod name ks=>fun h hc=>by
  simp only[uI,iF,zC0,Bool.or_eq_true]at h;obtain⟨⟨⟨⟨h1,⟨h2,h3⟩,h4⟩,h5⟩,h6⟩,h7⟩:=h;unfold exC at hc;split at hc
  .
   omega
  .
   rename_i c hd;obtain⟨rfl,hk⟩:=aAm hc (aKe hd);have h3':dA k<=ks.length/\(ks.length:Int)<=iT k:=by unfold inB at h3;simpa using h3
   have h8:(ks.length:Int)<=4:=by have:=h3'.2;unfold iT at this;split at this <;> (try split at this) <;> (try split at this) <;> omega
   have ha:k=2\/k=5\/k=7->aFt m p name=true:=fun hk7=>by
    rw[gQ,if_neg A0,if_pos hk7]at hd;split at hd
    .
     rename_i hq;exact aKp hq
    .
     cases hd
   have hb:k=6->aKl m fs mod name=true:=fun hk6=>by
    rw[gQ,if_neg A0,if_neg A0,if_pos hk6]at hd;obtain⟨q,hq,_⟩:=zF0.1 hd;exact aHn hq
   have hm:k=6\/mod.length=0:=by
    rcases h5 with h5|h5
    .
     exact .inr (of_decide_eq_true h5)
    .
     exact .inl (of_decide_eq_true h5.1)
   simp only[qI,zC0,Bool.or_eq_true,Bool.not_eq_true',zE3,zH0];refine⟨⟨⟨⟨⟨⟨h1,h3'.1⟩,by omega⟩, ?_⟩, ?_⟩,hm⟩,aEx ks h7 hk⟩
   .
    by_cases hk7:k=2\/k=5\/k=7
    .
     exact .inr (ha hk7)
    .
     exact .inl hk7
   .
    by_cases hk6:k=6
    .
     exact .inr (hb hk6)
    .
     exact .inl hk6
theorem aEx:∀l:List Ex,jW l=true->(∀e ∈ l,exC m fs p e=0)->fW m fs p l=true
 | [],_,_=>by simp[fW]
 | e :: l,h,hc=>by
  simp only[jW,zC0]at h;simp only[fW,zC0];exact⟨aTo e h.1 (hc e A9),aEx l h.2 fun x hx=>hc x (by simp[hx])⟩
end
mutual
theorem aJk:∀(s:St) (c c':Int),stC m fs p c s=some c'->0<=c->0<=c'
 | .mk k n name ks bs es=>fun c c' h hc=>by
  unfold stC at h;split at h
  .
   cases h
  .
   simp only[zG2]at h;rw[<-h];exact jK (pX ks c hc) (jK (gY bs 0 A0) (gY es 0 A0))
theorem gY:∀(l:List St) (c:Int),0<=c->0<=eY m fs p c l
 | [],c,h=>by unfold eY;exact h
 | s :: l,c,h=>by
  unfold eY;split
  .
   omega
  .
   rename_i c' hs;exact gY l c' (aJk s c c' hs h)
end
theorem aA7:∀{l:List St} {c:Int},eY m fs p c l=0->0<=c->c=0/\∀s ∈ l,stC m fs p 0 s=some 0
 | [],c,h,_=>by unfold eY at h;exact⟨h,fun e he=>by cases he⟩
 | s :: l,c,h,hc=>by
  unfold eY at h;split at h
  .
   omega
  .
   rename_i c' hs;obtain⟨h1,h2⟩:=aA7 h (aJk s c c' hs hc);subst h1;have h0:c=0:=by
    obtain⟨k,n,name,ks,bs,es⟩:=s;rw[nM]at hs;split at hs
    .
     cases hs
    .
     simp only[zG2]at hs;exact(aAm (oR hs (pX ks c hc) (jK (gY bs 0 A0) (gY es 0 A0))).1 hc).1
   subst h0;exact⟨rfl,fun x hx=>by rcases zG3.1 hx with rfl|hx;exact hs;exact h2 x hx⟩
mutual
theorem aTn:∀s:St,aF9 s=true->stC m fs p 0 s=some 0->xN m fs p s=true
 | .mk k n name ks bs es=>fun h hc=>by
  simp only[aF9,oU,zC0,Bool.or_eq_true]at h;obtain⟨⟨⟨⟨⟨⟨⟨⟨h1,⟨h2,h3⟩,h4⟩,_⟩,_⟩,_⟩,_⟩,h5⟩,h6⟩,h7⟩:=h;have h3':cD k<=ks.length:=by unfold inB at h3;simp only[zC0,zE3]at h3;exact h3.1
  rw[nM]at hc;split at hc
  .
   cases hc
  .
   rename_i hq;simp only[zG2]at hc;obtain⟨c1,c2⟩:=oR hc (pX ks 0 A0) (jK (gY bs 0 A0) (gY es 0 A0));obtain⟨c3,c4⟩:=oR c2 (gY bs 0 A0) (gY es 0 A0);simp only[xN,zC0,Bool.or_eq_true,Bool.not_eq_true',zE3,zH0];refine⟨⟨⟨⟨⟨h1,h3'⟩, ?_⟩,aEx ks h5 (aAm c1 A0).2⟩,aAi bs h6 (aA7 c3 A0).2⟩,aAi es h7 (aA7 c4 A0).2⟩;by_cases hk:k=1
   .
    right;have:arq m p name=true:=by
     simp only[Bool.or_eq_true,zC0,zE3,Bool.not_eq_true',not_or,not_and]at hq;have:=hq.2 hk;simpa using this
    exact aKp this
   .
    exact .inl hk
theorem aAi:∀l:List St,iY l=true->(∀s ∈ l,stC m fs p 0 s=some 0)->eI m fs p l=true
 | [],_,_=>by simp[eI]
 | s :: l,h,hc=>by
  simp only[iY,zC0]at h;simp only[eI,zC0];exact⟨aTn s h.1 (hc s A9),aAi l h.2 fun x hx=>hc x (by simp[hx])⟩
end
end
def uB (m:Mo)(fs:List Fa):Int->List Pr->Int
 | c,[]=>c| c,q :: l=>uB m fs (dJ c (eY m fs q 0 q.body)) l
theorem wM (m:Mo)(fs:List Fa)(c:Int)(l r:List Pr):uB m fs c (l++r)=uB m fs (uB m fs c l) r:=by
 induction l generalizing c with
 | nil=>simp[uB]| cons e l ih=>simp[uB,ih]
theorem aDk {m:Mo}{fs:List Fa}{c:Int}{l:List Pr}{j:Nat}{q:Pr}(h:l[j]?=some q):uB m fs c (l.take (j+1))=dJ (uB m fs c (l.take j)) (eY m fs q 0 q.body):=by
 obtain⟨hj,rfl⟩:=zC1.1 h;rw[zF1 hj,wM];simp[uB]
theorem aJn {m:Mo}{fs:List Fa}:∀{l:List Pr} {c:Int},uB m fs c l=0->0<=c->c=0/\∀q ∈ l,eY m fs q 0 q.body=0
 | [],c,h,_=>⟨h,fun q hq=>by cases hq⟩
 | q :: l,c,h,hc=>by
  simp only[uB]at h;obtain⟨h1,h2⟩:=aJn h (jK hc (gY q.body 0 A0));obtain⟨h3,h4⟩:=oR h1 hc (gY q.body 0 A0);exact⟨h3,fun x hx=>by rcases zG3.1 hx with rfl|hx;exact h4;exact h2 x hx⟩
structure aRl (m:Mo) (fs:List Fa):Prop where
 vars:m.vars.length<=8
 procs:m.procs.length<=8
 head:∀q ∈ m.procs,q.params.length<=4/\q.locals.length<=8
 gd:∀q ∈ m.procs,eI m fs q q.body=true
 nd:∀q ∈ m.procs,aK q.body<=250
def rg4 (c:Int):Prop:=0<=c/\c<=4
theorem oD {a b:Int}(ha:rg4 a)(hb:rg4 b):rg4 (dJ a b):=by
 unfold dJ rg4 at *;split
 .
  omega
 .
  split <;> omega
theorem aQm {m:Mo}{fs:List Fa}{p:Pr}{e:Ex}{c:Int}(h:hdC m fs p e=some c):rg4 c:=by
 cases e with
 | mk k n mod name kids=>
 rw[gQ]at h;have h0:rg4 0:=⟨by omega,by omega⟩
 split at h
 .
  split at h
  .
   cases h;exact h0
  .
   cases h
 .
  split at h
  .
   split at h
   .
    cases h;exact h0
   .
    cases h
  .
   split at h
   .
    obtain⟨ks,_,e⟩:=zF0.1 h;subst e;split
    .
     exact⟨by omega,by omega⟩
    .
     exact h0
   .
    cases h;exact h0
mutual
theorem aQv (m:Mo)(fs:List Fa)(p:Pr):∀e:Ex,rg4 (exC m fs p e)
 | .mk k n mod name kids=>by
  cases h:hdC m fs p (.mk k n mod name kids) with
  | none=>rw[lB h];exact⟨by omega,by omega⟩
  | some c=>rw[jQ h];exact xW m fs p kids c (aQm h)
theorem xW (m:Mo)(fs:List Fa)(p:Pr):∀(l:List Ex) (c:Int),rg4 c->rg4 (jI m fs p c l)
 | [],c,h=>by unfold jI;exact h
 | e :: l,c,h=>by unfold jI;exact xW m fs p l _ (oD h (aQv m fs p e))
end
mutual
theorem aOh (m:Mo)(fs:List Fa)(p:Pr):∀(s:Go.Proofs.YtcbhdhmhidpdgaaGreat.St) (c c':Int),rg4 c->stC m fs p c s=some c'->rg4 c'
 | .mk k n name kids body els,c,c',h,e=>by
  rw[nM]at e;split at e
  .
   cases e
  .
   cases e;exact oD (xW m fs p kids c h) (oD (sW m fs p body 0 ⟨by omega,by omega⟩) (sW m fs p els 0 ⟨by omega,by omega⟩))
theorem sW (m:Mo)(fs:List Fa)(p:Pr):∀(l:List Go.Proofs.YtcbhdhmhidpdgaaGreat.St) (c:Int),rg4 c->rg4 (eY m fs p c l)
 | [],c,h=>by rw[aA6];exact h
 | s :: l,c,h=>by
  cases e:stC m fs p c s with
  | none=>rw[qA e];exact⟨by omega,by omega⟩
  | some c'=>rw[mN e];exact sW m fs p l c' (aOh m fs p s c c' h e)
end
theorem aDj (m:Mo)(fs:List Fa):∀(l:List Pr) (c:Int),rg4 c->rg4 (uB m fs c l)
 | [],c,h=>h| q :: l,c,h=>aDj m fs l _ (oD h (sW m fs q q.body 0 ⟨by omega,by omega⟩))
theorem aWu {m:Mo}{fs:List Fa}(h1:cI m=true)(h:uB m fs 0 m.procs=0):aRl m fs:=by
 have hq:=(aJn h A0).2;unfold cI at h1;simp only[zC0,zE3]at h1;obtain⟨⟨⟨⟨⟨_,h2⟩,_⟩,h3⟩,h4⟩,h5⟩:=h1;have fit:∀q ∈ m.procs,iY q.body=true/\aK q.body<=250:=fun q hq=>by
  obtain⟨j,hj,rfl⟩:=List.mem_iff_getElem.1 hq;have:=zF3.1 h5 j (List.mem_range.2 hj);rw[zA0 hj,zI0]at this;unfold cJ at this;simp only[zC0,zE3]at this;exact⟨this.1.1,by omega⟩
 refine⟨h2,h3,fun q hq=>?_,fun q hm=>aAi _ (fit q hm).1 (aA7 (hq q hm) A0).2,fun q hq=>(fit q hq).2⟩;have:=zF3.1 h4 q hq;unfold qH at this;simp only[zC0,zE3]at this;exact⟨this.1.1.1.2,this.1.2⟩
end
section
theorem QA117{p:Prop}(h:p:=by
 have:i=0\/i=1\/i=2\/i=3\/i=4:=by omega
 rcases this with rfl|rfl|rfl|rfl|rfl <;> rfl):p:=h
namespace Cp
theorem M963{p q:Prop}(k:q)(h:Kx q->p:=by
 intro kQ
 have hgn:(d.r i).v.ownBlock ≠ some E.g:=fun e=>h.ng i _ hi e rfl
 have hb:Blk w' E.g 119 (cells E d):=(hg.block E.g h.lt (fun e=>hgn e.symm)).trans h.blk
 revert hb;revert hgn
 exact kQ.o):p:=h ⟨k⟩
structure En where
 w0:World
 τ0:Eg.Sm
 g:Nat
 m0:Value
 m1:Value
 m2:Value
 m3:Value
 fa:Option Addr
 fn:Nat
 fc:Nat
 m:Mo
 fs:List Fa
def En.ms (E:En):List Value:=[E.m0,E.m1,E.m2,E.m3]
structure eA (E:En):Prop where
 th:Eg.TH E.τ0 E.w0
 tg:Eg.Tg E.τ0
 gl:E.w0.heap.size<=E.g
 rm:aL E.w0 E.m.fl E.ms
 tm:Eg.RV E.τ0 (Eg.Dt 13).2 E.ms
 rf:aX E.w0 E.fa E.fc 2 (E.fs.map Fa.fl)
 fl:E.fs.length=E.fn
 ok:aRl E.m E.fs
structure RD where
 v:Value
 n:Nat
 xs:List Value
structure GD where
 p:Pr
 p0:Value
 p1:Value
 p2:Value
 p3:Value
 p4:Value
 fr:Int
 mo:Int
 sl:Nat
 s4:Int
 r:Nat->RD
def GD.ps (d:GD):List Value:=[d.p0,d.p1,d.p2,d.p3,d.p4]
def RT:Nat->TypeId
 | 0=>126| 1=>87| _=>3
def RK:Nat->Nat
 | 0=>6| 1=>3| _=>1
def RP:Nat->Nat
 | 0=>10| 1=>13| 2=>14| 3=>15| _=>16
def cells (E:En)(d:GD):List Value:=[E.m0,E.m1,E.m2,E.m3,.slice E.fa E.fn E.fc,d.p0,d.p1,d.p2,d.p3,d.p4,(d.r 0).v,.int .i64 d.fr,.int .i64 d.mo,(d.r 1).v,(d.r 2).v,(d.r 3).v,(d.r 4).v]
def aCv (xs:List Value):Prop:=∀u ∈ xs,∃x,u=.int .i64 x
def aF5 (b:Nat)(xs:List Value):Prop:=∀u ∈ xs,∃x:Nat,u=.int .i64 x/\x<b
def aVm (τ:Eg.Sm)(xs:List Value):Prop:=∃xss:List (List Value),xs=xss.flatten/\∀us ∈ xss,Eg.RV τ [.b 4,.b 4,.n] us
structure El (E:En) (d:GD):Prop where
 e0:aCv (d.r 0).xs
 e1:aVm E.τ0 (d.r 1).xs
 e2:aCv (d.r 2).xs
 n2:(d.r 2).n=E.m.procs.length
 e3:aF5 ((d.r 0).n+d.sl) (d.r 3).xs
 m3:(d.r 3).n<=(d.r 0).n+d.sl
 e4:aF5 E.m.procs.length (d.r 4).xs
 n4:((d.r 4).n:Int)+d.s4=(d.r 3).n
 rp:aL E.w0 d.p.fl d.ps
 hl:d.p.params.length<=4/\d.p.locals.length<=8
structure GS (E:En) (d:GD) (w:World):Prop where
 blk:Blk w E.g 119 (cells E d)
 bel:Below E.w0.heap.size E.w0 w
 row:∀i,i<5->w.ownsRow E.w0.heap.size (RT i) (RK i) (d.r i).v (d.r i).n (d.r i).xs
 dj:∀i j b,i<5->j<5->i ≠ j->(d.r i).v.ownBlock=some b->(d.r j).v.ownBlock ≠ some b
 ng:∀i b,i<5->(d.r i).v.ownBlock=some b->b ≠ E.g
 el:El E d
def aHg (T:TypeId):Bool:=T == 126 || T == 3 || T == 87 || T == 119
structure Kt (w w':World):Prop where
 size:w.heap.size<=w'.heap.size
 blk:∀(b:Nat) (cs:Array Value) (T:TypeId) (fl:Nat × Nat),w.heap[b]?=some (Obj.cells cs T fl)->aHg T=false->w'.heap[b]?=w.heap[b]?
theorem Kt.refl (w:World):Kt w w:=⟨zB0 _,fun _ _ _ _ _ _=>rfl⟩
theorem Kt.trans {a b c:World}(h:Kt a b)(k:Kt b c):Kt a c:=⟨zF2 h.size k.size,fun q cs T fl e hm=>by
 have h1:=h.blk q cs T fl e hm;exact(k.blk q cs T fl (h1.trans e) hm).trans h1⟩
theorem Kt.below {w w':World}(h:Below w.heap.size w w'):Kt w w':=⟨h.size,fun b cs T fl e _=>h.block b (zI3.1 e).1⟩
theorem Kt.b {w w':World}{g:Nat}{T:TypeId}{vs:List Value}(h:Kt w w')(hm:aHg T=false)(hb:Blk w g T vs):Blk w' g T vs:=(h.blk g _ T _ hb hm).trans hb
theorem Kt.grown {w w':World}{r:Option Nat}(h:w.grownBy w' r)(hr:∀b,r=some b->∀(cs:Array Value) (T:TypeId) (fl:Nat × Nat),w.heap[b]?=some (Obj.cells cs T fl)->aHg T=true):Kt w w':=⟨h.size,fun b cs T fl e hm=>by
 by_cases hb:r=some b
 .
  rw[hr b hb cs T fl e]at hm;cases hm
 .
  exact h.block b (zI3.1 e).1 (fun e9=>hb e9.symm)⟩
theorem mU {i:Nat}:aHg (RT i)=true:=by
 match i with
 | 0=>rfl| 1=>rfl| _+2=>rfl
section
variable {E:En} {d:GD} {w w':World}
theorem jD {T k base n b:Nat}{v:Value}{xs:List Value}(h:w.ownsRow base T k v n xs)(hb:v.ownBlock=some b):∃cs,w.heap[b]?=some (Obj.cells cs T (0,0)):=by
 rcases h.2 with⟨rfl,_⟩|⟨g,cap,cur,rfl,_,hh,_⟩
 .
  cases hb
 .
  cases hb;exact⟨cur,hh⟩
theorem GS.lt (h:GS E d w):E.g<w.heap.size:=h.blk.lt
theorem GS.on (h:GS E d w)(hE:eA E)(hb:Below w.heap.size w w'):GS E d w':=
 ⟨h.blk.below hb h.lt,h.bel.trans (hb.mono h.bel.size),fun i hi=>bW (h.row i hi) fun b Em=>hb.block b ((h.row i hi).lt b Em).2,h.dj,h.ng,h.el⟩
theorem GS.drew (h:GS E d w)(hE:eA E):GS E d w.drew:=h.on hE ((zD2 _ _).drew)
theorem GS.alloc (h:GS E d w)(hE:eA E)(o:Obj):GS E d (w.alloc o):=h.on hE ((zD2 _ _).alloc (zB0 _) o)
def GD.put (d:GD)(i:Nat)(q:RD):GD:={ d with r:=fun j=>if j=i then q else d.r j }
theorem GD.put_at (d:GD)(i:Nat)(q:RD):(d.put i q).r i=q:=if_pos rfl
theorem GD.put_ne {d:GD}{i j:Nat}{q:RD}(h:j ≠ i):(d.put i q).r j=d.r j:=if_neg h
theorem vN (E:En)(d:GD){i:Nat}(hi:i<5)(q:RD):cells E (d.put i q)=(cells E d).set (RP i) q.v:=by
 exact QA117
def GD.at (d:GD)(a:Nat)(b:Int):GD:={ d with sl:=a,s4:=b }
theorem GS.put (h:GS E d w)(hE:eA E){i:Nat}(hi:i<5){q:RD}(hg:w.grownBy w' (d.r i).v.ownBlock)(ho:w'.ownsRow E.w0.heap.size (RT i) (RK i) q.v q.n q.xs)(hl:∀b,q.v.ownBlock=some b->(d.r i).v.ownBlock=some b\/w.heap.size<=b)(a9:Nat)(b9:Int)(he:El E ((d.at a9 b9).put i q)):GS E ((d.at a9 b9).put i q) (w'.setCell ⟨E.g,RP i,none⟩ q.v):=by
 refine M963 ?_;intro hgn hb;have hng:∀j b,j<5->(((d.at a9 b9).put i q).r j).v.ownBlock=some b->b ≠ E.g:=fun j b hj e=>by
  by_cases Kb:j=i
  .
   subst Kb;rw[GD.put_at]at e;rcases hl b e with e1|e1
   .
    exact h.ng j b hj e1
   .
    have:=h.lt;omega
  .
   rw[GD.put_ne Kb]at e;exact h.ng j b hj e
 have An:∀j,j<5->w'.ownsRow E.w0.heap.size (RT j) (RK j) (((d.at a9 b9).put i q).r j).v (((d.at a9 b9).put i q).r j).n (((d.at a9 b9).put i q).r j).xs:=fun j hj=>by
  by_cases Kb:j=i
  .
   subst Kb;rw[GD.put_at];exact ho
  .
   rw[GD.put_ne Kb];exact bW (h.row j hj) fun b Em=>hg.block b ((h.row j hj).lt b Em).2 (fun e=>h.dj i j b hi hj (fun e9=>Kb e9.symm) e.symm Em)
 refine⟨?_, ?_,fun j hj=>bW (An j hj) fun b Em=>heap_setCell_other w' ⟨E.g,RP i,none⟩ b q.v (hng j b hj Em),fun j k b hj hk hjk e1 e2=>?_,hng,he⟩
 .
  rw[vN E (d.at a9 b9) hi q];exact hb.set q.v
 .
  have h1:Below E.w0.heap.size E.w0 w':=h.bel.grown hg h.bel.size (fun b e=>((h.row i hi).lt b e).1);exact h1.setCell (p:=⟨E.g,RP i,none⟩) hE.gl q.v
 .
  by_cases Kb:j=i
  .
   subst Kb;rw[GD.put_at]at e1;rw[GD.put_ne (fun e=>hjk e.symm)]at e2;rcases hl b e1 with e3|e3
   .
    exact h.dj j k b hj hk hjk e3 e2
   .
    have:=((h.row k hk).lt b e2).2;omega
  .
   rw[GD.put_ne Kb]at e1;by_cases hki:k=i
   .
    subst hki;rw[GD.put_at]at e2;rcases hl b e2 with e3|e3
    .
     exact h.dj j k b hj hk hjk e1 e3
    .
     have:=((h.row j hj).lt b e1).2;omega
   .
    rw[GD.put_ne hki]at e2;exact h.dj j k b hj hk hjk e1 e2
theorem GS.kt (h:GS E d w){i:Nat}(hi:i<5)(hg:w.grownBy w' (d.r i).v.ownBlock)(v:Value):Kt w (w'.setCell ⟨E.g,RP i,none⟩ v):=by
 refine M963 ?_;intro hgn hb;have h1:Kt w w':=Kt.grown hg fun b e cs T fl hb=>by
  obtain⟨Rf,e'⟩:=jD (h.row i hi) e;rw[e']at hb;cases hb;exact mU
 refine h1.trans ⟨by simp,fun b cs T fl e hm=>?_⟩;by_cases Lr:b=E.g
 .
  subst Lr;rw[hb]at e;cases e;cases hm
 .
  exact heap_setCell_other w' ⟨E.g,RP i,none⟩ b v Lr
theorem GS.own (h:GS E d w)(hE:eA E){d':GD}{cs:List Value}{o:Nat}(hr:d'.r=d.r)(hc:Blk (w.setCells E.g o cs) E.g 119 (cells E d'))(he:El E d'):GS E d' (w.setCells E.g o cs):=by
 have hs:=Eg.setCells_same E.g cs o w;refine⟨hc,⟨hs.1.trans h.bel.os,hs.2.1.trans h.bel.tape,hs.2.2.1.trans h.bel.output,by rw[hs.2.2.2];exact h.bel.size,fun b hb=>(Eg.heap_setCells_other E.g cs o w b (by have:=hE.gl;omega)).trans (h.bel.block b hb)⟩,fun i hi=>?_, ?_, ?_,he⟩
 .
  rw[hr];exact bW (h.row i hi) fun b hb=>Eg.heap_setCells_other E.g cs o w b (h.ng i b hi hb)
 .
  rw[hr];exact h.dj
 .
  rw[hr];exact h.ng
theorem GS.kto (h:GS E d w)(cs:List Value)(o:Nat):Kt w (w.setCells E.g o cs):=⟨by rw[(Eg.setCells_same E.g cs o w).2.2.2];exact zB0 _,fun b Rf T fl e hm=>by
 by_cases Lr:b=E.g
 .
  subst Lr;rw[h.blk]at e;cases e;cases hm
 .
  exact Eg.heap_setCells_other E.g cs o w b Lr⟩
theorem GS.cell (h:GS E d w)(hE:eA E){i b n c:Nat}(hi:i<5)(hv:(d.r i).v=.slice (some ⟨b,0,none⟩) n c)(j:Nat)(u:Value)(he:El E (d.put i ⟨(d.r i).v,(d.r i).n,(d.r i).xs.set j u⟩)):GS E (d.put i ⟨(d.r i).v,(d.r i).n,(d.r i).xs.set j u⟩) (w.setCell ⟨b,j,none⟩ u)/\Kt w (w.setCell ⟨b,j,none⟩ u):=by
 have Ak:(d.r i).v.ownBlock=some b:=by rw[hv];rfl
 have Lr:=h.ng i b hi Ak;have hn:(d.r i).n=n:=by
  obtain⟨a,c',e,_⟩:=aH (h.row i hi);rw[hv]at e;simp only[Value.slice.injEq]at e;exact e.2.1.symm
 have hr:=h.row i hi;rw[hv,hn]at hr;obtain⟨hs,hg⟩:=hr.stored j u;have Yh:∀k,k ≠ b->(w.setCell ⟨b,j,none⟩ u).heap[k]?=w.heap[k]?:=fun k hk=>heap_setCell_other w ⟨b,j,none⟩ k u hk;obtain⟨cs,Kv⟩:=jD (h.row i hi) Ak;refine⟨⟨?_,h.bel.setCell (p:=⟨b,j,none⟩) ((h.row i hi).lt b Ak).1 u,fun k hk=>?_, ?_, ?_,he⟩,⟨by simp,fun k Rf T fl e hm=>?_⟩⟩
 .
  rw[vN E d hi];have:(cells E d).set (RP i) (d.r i).v=cells E d:=by
   exact QA117
  show Blk _ _ _ ((cells E d).set (RP i) (d.r i).v)
  rw[this];exact(Yh _ (fun e=>Lr e.symm)).trans h.blk
 .
  by_cases hki:k=i
  .
   subst hki;rw[GD.put_at];show World.ownsRow _ _ _ _ (d.r k).v (d.r k).n _
   rw[hv,hn];exact hs
  .
   rw[GD.put_ne hki];exact bW (h.row k hk) fun q hq=>Yh q (fun e=>h.dj i k b hi hk (fun e9=>hki e9.symm) Ak (by rw[<-e];exact hq))
 .
  intro p q z hp hq hpq e1 e2;have f:∀z,((d.put i ⟨(d.r i).v,(d.r i).n,(d.r i).xs.set j u⟩).r z).v=(d.r z).v:=fun z=>by
   by_cases hz:z=i
   .
    subst hz;rw[GD.put_at]
   .
    rw[GD.put_ne hz]
  rw[f]at e1 e2;exact h.dj p q z hp hq hpq e1 e2
 .
  intro p z hp e1;have f:((d.put i ⟨(d.r i).v,(d.r i).n,(d.r i).xs.set j u⟩).r p).v=(d.r p).v:=by
   by_cases hz:p=i
   .
    subst hz;rw[GD.put_at]
   .
    rw[GD.put_ne hz]
  rw[f]at e1;exact h.ng p z hp e1
 .
  by_cases Fk:k=b
  .
   subst Fk;rw[Kv]at e;cases e;rw[mU]at hm;cases hm
  .
   exact Yh k Fk
end
structure Up (d d':GD) (c:Nat):Prop where
 p:d'.p=d.p/\d'.ps=d.ps
 fr:d'.fr=d.fr
 r1:d'.r 1=d.r 1
 r2:d'.r 2=d.r 2
 n0:(d.r 0).n<=(d'.r 0).n
 n1:(d'.r 0).n<=(d.r 0).n+c
 n3:(d.r 3).n<=(d'.r 3).n
 x3:∃us,(d'.r 3).xs=(d.r 3).xs++us
 x4:∃us,(d'.r 4).xs=(d.r 4).xs++us
theorem Up.refl (d:GD):Up d d 0:=⟨⟨rfl,rfl⟩,rfl,rfl,rfl,zB0 _,zB0 _,zB0 _,⟨[],by simp⟩,⟨[],by simp⟩⟩
theorem Up.trans {a b c:GD}{m n:Nat}(h:Up a b m)(k:Up b c n):Up a c (m+n):=by
 obtain⟨u3,h3⟩:=h.x3;obtain⟨u4,h4⟩:=h.x4;obtain⟨v3,k3⟩:=k.x3;obtain⟨v4,k4⟩:=k.x4;have:=h.n1;have:=k.n1;exact⟨⟨k.p.1.trans h.p.1,k.p.2.trans h.p.2⟩,k.fr.trans h.fr,k.r1.trans h.r1,k.r2.trans h.r2,zF2 h.n0 k.n0,by omega,zF2 h.n3 k.n3,⟨u3++v3,by rw[k3,h3,zD0]⟩,⟨u4++v4,by rw[k4,h4,zD0]⟩⟩
theorem Up.wide {d d':GD}{c c':Nat}(h:Up d d' c)(hc:c<=c'):Up d d' c':=⟨h.p,h.fr,h.r1,h.r2,h.n0,by have:=h.n1;omega,h.n3,h.x3,h.x4⟩
end Cp
end
section
namespace Cp
variable{tmps:Array Value}{E:En}{R:Ending->World->Prop}{fn:Func}{us xs:List Value}{w:World}
theorem aWp (n:Int):Eg.I64 (wrap64 n):=by unfold Eg.I64 wrap64;omega
theorem aQj:(Tryz.prog.info? 126).map (fun i=>(i.zero,i.size,i.bytes))=some (some (.agg #[.int .i64 0,.int .i64 0,.int .i64 0,.int .i64 0,.int .i64 0,.int .i64 0]),6,48):=by kernel_rfl
theorem aH4:(Tryz.prog.info? 3).map (fun i=>(i.zero,i.size,i.bytes))=some (some (.int .i64 0),1,8):=by kernel_rfl
theorem aU3(hf:fn.results=#[])(tmps:Array Value)(w:World):(results fn tmps).run Tryz.prog w=.ok (.tuple #[]) w:=by simp[results,hf]
theorem aLk(hf:fn.results=#[])(hR:R (.returned (.tuple #[])) w):bodyPost Tryz.prog fn R .ret { tmps:=tmps,defers:=[] } w:=⟨rfl,_,aU3 hf _ _,hR⟩
theorem oJ(hf:fn.results=#[])(hR:R (.returned (.tuple #[])) w):bodyPost Tryz.prog fn R .normal { tmps:=tmps,defers:=[] } w:=⟨rfl,_,aU3 hf _ _,hR⟩
theorem mR{o:Oper}{a:Act}{K:Act->World->Prop}{Q:Exit->Act->World->Prop}{t T k bytes:Nat}{z:Value}(info:(Tryz.prog.info? T).map (fun i=>(i.zero,i.size,i.bytes))=some (some z,k,bytes))(ht:Tryz.prog.underlying t=some (.slice T))(hzs:z.cells.size=k)(hk:0<k)(Bu:bytes<=1000)(s x:Operand)
  (ho:o.op=.call { callee:=.builtin .append,args:=#[s,x],argTypes:=#[t,t] }) {base n:Nat} {v:Value} {xs:List Value} (hs:a.eval s=v) (hg:w.ownsRow base T k v n xs) {g:Nat} {us:List Value} (hx:a.eval x=.slice (some ⟨g,0,none⟩) 1 1) (hb:Blk w g T us) (hl:us.length=k) (h1:∀u ∈ us,u.oneCell'=true) (Bg:n<=1000000) (hN:base<=w.heap.size)
  (h:∀g' c w',w'.ownsRow base T k (.slice (some ⟨g',0,none⟩) (n+1) c) (n+1) (xs++us)->w.grownBy w' v.ownBlock->(v.ownBlock=some g'\/g'=w.heap.size)->K (a.put o.dst (.slice (some ⟨g',0,none⟩) (n+1) c)) w'):o.wp Tryz.prog a w K Q:=by
 obtain⟨i0,hi,Dc,De,Db⟩:=info_parts info;refine wp_append_lies w s x t ho base T i0 z k bytes ht hi Dc De Db hzs hk v n xs hs hg ⟨g,0,none⟩ 1 1 us hx A0 (fun j u hu=>?_) h1 A6 A13 (by have:(n+1)*bytes<=1000001*1000:=Nat.mul_le_mul A0 Bu;omega) hN _ rfl (fun g' c w' a1 a2 a3 a4=>h g' c w' a1 a2 a3);rw[Addr.add_lit,zJ1];exact hb.cell hu
theorem xJ(h:aCv us):∀u ∈ us,u.oneCell'=true:=fun u hu=>by obtain⟨x,rfl⟩:=h u hu;rfl
def Cl (E:En)(d:GD)(w:World)(c:Nat)(e:Ending)(w':World):Prop:=e=.returned (.tuple #[])/\∃d',GS E d' w'/\Up d d' c/\Kt w w'/\d'.sl=0/\d'.s4=d.s4/\d'.r 3=d.r 3/\d'.r 4=d.r 4/\(d'.r 0).n=(d.r 0).n+c
theorem aI8(h:aCv xs)(k:aCv us):aCv (xs++us):=fun u hu=>(List.mem_append.1 hu).elim (h u) (k u)
theorem aF5.mono{b b':Nat}(h:aF5 b xs)(hb:b<=b'):aF5 b' xs:=fun u hu=>by
 obtain⟨x,e,hx⟩:=h u hu;exact⟨x,e,by omega⟩
theorem El.more{d:GD}(h:El E d)(hs:d.sl<=1){v:Value}{us:List Value}(hu:aCv us):El E ((d.at 0 d.s4).put 0 ⟨v,(d.r 0).n+1,(d.r 0).xs++us⟩):=
 ⟨aI8 h.e0 hu,h.e1,h.e2,h.n2,h.e3.mono (by show(d.r 0).n+d.sl<=(d.r 0).n+1+0;omega),by have:=h.m3;show(d.r 3).n<=(d.r 0).n+1+0;omega,h.e4,h.n4,h.rp,h.hl⟩
theorem Up.more (d:GD)(v:Value)(us:List Value):Up d ((d.at 0 d.s4).put 0 ⟨v,(d.r 0).n+1,(d.r 0).xs++us⟩) 1:=
 ⟨⟨rfl,rfl⟩,rfl,rfl,rfl,Nat.le_succ _,zB0 _,zB0 _,⟨[],by simp[GD.put,GD.at]⟩,⟨[],by simp[GD.put,GD.at]⟩⟩
set_option maxHeartbeats 8000000 in
theorem aSv{d:GD}(hE:eA E)(h:GS E d w)(hsl:d.sl<=1)(hn:(d.r 0).n<=1000000)(x0 x1 x2 x3 x4 x5:Int):
  Calls Tryz.prog 79 #[.pointer (some ⟨E.g,0,none⟩),.agg #[.int .i64 x0,.int .i64 x1,.int .i64 x2,.int .i64 x3,.int .i64 x4,.int .i64 x5]] w (Cl E d w 1):=by
 have HU:Hid (aCv [.int .i64 x0,.int .i64 x1,.int .i64 x2,.int .i64 x3,.int .i64 x4,.int .i64 x5]):=by
  intro u hu;simp only[zG3,List.not_mem_nil,or_false]at hu;rcases hu with rfl|rfl|rfl|rfl|rfl|rfl
  .
   exact⟨_,rfl⟩
  .
   exact⟨_,rfl⟩
  .
   exact⟨_,rfl⟩
  .
   exact⟨_,rfl⟩
  .
   exact⟨_,rfl⟩
  .
   exact⟨_,rfl⟩
 have HE:Hid (eA E):=hE;have HN:Hid ((d.r 0).n<=1000000):=hn;have HSL:Hid (d.sl<=1):=hsl;have HG:Hid (GS E d w):=h;have y1:Below w.heap.size w (w.alloc (.cells #[.int .i64 x0,.int .i64 x1,.int .i64 x2,.int .i64 x3,.int .i64 x4,.int .i64 x5] 126 (0,0))):=(zD2 _ _).alloc (zB0 _) _;have x1b:=Blk.new w 126 [.int .i64 x0,.int .i64 x1,.int .i64 x2,.int .i64 x3,.int .i64 x4,.int .i64 x5];have Y1:Hid (Below w.heap.size w (w.alloc (.cells #[.int .i64 x0,.int .i64 x1,.int .i64 x2,.int .i64 x3,.int .i64 x4,.int .i64 x5] 126 (0,0)))):=y1;have gb:=(h.on hE y1).blk;simp only[List.toArray]at x1b;obtain⟨g,hg⟩:=zx (E.g);have Mh:Hid (E.g=g):=hg.symm;rw[<-hg]at gb ⊢;obtain⟨cv,hcv⟩:=zx ((d.r 0).v);have HCV:Hid ((d.r 0).v=cv):=hcv.symm;have Fm:=gb.cell (i:=10) (v:=cv) (by rw[hcv];rfl);obtain⟨gx,Au⟩:=zx (w.heap.size);have HGX:Hid (w.heap.size=gx):=Au.symm;clear hE hn hsl h y1 gb hg hcv;go_enter Tryz.func79,Tryz.ntmps79;go_upto_region 1 with fail;generalize w.alloc (.cells #[.int .i64 x0,.int .i64 x1,.int .i64 x2,.int .i64 x3,.int .i64 x4,.int .i64 x5] 126 (0,0))=w1 at *;rw[<-Au]at x1b ⊢;clear Au;have Bj:∀wl,Below w1.heap.size w1 wl->wl.cell? ⟨g,10,none⟩=some cv/\wl.cell? ⟨gx,0,none⟩=some (.int .i64 x0)/\wl.cell? ⟨gx,1,none⟩=some (.int .i64 x1)/\wl.cell? ⟨gx,2,none⟩=some (.int .i64 x2)/\wl.cell? ⟨gx,3,none⟩=some (.int .i64 x3)/\wl.cell? ⟨gx,4,none⟩=some (.int .i64 x4)/\wl.cell? ⟨gx,5,none⟩=some (.int .i64 x5):=fun wl hb=>⟨aB Fm hb,aB (x1b.k 0) hb,aB (x1b.k 1) hb,aB (x1b.k 2) hb,aB (x1b.k 3) hb,aB (x1b.k 4) hb,aB (x1b.k 5) hb⟩;have Bq:=Bj w1.drew (zD2 _ _).drew;refine rl 10 (S:=fun wl=>wl.cell? ⟨g,10,none⟩=some cv/\wl.cell? ⟨gx,0,none⟩=some (.int .i64 x0)/\wl.cell? ⟨gx,1,none⟩=some (.int .i64 x1)/\wl.cell? ⟨gx,2,none⟩=some (.int .i64 x2)/\wl.cell? ⟨gx,3,none⟩=some (.int .i64 x3)/\wl.cell? ⟨gx,4,none⟩=some (.int .i64 x4)/\wl.cell? ⟨gx,5,none⟩=some (.int .i64 x5)) A1 Bq (fun Aa=>?_);refine la 0 ?_;refine la 1 ?_;refine la 2 ?_;try simp only[nrm]
 refine la 3 ?_;refine la 4 ?_;refine la 5 ?_;try simp only[nrm]
 try simp only[nrm]
 have xC:Blk (w1.alloc (.cells #[.int .i64 x0,.int .i64 x1,.int .i64 x2,.int .i64 x3,.int .i64 x4,.int .i64 x5] 126 (0,0))).drew w1.heap.size 126 [.int .i64 x0,.int .i64 x1,.int .i64 x2,.int .i64 x3,.int .i64 x4,.int .i64 x5]:=Blk.new w1 126 [.int .i64 x0,.int .i64 x1,.int .i64 x2,.int .i64 x3,.int .i64 x4,.int .i64 x5];have bc:Below w1.heap.size w1 (w1.alloc (.cells #[.int .i64 x0,.int .i64 x1,.int .i64 x2,.int .i64 x3,.int .i64 x4,.int .i64 x5] 126 (0,0))).drew:=((zD2 w1.heap.size w1).alloc (zB0 _) _).drew;have Fy:=Bj _ bc;refine da 6 fun K hK=>?_;go_simp;refine hK.out _ _ (Fy) (fun Aa=>?_);clear hK K;try simp only[nrm]
 have Er:Hid (GS E d (w1.alloc (.cells #[.int .i64 x0,.int .i64 x1,.int .i64 x2,.int .i64 x3,.int .i64 x4,.int .i64 x5] 126 (0,0))).drew):=HG.out.on HE.out (Y1.out.trans (bc.mono Y1.out.size));have HK2:Hid (Kt w (w1.alloc (.cells #[.int .i64 x0,.int .i64 x1,.int .i64 x2,.int .i64 x3,.int .i64 x4,.int .i64 x5] 126 (0,0))).drew):=Kt.below (Y1.out.trans (bc.mono Y1.out.size));generalize (w1.alloc (.cells #[.int .i64 x0,.int .i64 x1,.int .i64 x2,.int .i64 x3,.int .i64 x4,.int .i64 x5] 126 (0,0))).drew=w2 at *;generalize w1.heap.size=gy at *;have An:w2.ownsRow E.w0.heap.size 126 6 cv (d.r 0).n (d.r 0).xs:=by have:=Er.out.row 0 A0;rw[HCV.out]at this;exact this
 refine da 7 fun K hK=>?_;rw[if_pos A1];refine mR aQj Tryz.underlying117 rfl A6 A6 _ _ rfl (v:=cv) rfl An rfl xC rfl (xJ HU.out) HN.out Er.out.bel.size ?_;intro g' c' w3 ho Am hl;have HO:Hid (w3.ownsRow E.w0.heap.size 126 6 (.slice (some ⟨g',0,none⟩) ((d.r 0).n+1) c') ((d.r 0).n+1) ((d.r 0).xs++[.int .i64 x0,.int .i64 x1,.int .i64 x2,.int .i64 x3,.int .i64 x4,.int .i64 x5])):=ho;have Cc:w2.grownBy w3 (d.r 0).v.ownBlock:=by rw[HCV.out];exact Am
 have HF:Hid (GS E ((d.at 0 d.s4).put 0 ⟨.slice (some ⟨g',0,none⟩) ((d.r 0).n+1) c',(d.r 0).n+1,(d.r 0).xs++[.int .i64 x0,.int .i64 x1,.int .i64 x2,.int .i64 x3,.int .i64 x4,.int .i64 x5]⟩) (w3.setCell ⟨g,10,none⟩ (.slice (some ⟨g',0,none⟩) ((d.r 0).n+1) c'))):=by
  have:=Er.out.put HE.out (i:=0) A0 (q:=(⟨.slice (some ⟨g',0,none⟩) ((d.r 0).n+1) c',(d.r 0).n+1,(d.r 0).xs++[Value.int .i64 x0,Value.int .i64 x1,Value.int .i64 x2,Value.int .i64 x3,Value.int .i64 x4,Value.int .i64 x5]⟩:RD)) Cc HO.out (fun b hb=>by
   have hb:some g'=some b:=hb;rw[HCV.out];cases hb;rcases hl with hl|hl
   .
    exact .inl hl
   .
    right;omega) 0 d.s4 (Er.out.el.more HSL.out HU.out)
  rw[Mh.out]at this;exact this
 have Zm:Hid (Kt w (w3.setCell ⟨g,10,none⟩ (.slice (some ⟨g',0,none⟩) ((d.r 0).n+1) c'))):=by
  have:=Er.out.kt (i:=0) A0 Cc (.slice (some ⟨g',0,none⟩) ((d.r 0).n+1) c');rw[Mh.out]at this;exact HK2.out.trans this
 have Mm:g<w2.heap.size:=by have:=Er.out.lt;rw[Mh.out]at this;exact this
 have Et:w3.heap[g]?=w2.heap[g]?:=Cc.block g Mm (fun e=>Er.out.ng 0 g A0 e.symm Mh.out.symm);have b2:Blk w2 g 119 (cells E d):=by have:=Er.out.blk;rw[Mh.out]at this;exact this
 have b3:Blk w3 g 119 (cells E d):=Et.trans b2;have Id:=b3.cell (i:=10) (v:=cv) (by rw[<-HCV.out];rfl);have f10:=b3.free 10;have bx:∀i v,w2.cell? ⟨gx,i,none⟩=some v->w3.cell? ⟨gx,i,none⟩=some v:=fun i v hv=>Am.cell hv (fun e=>by
  have h9:=((HG.out.row 0 A0).lt gx (by rw[HCV.out];exact e.symm)).2;have:=HGX.out;omega)
 have h9:=(⟨Id,bx 0 _ Fy.2.1,bx 1 _ Fy.2.2.1,bx 2 _ Fy.2.2.2.1,bx 3 _ Fy.2.2.2.2.1,bx 4 _ Fy.2.2.2.2.2.1,bx 5 _ Fy.2.2.2.2.2.2⟩:w3.cell? ⟨g,10,none⟩=some cv/\w3.cell? ⟨gx,0,none⟩=some (.int .i64 x0)/\w3.cell? ⟨gx,1,none⟩=some (.int .i64 x1)/\w3.cell? ⟨gx,2,none⟩=some (.int .i64 x2)/\w3.cell? ⟨gx,3,none⟩=some (.int .i64 x3)/\w3.cell? ⟨gx,4,none⟩=some (.int .i64 x4)/\w3.cell? ⟨gx,5,none⟩=some (.int .i64 x5))
 refine hK.out _ _ (h9) (fun Aa=>?_);clear hK K;try simp only[nrm]
 refine da 8 fun K hK=>?_;go_simp;refine hK.out _ _ (h9) (fun Aa=>?_);clear hK K;try simp only[nrm]
 refine la 9 ?_;try simp only[nrm]
 refine ea fun K hK=>?_;go_simp;refine hK.out _ _ ?_;clear hK K Aa;go_wp2_with fail;exact oJ Tryz.results79 ⟨rfl,_,HF.out,Up.more d _ _,Zm.out,rfl,rfl,rfl,rfl,rfl⟩
end Cp
end
section
theorem A88{p:Prop}(h:p:=by have:=s.up.n1;omega):p:=h
theorem A92{p:Prop}(h:p:=by rw[<-e];rfl):p:=h
namespace Cp
structure St (E:En) (d:GD) (w:World) (c:Nat) (d':GD) (w':World):Prop where
 gs:GS E d' w'
 up:Up d d' c
 kt:Kt w w'
 sl:d'.sl=0
 s4:d'.s4=0
section
variable {E:En} {d d1:GD} {w w1 w2:World} {c:Nat} {Q:Ending->World->Prop}
theorem St.start (h:GS E d w)(h1:d.sl=0)(h2:d.s4=0):St E d w 0 d w:=⟨h,Up.refl d,Kt.refl w,h1,h2⟩
theorem St.on (s:St E d w c d1 w1)(hE:eA E)(hb:Below w1.heap.size w1 w2):St E d w c d1 w2:=⟨s.gs.on hE hb,s.up,s.kt.trans (Kt.below hb),s.sl,s.s4⟩
theorem St.dN (s:St E d w c d1 w1)(hE:eA E)(n:Nat):St E d w c d1 (w1.drewN n):=s.on hE ⟨rfl,rfl,rfl,zB0 _,fun _ _=>rfl⟩
theorem St.wide {c':Nat}(s:St E d w c d1 w1)(hc:c<=c'):St E d w c' d1 w1:=⟨s.gs,s.up.wide hc,s.kt,s.sl,s.s4⟩
theorem St.b {g:Nat}{T:TypeId}{vs:List Value}(s:St E d w c d1 w1)(hb:Blk w g T vs)(hm:aHg T=false:=by decide):Blk w1 g T vs:=s.kt.b hm hb
theorem St.trans {c':Nat}{d2:GD}{w2:World}(s:St E d w c d1 w1)(t:St E d1 w1 c' d2 w2):St E d w (c+c') d2 w2:=⟨t.gs,s.up.trans t.up,s.kt.trans t.kt,t.sl,t.s4⟩
theorem St.bel (s:St E d w c d1 w1):Below E.w0.heap.size E.w0 w1:=s.gs.bel
theorem eU (hE:eA E)(s:St E d w c d1 w1)(hn:(d.r 0).n+c<=1000000){x0 x1 x2 x3 x4 x5:Int}(k:∀d' w',St E d w (c+1) d' w'->Q (.returned (.tuple #[])) w'):
  Calls Tryz.prog 79 #[.pointer (some ⟨E.g,0,none⟩),.agg #[.int .i64 x0,.int .i64 x1,.int .i64 x2,.int .i64 x3,.int .i64 x4,.int .i64 x5]] w1 Q:=by
 refine(aSv hE s.gs (by have:=s.sl;omega) A88 x0 x1 x2 x3 x4 x5).mono ?_;rintro e w' ⟨rfl,d',a1,a2,a3,a4,a5,_⟩;exact k d' w' ⟨a1,s.up.trans a2,s.kt.trans a3,a4,a5.trans s.s4⟩
theorem St.code (s:St E d w c d1 w1):∃a n q,(d1.r 0).v=.slice a n q/\(d1.r 0).n=n/\n<=(d.r 0).n+c/\(d.r 0).n<=n/\w1.cell? ⟨E.g,10,none⟩=some (.slice a n q):=by
 obtain⟨a,q,e,_⟩:=aH (s.gs.row 0 A0);exact⟨a,_,q,e,rfl,s.up.n1,s.up.n0,s.gs.blk.cell (i:=10) (v:=.slice a _ q) A92⟩
theorem GS.proc (h:GS E d w):∃a n q b m r,d.p.params.length=n/\d.p.locals.length=m/\w.cell? ⟨E.g,7,none⟩=some (.slice a n q)/\w.cell? ⟨E.g,8,none⟩=some (.slice b m r)/\n<=q/\q<=maxLen/\m<=r/\r<=maxLen:=by
 obtain⟨y0,_,e0,_,y1,_,e1,_,y2,_,e2,h2,y3,_,e3,h3,y4,_,e4,_,_⟩:=h.el.rp;simp only[GD.ps,zJ3]at e0;obtain⟨rfl,rfl⟩:=e0;simp only[zJ3]at e1;obtain⟨rfl,rfl⟩:=e1;simp only[zJ3]at e2;obtain⟨e2,rfl⟩:=e2;simp only[zJ3]at e3;obtain⟨e3,_⟩:=e3;obtain⟨a,q,e5,h5,h6,_⟩:=h2;obtain⟨b,r,e6,h7,h8,_⟩:=h3;rw[zB2]at e5 h5;have hl:(dK d.p.locals).length=d.p.locals.length:=by simp[dK]
 rw[hl]at e6 h7;exact⟨a,_,q,b,_,r,rfl,rfl,h.blk.cell (i:=7) (v:=.slice a _ q) (by rw[<-e5,<-e2];rfl),h.blk.cell (i:=8) (v:=.slice b _ r) (by rw[<-e6,<-e3];rfl),h5,h6,h7,h8⟩
theorem St.most (s:St E d w c d1 w1)(hE:eA E)(x:Int):St E d w c { d1 with mo:=x } (w1.setCell ⟨E.g,12,none⟩ (.int .i64 x)):=by
 have e:=s.gs.el;exact⟨s.gs.own hE (d':={ d1 with mo:=x }) (cs:=[.int .i64 x]) (o:=12) rfl (s.gs.blk.set (i:=12) (.int .i64 x)) ⟨e.e0,e.e1,e.e2,e.n2,e.e3,e.m3,e.e4,e.n4,e.rp,e.hl⟩,⟨s.up.p,s.up.fr,s.up.r1,s.up.r2,s.up.n0,s.up.n1,s.up.n3,s.up.x3,s.up.x4⟩,s.kt.trans (s.gs.kto [.int .i64 x] 12),s.sl,s.s4⟩
set_option maxHeartbeats 4000000 in
theorem wH (hE:eA E)(s:St E d w c d1 w1){t:Int}(k:∀x d' w',St E d w c d' w'->Q (.returned (.int .i64 x)) w'):Calls Tryz.prog 117 #[.pointer (some ⟨E.g,0,none⟩),.int .i64 t] w1 Q:=by
 have HE:=hid hE;have HK:=hid k;have c12:=s.gs.blk.k 12;have f12:=s.gs.blk.free 12;obtain⟨a,n,q,b,m,r,_,_,c7,c8,hn,hq,hm,hr⟩:=s.gs.proc;unfold maxLen at hq hr;have S2:Hid (St E d w c { d1 with mo:=wrap64 (t+1) } (w1.setCell ⟨E.g,12,none⟩ (.int .i64 (wrap64 (t+1))))):=s.most HE.out _;obtain⟨_,_,_,_,_,_,_,_,k7,k8,_⟩:=S2.out.gs.proc;have k7':(w1.setCell ⟨E.g,12,none⟩ (.int .i64 (wrap64 (t+1)))).cell? ⟨E.g,7,none⟩=some (.slice a n q):=by rw[World.cell?_setCell_other _ _ _ _ (by intro e;cases e)];exact c7
 have k8':(w1.setCell ⟨E.g,12,none⟩ (.int .i64 (wrap64 (t+1)))).cell? ⟨E.g,8,none⟩=some (.slice b m r):=by rw[World.cell?_setCell_other _ _ _ _ (by intro e;cases e)];exact c8
 have HS:=hid s;obtain⟨mo,hmo⟩:=zx (d1.mo);rw[<-hmo]at c12;clear k s k7 k8 hE hmo;by_cases Ad:mo<wrap64 (t+1)
 .
  go_enter Tryz.func117,Tryz.ntmps117;go_wp2_with fail;generalize w1.setCell ⟨E.g,12,none⟩ (.int .i64 (wrap64 (t+1)))=w2 at *;clear c12 f12 c7 c8;go_quiet (fail);go_wp2_with fail;exact HK.out _ _ _ (S2.out.dN HE.out _)
 .
  clear k7' k8' f12;go_enter Tryz.func117,Tryz.ntmps117;go_wp2_with fail;go_quiet (fail);go_wp2_with fail;exact HK.out _ _ _ (HS.out.dN HE.out _)
end
end Cp
end
section
theorem A77{p:Prop}(h:p:=by rw[HV.out];omega):p:=h
theorem QA129{p:Prop}(h:p:=by
 go_enter Tryz.func47,Tryz.ntmps47
 go_wp2_with fail
 exact HK.out _ _ y1):p:=h
namespace Cp
section
variable {E:En} {d d1:GD} {w w1 w2:World} {c:Nat} {Q:Ending->World->Prop}
theorem wK (hE:eA E)(s0:St E d w c d1 w1)(hn:(d.r 0).n+c+8<=1000000)(k:∀d' w',St E d w (c+8) d' w'->Q (.returned (.tuple #[])) w'):Calls Tryz.prog 81 #[.pointer (some ⟨E.g,0,none⟩)] w1 Q:=by
 have HE:=hid hE;have HK:=hid k;clear k hE;go_enter Tryz.func81,Tryz.ntmps81;go_wp2_with fail;refine eU HE.out s0 A0 (fun dr1 wr1 sr1=>?_);clear s0;go_wp2_with fail;refine eU HE.out sr1 A0 (fun dr2 wr2 sr2=>?_);clear sr1;go_wp2_with fail;refine eU HE.out sr2 A0 (fun dr3 wr3 sr3=>?_);clear sr2;obtain⟨ca4,cn4,cq4,_,_,hcu4,hcl4,Fm⟩:=sr3.code;go_wp2_with fail;clear Fm;refine eU HE.out sr3 A0 (fun dr4 wr4 sr4=>?_);clear sr3;go_wp2_with fail;refine eU HE.out sr4 A0 (fun dr5 wr5 sr5=>?_);clear sr4;go_wp2_with fail;refine eU HE.out sr5 A0 (fun dr6 wr6 sr6=>?_);clear sr5;go_wp2_with fail;refine eU HE.out sr6 A0 (fun dr7 wr7 sr7=>?_);clear sr6;go_wp2_with fail;refine eU HE.out sr7 A0 (fun dr8 wr8 sr8=>?_);clear sr7;go_wp2_with fail;exact oJ Tryz.results81 (HK.out _ _ sr8)
theorem aKz {W:World}{m:Mo}{m0 m1 m2 m3:Value}(h:aL W m.fl [m0,m1,m2,m3]):∃a n q,m2=.slice a n q/\m.vars.length=n/\aX W a q 2 (m.vars.map Va.fl):=by
 obtain⟨y0,_,e0,_,y1,_,e1,_,y2,_,e2,h2,_⟩:=h;simp only[zJ3]at e0;obtain⟨rfl,rfl⟩:=e0;simp only[zJ3]at e1;obtain⟨rfl,rfl⟩:=e1;simp only[zJ3]at e2;obtain⟨rfl,_⟩:=e2;obtain⟨a,q,e,hL⟩:=h2.list;exact⟨a,_,q,by rw[e,zB2],rfl,hL⟩
theorem aK0 {W:World}{m:Mo}{a:Option Addr}{q i:Nat}(h:aX W a q 2 (m.vars.map Va.fl))(hi:i<m.vars.length):∃b off nv x,a=some ⟨b,off,none⟩/\W.cell? ⟨b,off+i*2,none⟩=some nv/\W.cell? ⟨b,off+i*2+1,none⟩=some (.int .i64 x):=by
 obtain⟨v,hv⟩:∃v,m.vars[i]?=some v:=⟨_,zA0 hi⟩
 obtain⟨b,off,vs,e,hr,hc⟩:=h.cellsAt (show(m.vars.map Va.fl)[i]?=some v.fl by rw[zA2,hv];rfl);obtain⟨v0,_,rfl,_,v1,_,rfl,rfl,rfl⟩:=hr;exact⟨b,off,v0,_,e,hc 0 _ rfl,hc 1 _ rfl⟩
theorem dN9 (w:World)(n:Nat):Below w.heap.size w (w.drewN n):=⟨rfl,rfl,rfl,zB0 _,fun _ _=>rfl⟩
theorem aOl (a:Option Addr)(n q:Nat)(x:Int)(w:World)(k:∀y w',Below w.heap.size w w'->Q (.returned (.int .i64 y)) w'):Calls Tryz.prog 47 #[.agg #[.slice a n q,.int .i64 x]] w Q:=by
 have HK:=hid k;have y1:Below w.heap.size w (w.alloc (.cells #[.slice a n q,.int .i64 x] 123 (0,0))):=(zD2 _ _).alloc (zB0 _) _;clear k;by_cases hx:x=0
 .
  subst hx;exact QA129
 .
  have hb:(x == 0)=false:=by simpa using hx
  exact QA129
theorem wX (hE:eA E)(s:St E d w c d1 w1){v:Int}(hv:v<=E.m.vars.length)(k:∀y w',Below w1.heap.size w1 w'->Q (.returned (.int .i64 y)) w'):Calls Tryz.prog 116 #[.pointer (some ⟨E.g,0,none⟩),.int .i64 v] w1 Q:=by
 have HK:=hid k;obtain⟨av,nv,qv,em,Jy,hL⟩:=aKz hE.rm;obtain⟨ai,qi,ei,_⟩:=aH (s.gs.row 1 A0);have HV:=hid Jy;have Xh:v<=nv:=by rw[<-Jy];exact hv
 have hn8:nv<=8:=by rw[<-Jy];exact hE.ok.vars
 have HL:=hid (aX.below hL (s.bel));obtain⟨ni,Mn⟩:=zx ((d1.r 1).n);rw[<-Mn]at ei;have c13:w1.cell? ⟨E.g,13,none⟩=some (.slice ai ni qi):=s.gs.blk.cell (i:=13) (by rw[<-ei];rfl);have c2:w1.cell? ⟨E.g,2,none⟩=some (.slice av nv qv):=s.gs.blk.cell (i:=2) (by rw[<-em];rfl);have C2:=hid c2;clear k s hE hv Jy hL em ei Mn c2;go_enter Tryz.func116,Tryz.ntmps116;go_wp2_with fail;clear c13;go_loopw [5,6] (fun at0 i wr=>∃(j:Nat) (z:Int),(j:Int)<=max v 0/\i=.int .i64 j/\at0=.int .i64 z/\Hid (Below w1.heap.size w1 wr)) (fun _ i _=>v.toNat-(intOf i).toNat)
 case atStart=>exact⟨0,_,by omega,rfl,rfl,zD2 _ _⟩
 case round=>
  obtain⟨j,z,hj,rfl,rfl,Hb⟩:=hrel;by_cases Ad:(j:Int)<v
  .
   obtain⟨b,off,nm,x,rfl,r0,r1⟩:=aK0 (aX.below HL.out Hb.out) (i:=j) A77;have c2:=aB C2.out Hb.out;obtain⟨an,nn,qn,rfl⟩:∃a n q,nm=.slice a n q:=by
    obtain⟨b',Lg,nm',x',e',q0,_⟩:=aK0 (aX.below HL.out Hb.out) (i:=j) A77;cases e';obtain⟨vv,Ti⟩:∃vv,E.m.vars[j]?=some vv:=⟨_,zA0 A77⟩
    obtain⟨b9,o9,vs,e9,hr9,Tt⟩:=(aX.below HL.out Hb.out).cellsAt (show(E.m.vars.map Va.fl)[j]?=some vv.fl by rw[zA2,Ti];rfl);cases e9;obtain⟨v0,_,rfl,⟨a7,c7,rfl,_⟩,_⟩:=hr9;have:=Tt 0 _ rfl;rw[zG1,r0]at this;cases this;exact⟨_,_,_,rfl⟩
   go_wp2_with fail;refine aOl _ _ _ _ _ (fun y w2 hb2=>?_);have H2:=hid (Hb.out.trans (hb2.mono Hb.out.size));clear c2 r0 r1 hb2 Hb;go_wp2;go_roundw
   case rel=>exact⟨j+1,_,by omega,by go_num,rfl,H2⟩
   case measure=>simp[intOf];omega
  .
   go_wp2_with fail;exact HK.out _ _ Hb.out
theorem aAe {l:List (List Int)}{x:List Int}:ixI l x<l.length/\-1<=ixI l x:=by
 cases h:ix l x with
 | none=>rw[dH h];omega| some i=>have:=(zC1.1 (xG h).1).1;rw[cK h];omega
theorem aQb {l:List (List Int)}{x:List Int}(h:ixI l x<0):ix l x=none:=by
 unfold ixI at h;cases hi:ix l x with
 | none=>rfl| some i=>rw[hi]at h;exact absurd h (by show ¬((i:Int)<0);omega)
theorem aLa (hE:eA E)(s:St E d w c d1 w1){a:Option Addr}{n q:Nat}(x:List Int)(hx:aV w1 a n x)(k:∀(z:Int) w',Below w1.heap.size w1 w'->(z<0->ix (d1.p.params.map Pa.name) x=none)->Q (.returned (.int .i64 z)) w'):Calls Tryz.prog 115 #[.pointer (some ⟨E.g,0,none⟩),.slice a n q] w1 Q:=by
 have HK:Hid (∀(z:Int) w',Below w1.heap.size w1 w'->(z<0->ix (d1.p.params.map Pa.name) x=none)->Q (.returned (.int .i64 z)) w'):=k;have HB:Hid (Below E.w0.heap.size E.w0 w1):=s.bel;have HX:Hid (aV w1 a n x):=hx;have hp:=s.gs.el.rp;have hl:=s.gs.el.hl;have HP:=sB d1.p d1.ps w1 (aL.below hp (s.bel)) a n q x hx;have HQ:∀w2,Below w1.heap.size w1 w2->_:=fun w2 hb=>aAa d1.p d1.ps w2 (aL.below (aL.below hp (s.bel)) hb) a n q x (hx.below hb);obtain⟨ap,np,qp,bl,ml,rl,Es,Qw,c7,c8,_⟩:=s.gs.proc;have hb:=s.gs.blk;have C7:Hid (w1.cell? ⟨E.g,7,none⟩=some (.slice ap np qp)):=c7;have C5:Hid (w1.cell? ⟨E.g,5,none⟩=some d1.p0/\w1.cell? ⟨E.g,6,none⟩=some d1.p1/\w1.cell? ⟨E.g,7,none⟩=some d1.p2/\w1.cell? ⟨E.g,8,none⟩=some d1.p3/\w1.cell? ⟨E.g,9,none⟩=some d1.p4):=⟨hb.k 5,hb.k 6,hb.k 7,hb.k 8,hb.k 9⟩
 have hnp4:np<=4:=by rw[<-Es];exact hl.1
 have hml8:ml<=8:=by rw[<-Qw];exact hl.2
 have It:=(aAe (l:=d1.p.params.map Pa.name) (x:=x));have Is:=(aAe (l:=d1.p.locals) (x:=x));rw[zB2,Es]at It;rw[Qw]at Is;have HN:Hid (ixI (d1.p.params.map Pa.name) x<0->ix (d1.p.params.map Pa.name) x=none):=aQb;generalize hi1:ixI (d1.p.params.map Pa.name) x=i1 at *;generalize Xr:ixI d1.p.locals x=i2 at *;obtain⟨k5,k6,k7,k8,k9⟩:=C5.out;simp only[GD.ps,agg,List.toArray]at HP HQ;clear k s hE hx hp hl Es Qw hb hi1 Xr c7 c8;go_enter Tryz.func115,Tryz.ntmps115;go_wp2_with fail;refine HP.mono ?_;rintro e w2 ⟨rfl,hg2⟩;have B2:Hid (Below w1.heap.size w1 w2):=aA hg2;clear HP hg2 k5 k6 k7 k8 k9;by_cases h1:0<=i1
 .
  have c7:=aB C7.out B2.out;go_wp2_with fail;exact HK.out _ _ B2.out (fun h=>by omega)
 .
  have HF:=HN.out A0;have k5:=aB C5.out.1 B2.out;have k6:=aB C5.out.2.1 B2.out;have k7:=aB C5.out.2.2.1 B2.out;have k8:=aB C5.out.2.2.2.1 B2.out;have k9:=aB C5.out.2.2.2.2 B2.out;have Qk:=HQ w2 B2.out;have HFF:Hid (ix (d1.p.params.map Pa.name) x=none):=HF;clear HQ HF;go_wp2_with fail;refine Qk.mono ?_;rintro e w3 ⟨rfl,Bn⟩;have B3:Hid (Below w1.heap.size w1 w3):=B2.out.trans ((aA Bn).mono B2.out.size);clear Qk Bn k5 k6 k7 k8 k9;by_cases h2:0<=i2
  .
   have c7:=aB C7.out B3.out;go_wp2_with fail;exact HK.out _ _ B3.out (fun h=>HFF.out)
  .
   go_wp2_with fail;exact HK.out _ _ B3.out (fun h=>HFF.out)
end
end Cp
end
section
namespace Cp
theorem M950{p q:Prop}(k:q)(h:Kx q->p:=by
 intro kQ
 refine ta 0 ?_
 refine ta 1 ?_
 refine ta 2 ?_
 try simp only[nrm]
 refine ta 3 ?_
 exact kQ.o):p:=h ⟨k⟩
section
variable {E:En} {d d1:GD} {w w1 w2:World} {c:Nat} {Q:Ending->World->Prop}
set_option maxHeartbeats 16000000 in
theorem aA9 (hE:eA E)(s:St E d w c d1 w1)(hn:(d.r 0).n+c+1<=1000000){a:Option Addr}{n q:Nat}(x:List Int)(hx:aV w1 a n x)(ha:aFt E.m d1.p x=true)(r:Int)(k:∀d' w',St E d w (c+1) d' w'->Q (.returned (.tuple #[])) w'):Calls Tryz.prog 118 #[.pointer (some ⟨E.g,0,none⟩),.slice a n q,.int .i64 r] w1 Q:=by
 have HE:=hid hE;have HK:=hid k;have HX:=hid hx;have HA:=hid ha;obtain⟨av,nv,qv,em,Jy,hL⟩:=aKz hE.rm;have HV:=hid Jy;have HL:=hid hL;have HM:=hid (aL.below hE.rm s.bel);have hn8:nv<=8:=by rw[<-Jy];exact hE.ok.vars
 obtain⟨c0,c1⟩:=s.gs.blk.c2;have c2:w1.cell? ⟨E.g,2,none⟩=some (.slice av nv qv):=s.gs.blk.cell (i:=2) (by rw[<-em];rfl);have c3:=s.gs.blk.k 3;have HC:Hid (w1.cell? ⟨E.g,0,none⟩=some E.m0/\w1.cell? ⟨E.g,1,none⟩=some E.m1/\w1.cell? ⟨E.g,2,none⟩=some (.slice av nv qv)/\w1.cell? ⟨E.g,3,none⟩=some E.m3):=⟨c0,c1,c2,c3⟩
 have Js:=hid em;clear k hE hx ha Jy hL em c0 c1 c2 c3;go_enter Tryz.func118,Tryz.ntmps118;go_wp2_with fail;refine aLa HE.out s x HX.out (fun z w2 hb2 hz=>?_);have s2:=s.on HE.out hb2;have Gc:=hid hb2;have HZ:=hid hz;clear s hb2 hz;by_cases h0:0<=z
 .
  go_wp2_with fail;refine eU HE.out s2 A0 (fun d' w' s'=>?_);go_wp2_with fail;exact aLk Tryz.results118 (HK.out _ _ s')
 .
  obtain⟨i,hi⟩:∃i,ix (E.m.vars.map Va.name) x=some i:=by
   have h1:=HA.out;unfold aFt at h1;rw[HZ.out A0,Option.isSome_none,Bool.false_or]at h1;exact Option.isSome_iff_exists.1 h1
  have Xn:=(zC1.1 (xG hi).1).1;rw[zB2,HV.out]at Xn;have HQ:=uP E.m E.ms w2 (aL.below HM.out Gc.out) a n q x (HX.out.below Gc.out);rw[cK hi]at HQ;simp only[En.ms,agg,List.toArray]at HQ;have HQ':=hid HQ;have k0:=aB HC.out.1 Gc.out;have k1:=aB HC.out.2.1 Gc.out;have k2:=aB HC.out.2.2.1 Gc.out;have k3:=aB HC.out.2.2.2 Gc.out;rw[Js.out]at HQ;clear hi HQ';go_wp2_with fail;refine HQ.mono ?_;rintro e w3 ⟨rfl,Bn⟩;have Je:=aA Bn;have s3:=s2.on HE.out Je;have Bv:=hid (Gc.out.trans (Je.mono Gc.out.size));clear HQ Bn Je k0 k1 k2 k3 s2 Gc;obtain⟨b,off,nm,sx,rfl,r0,r1⟩:=aK0 HL.out (i:=i) (by rw[HV.out];exact Xn);have R1:=hid r1;have r0:=aB r0 s3.bel;have r1:=aB r1 s3.bel;have c2:=aB HC.out.2.2.1 Bv.out;clear r0;go_wp2_with fail;have Ao:w3.drew.cell? ⟨E.g,2,none⟩=some (.slice (some ⟨b,off,none⟩) nv qv)/\w3.drew.cell? ⟨b,off+i*2+1,none⟩=some (.int .i64 sx):=⟨c2,r1⟩
  refine zK0 (S:=fun wl=>wl.cell? ⟨E.g,2,none⟩=some (.slice (some ⟨b,off,none⟩) nv qv)/\wl.cell? ⟨b,off+i*2+1,none⟩=some (.int .i64 sx)) A1 Ao (fun Aa=>?_);have s3d:St E d w c d1 w3.drew:=s3.on HE.out (zD2 _ _).drew;refine M950 ?_;refine ta 5 ?_;refine ta 6 ?_;try simp only[nrm]
  refine ta 7 ?_;refine ta 8 ?_;refine ta 9 ?_;try simp only[nrm]
  refine ta 10 ?_;refine ta 11 ?_;refine ta 12 ?_;try simp only[nrm]
  refine ta 13 ?_;try simp only[nrm]
  refine ra 4 fun K hK=>?_;go_simp;refine wX HE.out s3d A77 (fun y w4 Eu=>?_);have s4:=s3d.on HE.out Eu;have Cq:w4.cell? ⟨E.g,2,none⟩=some (.slice (some ⟨b,off,none⟩) nv qv)/\w4.cell? ⟨b,off+i*2+1,none⟩=some (.int .i64 sx):=⟨aB Ao.1 Eu,aB Ao.2 Eu⟩
  go_wp2_with fail;refine hK.out _ _ (Cq) (fun Aa=>?_);clear hK K;try simp only[nrm]
  refine ta 14 ?_;try simp only[nrm]
  refine ra 15 fun K hK=>?_;go_simp;refine eU HE.out s4 A0 (fun d' w' s'=>?_);have Fb:w'.cell? ⟨E.g,2,none⟩=some (.slice (some ⟨b,off,none⟩) nv qv)/\w'.cell? ⟨b,off+i*2+1,none⟩=some (.int .i64 sx):=by
   exact⟨s'.gs.blk.cell (i:=2) (by rw[<-Js.out];rfl),aB R1.out s'.bel⟩
  go_wp2_with fail;refine hK.out _ _ (Fb) (fun Aa=>?_);clear hK K;try simp only[nrm]
  refine zK1 A1 ?_ _;go_wp2_with fail;exact oJ Tryz.results118 (HK.out _ _ s')
end
end Cp
end
section
theorem QA22{p:Prop}(h:p:=by
 go_wp2_with fail
 go_quiet (fail)
 go_wp2
 go_roundw
 case rel=>exact⟨j+1,by omega,by go_num,Hb.out.trans ((dN9 _ _).mono Hb.out.size)⟩
 case measure=>simp[intOf];omega):p:=h
theorem QA56{p:Prop}(h:p:=by
 have Tk:=hr
 obtain⟨v0,_,rfl,_,v1,_,rfl,_,v2,_,rfl,_,v3,_,rfl,_,v4,_,rfl,_,rfl⟩:=hr
 exact⟨b,off,v0,v1,v2,v3,v4,e2,Tk,hc 0 _ rfl,hc 1 _ rfl,hc 2 _ rfl,hc 3 _ rfl,hc 4 _ rfl⟩):p:=h
namespace Cp
theorem aQl {E:En}(hE:eA E){W:World}{n:Nat}{v:Value}{xs:List Value}(h:W.ownsRow E.w0.heap.size 87 3 v n xs)(hx:aVm E.τ0 xs){i:Nat}(hl:i<n):
  ∃g c a0 c0 l0 a1 c1 l1 x,v=.slice (some ⟨g,0,none⟩) n c/\aV E.w0 a0 (List.length l0) l0/\aV E.w0 a1 (List.length l1) l1/\W.cell? ⟨g,i*3,none⟩=some (.slice a0 l0.length c0)/\W.cell? ⟨g,i*3+1,none⟩=some (.slice a1 l1.length c1)/\W.cell? ⟨g,i*3+2,none⟩=some (.int .i64 x):=by
 obtain⟨a,c,rfl,_,_,_,ha⟩:=aH h;obtain⟨g,rfl⟩:=ha A0;obtain⟨xss,rfl,hr⟩:=hx;have hk:∀us ∈ xss,us.length=3:=fun us hu=>Eg.RV.length (hr us hu);have hn:xss.length=n:=by
  have h1:=h.1;rw[Eg.flat_len xss hk]at h1;omega
 obtain⟨us,hu⟩:∃us,xss[i]?=some us:=⟨_,zA0 A0⟩
 obtain⟨v0,_,rfl,f0,v1,_,rfl,f1,v2,_,rfl,⟨x,rfl,_⟩,rfl⟩:=hr us (zA3 hu);obtain⟨l0,⟨a0,c0,rfl,b0,_⟩,_⟩:=Eg.rd_b hE.th f0;obtain⟨l1,⟨a1,c1,rfl,b1,_⟩,_⟩:=Eg.rd_b hE.th f1;have hc:=fun j v hv=>cM h _ _ (Eg.flat_get xss i _ j v hk hu hv);exact⟨g,c,a0,c0,l0,a1,c1,l1,x,rfl,b0,b1,hc 0 _ rfl,hc 1 _ rfl,hc 2 _ rfl⟩
section
variable {E:En} {d d1:GD} {w w1 w2:World} {c:Nat} {Q:Ending->World->Prop}
set_option maxHeartbeats 16000000 in
theorem aM4 (hE:eA E)(s:St E d w c d1 w1){v0 v1 v4:Value}{am an:Option Addr}{cm cn:Nat}(m nm:List Int)(hm:aV w1 am m.length m)(hn:aV w1 an nm.length nm)(k:∀z w',Below w1.heap.size w1 w'->Q (.returned (.int .i64 z)) w'):
  Calls Tryz.prog 127 #[.pointer (some ⟨E.g,0,none⟩),.agg #[v0,v1,.slice am m.length cm,.slice an nm.length cn,v4]] w1 Q:=by
 have HK:=hid k;have HM:=hid hm;have HN:=hid hn;have y1:Below w1.heap.size w1 (w1.alloc (.cells #[v0,v1,.slice am m.length cm,.slice an nm.length cn,v4] 147 (0,0))):=(zD2 _ _).alloc (zB0 _) _;have x1:=Blk.new w1 147 [v0,v1,.slice am m.length cm,.slice an nm.length cn,v4];have Jg:=s.gs.row 1 A0;obtain⟨ai,qi,ei,_⟩:=aH Jg;obtain⟨ni,Mn⟩:=zx ((d1.r 1).n);rw[<-Mn]at Jg ei;have Qn:=hid s.bel;have HI:∀i,i<ni->_:=fun i hi=>aQl hE Jg s.gs.el.e1 (i:=i) hi;have HLT:=hid s.bel.size;have c13:w1.cell? ⟨E.g,13,none⟩=some (.slice ai ni qi):=s.gs.blk.cell (i:=13) (by rw[<-ei];rfl);have C13:=hid c13;have hq:ni<=maxLen:=by
  obtain⟨_,_,e9,h9,h8,_⟩:=aH Jg;omega
 unfold maxLen at hq;rw[ei]at HI;simp only[List.toArray]at x1;clear k s hE hm hn ei Mn Jg c13;go_enter Tryz.func127,Tryz.ntmps127;go_upto_region 1 with fail;generalize Cr:w1.alloc (.cells #[v0,v1,.slice am m.length cm,.slice an nm.length cn,v4] 147 (0,0))=w2 at *;have Y1:=hid y1;have X1:Hid (w2.cell? ⟨w1.heap.size,2,none⟩=some (.slice am m.length cm)/\w2.cell? ⟨w1.heap.size,3,none⟩=some (.slice an nm.length cn)):=⟨x1.k 2,x1.k 3⟩
 clear x1 y1 Cr;go_wp2_with fail;go_loopw [5] (fun i wr=>∃j:Nat,j<=ni/\i=.int .i64 j/\Hid (Below w2.heap.size w2 wr)) (fun i _=>ni-(intOf i).toNat)
 case atStart=>exact⟨0,zD1 _,rfl,zD2 _ _⟩
 case round=>
  obtain⟨j,hj,rfl,Hb⟩:=hrel;have Bp:=Y1.out.trans (Hb.out.mono Y1.out.size);have q1:=aB C13.out Bp;by_cases Ad:j<ni
  .
   obtain⟨g,c,a0,c0,l0,a1,c1,l1,x,e9,b0,b1,r0,r1,_⟩:=HI j Ad;cases e9;have r0:=aB r0 Bp;have r1:=aB r1 Bp;have p2:=aB X1.out.1 Hb.out;have p3:=aB X1.out.2 Hb.out;have b0':=(b0.below Qn.out).below Bp;have Jq:=(b1.below Qn.out).below Bp;have Ym:=fun d=>aT c0 (b0'.drewN d);have Yl:=fun d=>aT cm (aV.drewN (aV.below HM.out Bp) d);have kc3:=fun d=>aT c1 (Jq.drewN d);have kc4:=fun d=>aT cn (aV.drewN (aV.below HN.out Bp) d);have HG:=hid Bp;have Gw:(j:Int)<(ni:Int):=A0;clear b0 b1 b0' Jq Bp HI;cases hb1:((strOfNums l0).toList == (strOfNums m).toList) with
   | false=>
    exact QA22
   | true=>
    cases hb2:((strOfNums l1).toList == (strOfNums nm).toList) with
    | false=>
     exact QA22
    | true=>
     go_wp2_with fail;go_quiet (fail);go_wp2_with fail;exact HK.out _ _ (HG.out.trans ((dN9 _ _).mono HG.out.size))
  .
   have:ni=j:=A0;subst this;clear HI;go_wp2_with fail;exact HK.out _ _ Bp
theorem mC {W:World}{ks:List Ex}{a:Option Addr}{q i:Nat}{e:Ex}(h:aX W a q 5 (exs ks))(hi:ks[i]?=some e):∃b off v0 v1 v2 v3 v4,a=some ⟨b,off,none⟩/\aL W e.fl [v0,v1,v2,v3,v4]/\W.cell? ⟨b,off+i*5,none⟩=some v0/\W.cell? ⟨b,off+i*5+1,none⟩=some v1/\W.cell? ⟨b,off+i*5+2,none⟩=some v2/\W.cell? ⟨b,off+i*5+3,none⟩=some v3/\W.cell? ⟨b,off+i*5+4,none⟩=some v4:=by
 have e1:exs ks=ks.map Ex.fl:=by
  clear h hi;induction ks with
  | nil=>rfl| cons x l ih=>rw[exs,zH2,ih]
 rw[e1]at h;obtain⟨b,off,vs,e2,hr,hc⟩:=h.cellsAt (show(ks.map Ex.fl)[i]?=some e.fl by rw[zA2,hi];rfl);cases e with
 | mk k n mod name kk=>
  exact QA56
def XC (e:Ex):Prop:=∀(E:En) (d:GD) (w:World) (Q:Ending->World->Prop) (t:Int) (v0 v1 v2 v3 v4:Value),eA E->GS E d w->d.sl=0->d.s4=0->(d.r 0).n+20*cU e<=1000000->qI E.m E.fs d.p e=true->aL E.w0 e.fl [v0,v1,v2,v3,v4]->(∀d' w',St E d w (20*cU e) d' w'->Q (.returned (.tuple #[])) w') →
 Calls Tryz.prog 114 #[.pointer (some ⟨E.g,0,none⟩),.agg #[v0,v1,v2,v3,v4],.int .i64 t] w Q
theorem nZ {e:Ex}(X:XC e)(hE:eA E)(s:St E d w c d1 w1)(hn:(d.r 0).n+c+20*cU e<=1000000)(hg:qI E.m E.fs d.p e=true){t:Int}{v0 v1 v2 v3 v4:Value}(hv:aL E.w0 e.fl [v0,v1,v2,v3,v4])(k:∀d' w',St E d w (c+20*cU e) d' w'->Q (.returned (.tuple #[])) w'):
  Calls Tryz.prog 114 #[.pointer (some ⟨E.g,0,none⟩),.agg #[v0,v1,v2,v3,v4],.int .i64 t] w1 Q:=
 X E d1 w1 Q t v0 v1 v2 v3 v4 hE s.gs s.sl s.s4 A88 (by rw[s.up.p.1];exact hg) hv fun d' w' s'=>k d' w' (s.trans s')
end
end Cp
end
end Go.Proofs.YtcbhdhmhidpdgaaGreat

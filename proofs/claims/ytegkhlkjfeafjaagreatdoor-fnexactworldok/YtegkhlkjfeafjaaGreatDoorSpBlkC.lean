import Derived.Test.YtegkhlkjfeafjaaGreatDoorSpExC
namespace Go.Proofs.YtegkhlkjfeafjaaGreatDoor
open Go.RowKit
set_option linter.unusedVariables false
set_option linter.unusedSimpArgs false
set_option maxRecDepth 100000
theorem U285{p:Prop}(h:p:=by
 have HF:Hid (fY m fs p 0 l=fY m fs p (dE (jC m fs p z kids) (dE (fY m fs p 0 body) (fY m fs p 0 els))) (l.drop (j+1))):=by show _=_;rw[HZ.out,HDR.out];exact mF (by rw[pO];exact if_neg (by rw[hv];simp))
 rw[hv]at H1
 clear hv
 go_wp2_with fail
 refine H1.mono ?_
 rintro r w6 ⟨rfl,hg⟩
 replace z5:=z5.below (aA hg) z5.lt
 clear H1 n0 n2 k0 k1 k2 k3 q0 q1 q2 q3 q4 z0 z1
 have n0:=z5.k 0
 go_wp2_with fail
 exact HK3.out w6 _ _ _ _ _ _ _ _ _ _ _ _ _ _ _ _ _ _ _ _ _ _ _ _ _ _ _ _ _ _ _ _ _ _ _ _ _ _ _ _ _ _ _ _ _ _ _ _ _ _ _ _ _ _ _ _ _ _ _ _ _ _ _ _ _ _ _ _ _ hg HF.out):p:=h
theorem U306{p:Prop}(h:p:=by
 have HF:Hid (fY m fs p 0 l=2):=by show _=_;rw[HZ.out,HDR.out];exact pA (by rw[pO];exact if_pos (by rw[hv];simp))
 rw[hv]at H1
 clear hv HK3
 go_wp2_with fail
 refine H1.mono ?_
 rintro r w6 ⟨rfl,hg⟩
 have yg:=aD y5 hg
 replace z5:=z5.below (aA hg) z5.lt
 clear H1 n0 n2 k0 k1 k2 k3 q0 q1 q2 q3 q4 z0 z1 hg
 have n0:=z5.k 0
 go_wp2
 go_ret
 exact⟨aQ HF.out.symm,yg⟩):p:=h
mutual
def stC (m:Mo)(fs:List Fa)(p:Pr):Int->St->Option Int
 | c,.mk k _ name kids body els=>if ((decide (k=0) && !sgl m p name) || (decide (k=1) && !arq m p name))=true then none
  else some (dE (jC m fs p c kids) (dE (fY m fs p 0 body) (fY m fs p 0 els)))
def fY (m:Mo)(fs:List Fa)(p:Pr):Int->List St->Int
 | c,[]=>c
 | c,s :: l=>match stC m fs p c s with
  | none=>2
  | some c'=>fY m fs p c' l
end
theorem pO (m:Mo)(fs:List Fa)(p:Pr)(c k n:Int)(name:List Int)(kids:List Ex)(body els:List St):stC m fs p c (.mk k n name kids body els)=if ((decide (k=0) && !sgl m p name) || (decide (k=1) && !arq m p name))=true then none
  else some (dE (jC m fs p c kids) (dE (fY m fs p 0 body) (fY m fs p 0 els))):=by unfold stC;rfl
theorem pA {m:Mo}{fs:List Fa}{p:Pr}{c:Int}{s:St}{l:List St}(h:stC m fs p c s=none):fY m fs p c (s :: l)=2:=by unfold fY;rw[h]
theorem mF {m:Mo}{fs:List Fa}{p:Pr}{c c':Int}{s:St}{l:List St}(h:stC m fs p c s=some c'):fY m fs p c (s :: l)=fY m fs p c' l:=by conv=>lhs;unfold fY;rw[h]
theorem aPb (m:Mo)(fs:List Fa)(p:Pr)(c:Int):fY m fs p c []=c:=by unfold fY;rfl
def nI (m:Mo)(fs:List Fa)(p:Pr)(l:List St):Prop:=∀(w:World) (vs us:List Value) (b:Option Addr) (nf d:Nat) (al:Option Addr) (cl:Nat),Env w m fs p vs us b nf d->aS w al cl 6 (sts l) →
 Calls Tryz.prog 41 #[agg vs,.slice b nf d,agg us,.slice al l.length cl] w fun r w'=>r=.returned (.int .i64 (fY m fs p 0 l))/\w.grownBy w' none
set_option maxHeartbeats 16000000 in
theorem qW (m:Mo)(fs:List Fa)(p:Pr)(l:List St)(IH:∀k n name kids body els,St.mk k n name kids body els ∈ l->nI m fs p body/\nI m fs p els):nI m fs p l:=by
 intro w vs us b nf d al cl hE hL
 obtain⟨v0,v1,v2,v3,rfl⟩:=mO (hE.rm.len.trans (show m.fl.length=4 from rfl))
 obtain⟨u0,u1,u2,u3,u4,rfl⟩:=eO (hE.rp.len.trans (show p.fl.length=5 from rfl))
 have hl9:=hL.len9
 have hll:(sts l).length=l.length:=by simp[aM]
 rw[hll]at hl9
 obtain⟨nl,hnl⟩:∃z,z=l.length:=⟨_,rfl⟩
 have HNL:=hid hnl.symm;rw[<-hnl]at hl9 ⊢;have HE:=hid hE;have HL:=hid hL;have HI:=hid IH;clear hE hL IH hll hnl;have z0:=(Blk.new w 48 [v0,v1,v2,v3]).old (o:=.cells #[u0,u1,u2,u3,u4] 95 (0,0));have z1:=Blk.new (w.alloc (.cells #[v0,v1,v2,v3] 48 (0,0))) 95 [u0,u1,u2,u3,u4]
 have hg1:(w.alloc (.cells #[v0,v1,v2,v3] 48 (0,0))).heap.size=w.heap.size+1:=by simp
 have y0:w.grownBy ((w.alloc (.cells #[v0,v1,v2,v3] 48 (0,0))).alloc (.cells #[u0,u1,u2,u3,u4] 95 (0,0))) none:=aD (aC w _ none) (aC _ _ none)
 simp only[List.toArray]at z0 z1;rw[hg1]at z1;clear hg1;simp only[agg];go_enter Tryz.func41,Tryz.ntmps41;go_upto_region 1 with fail;generalize (w.alloc (.cells #[v0,v1,v2,v3] 48 (0,0))).alloc (.cells #[u0,u1,u2,u3,u4] 95 (0,0))=w1 at *;have Z0:=hid z0;have Z1:=hid z1;have Y0:=hid y0;clear z0 z1 y0;go_wp2_with fail
 go_loopw [9,10] (fun cc i wr=>∃(j:Nat) (z:Int),j<=nl/\i=.int .i64 j/\cc=.int .i64 z/\Hid (fY m fs p 0 l=fY m fs p z (l.drop j))/\Hid (w1.grownBy wr none)) (fun _ i _=>nl-(intOf i).toNat)
 case atStart=>exact⟨0,0,zD1 _,rfl,rfl,rfl,aN0 _ _⟩
 case round=>
  obtain⟨j,z,hj,rfl,rfl,HZ,Hg⟩:=hrel;have hg:=Hg.out;have yw:=aD Y0.out hg
  by_cases Ai:j<nl
  .
   obtain⟨s,hsj⟩:∃s,l[j]?=some s:=⟨_,zA0 (by rw[HNL.out];exact Ai)⟩
   obtain⟨y0,y1,name,kids,body,els⟩:=s
   have HDR:Hid (l.drop j=St.mk y0 y1 name kids body els :: l.drop (j+1)):=by
    obtain⟨h5,h6⟩:=zC1.1 hsj
    show _=_
    rw[List.drop_eq_getElem_cons h5,h6]
   have HIs:=HI.out _ _ _ _ _ _ (zA3 hsj)
   obtain⟨bs,ofs,ss,rfl,hss,Ab⟩:=aS.cellsAt HL.out (show(sts l)[j]?=some (St.fl ⟨y0,y1,name,kids,body,els⟩) by rw[aM,zA2,hsj];rfl)
   obtain⟨s0,_,rfl,rfl,s1,_,rfl,rfl,s2,_,rfl,⟨an,cn,rfl,hbn,_⟩,s3,_,rfl,hk,s4,_,rfl,hbd,s5,_,rfl,hel,rfl⟩:=hss;obtain⟨ak,ck,rfl,hK⟩:=hk.list;obtain⟨ab,cb,rfl,hB⟩:=hbd.list;obtain⟨ae,ce,rfl,hEl⟩:=hel.list;have hk9:=hK.len9;have hb9:=hB.len9;have he9:=hEl.len9
   have e1:(exs kids).length=kids.length:=by simp[aJ]
   have e2:(sts body).length=body.length:=by simp[aM]
   have e3:(sts els).length=els.length:=by simp[aM]
   rw[e1]at hk9 Ab;rw[e2]at hb9 Ab;rw[e3]at he9 Ab
   obtain⟨nk,hnk⟩:∃z,z=kids.length:=⟨_,rfl⟩
   obtain⟨nb,hnb⟩:∃z,z=body.length:=⟨_,rfl⟩
   obtain⟨ne,hne⟩:∃z,z=els.length:=⟨_,rfl⟩
   have Bn:=hid hnk.symm;have HNB:=hid hnb.symm;have HNE:=hid hne.symm;rw[<-hnk,<-hnb,<-hne]at Ab;rw[<-hnk]at hk9;rw[<-hnb]at hb9;rw[<-hne]at he9;have HBN:=hid hbn;have HK:=hid hK;have HB:=hid hB;have HEL:=hid hEl;have HIB:=hid HIs.1;have HIE:=hid HIs.2;have bw:=aA yw;refine M976 ?_;intro r0 r1 r2 r3 r4;have r5:=aB (Ab 5 _ rfl) bw;rw[zG2]at r0;have z5:=Blk.new wr 129 [.int .i64 y0,.int .i64 y1,.slice an name.length cn,.slice ak nk ck,.slice ab nb cb,.slice ae ne ce];have g5:=aC wr (.cells #[.int .i64 y0,.int .i64 y1,.slice an name.length cn,.slice ak nk ck,.slice ab nb cb,.slice ae ne ce] 129 (0,0)) none;simp only[List.toArray]at z5;clear Ab hsj hbn hK hB hEl HIs hk hbd hel e1 e2 e3 hnk hnb hne;go_upto_region 6 with fail;generalize wr.alloc (.cells #[.int .i64 y0,.int .i64 y1,.slice an name.length cn,.slice ak nk ck,.slice ab nb cb,.slice ae ne ce] 129 (0,0))=w5 at *;have hgS:wr.heap.size=wr.heap.size:=rfl;generalize wr.heap.size=gS at *;have y5:=aD yw g5;have g15:=aD hg g5;have bw5:=aA y5;have Y5:=hid y5;have G15:=hid g15;have Z5:=hid z5;have z0:=Z0.out.below (aA g15) Z0.out.lt;have z1:=Z1.out.below (aA g15) Z1.out.lt;have Z05:=hid z0;have Z15:=hid z1;clear r0 r1 r2 r3 r4 r5 bw yw hg Hg g5 g15 hgS
   rename_i K3 h3 K4 h4
   have HK3:Hid (∀(w6:World) (t8 t12 t13 t14 t15 t16 t17 t18 t19 t20 t21 t22 t23 t24 t25 t26 t27 t28 t29 t30 t31 t32 t33 t34 t35 t36 t37 t38 t39 t40 t41 t42 t43 t44 t45 t46 t47 t48 t49 t50 t51 t52 t53 t54 t55 t56 t57 t58 t59 t60 t61 t62 t63 t64 t65 t66 t67 t68 t69 t70 t71 t72 t73 t74 t75 t76 t77 t78 t79:Value),w5.grownBy w6 none->fY m fs p 0 l=fY m fs p (dE (jC m fs p z kids) (dE (fY m fs p 0 body) (fY m fs p 0 els))) (l.drop (j+1))->K3 { tmps:=#[.agg #[v0,v1,v2,v3],.slice b nf d,.agg #[u0,u1,u2,u3,u4],.slice (some ⟨bs,ofs,none⟩) nl cl,.pointer (some ⟨w.heap.size,0,none⟩),undef,.pointer (some ⟨w.heap.size+1,0,none⟩),undef,t8,.int .i64 z,.int .i64 j,.pointer (some ⟨gS,0,none⟩),t12,t13,t14,t15,t16,t17,t18,t19,t20,t21,t22,t23,t24,t25,t26,t27,t28,t29,t30,t31,t32,t33,t34,t35,t36,t37,t38,t39,t40,t41,t42,t43,t44,t45,t46,t47,t48,t49,t50,t51,t52,t53,t54,t55,t56,t57,t58,t59,t60,t61,t62,t63,t64,t65,t66,t67,t68,t69,t70,t71,t72,t73,t74,t75,t76,t77,t78,t79,undef],defers:=[] } w6):=by
    intro w6 t8 t12 t13 t14 t15 t16 t17 t18 t19 t20 t21 t22 t23 t24 t25 t26 t27 t28 t29 t30 t31 t32 t33 t34 t35 t36 t37 t38 t39 t40 t41 t42 t43 t44 t45 t46 t47 t48 t49 t50 t51 t52 t53 t54 t55 t56 t57 t58 t59 t60 t61 t62 t63 t64 t65 t66 t67 t68 t69 t70 t71 t72 t73 t74 t75 t76 t77 t78 t79 hg6 heq;have HEQ:=hid heq;have G6:=hid hg6;clear hg6 heq h4 z0 z1 z5 y5 bw5 HZ HDR;refine h3 _ _ ?_;clear h3;go_wp2_with fail
    go_loopw [9,12] (fun cc i wr=>∃(i':Nat) (x:Int),i'<=nk/\i=.int .i64 i'/\cc=.int .i64 x/\Hid (x=jC m fs p z (kids.take i'))/\Hid (w5.grownBy wr none)) (fun _ i _=>nk-(intOf i).toNat)
    case atStart=>exact⟨0,z,zD1 _,rfl,rfl,(by show _=_;simp[jC]),G6⟩
    case round=>
     obtain⟨i,x,hi,rfl,rfl,hx,Hg⟩:=hrel;have hg:=Hg.out;have yw:=aD Y5.out hg;have bw:=aA yw;have z0:=Z05.out.below (aA hg) Z05.out.lt;have z1:=Z15.out.below (aA hg) Z15.out.lt;have z5:=Z5.out.below (aA hg) Z5.out.lt;have n3:=z5.k 3
     by_cases hlk:i<nk
     .
      obtain⟨e,hej⟩:∃e,kids[i]?=some e:=⟨_,zA0 (by rw[Bn.out];exact hlk)⟩
      have HX2:Hid (dE x (exC m fs p e)=jC m fs p z (kids.take (i+1))):=by show _=_;rw[tA hej,hx.out]
      obtain⟨bk,off,es,rfl,hes,Ab⟩:=aS.cellsAt HK.out (show(exs kids)[i]?=some e.fl by rw[aJ,zA2,hej];rfl)
      have hel:es.length=5:=by rw[hes.len];cases e;rfl
      obtain⟨s0,s1,s2,s3,s4,rfl⟩:=eO hel;have HES:=hid hes;refine M976 ?_;intro r0 r1 r2 r3 r4;rw[zG2]at r0;clear Ab hej hes hel hx
      have HS:∀{wl:World},Below wr.heap.size wr wl->wl.cell? ⟨w.heap.size,0,none⟩=some (v0)/\wl.cell? ⟨w.heap.size,1,none⟩=some (v1)/\wl.cell? ⟨w.heap.size,2,none⟩=some (v2)/\wl.cell? ⟨w.heap.size,3,none⟩=some (v3)/\wl.cell? ⟨w.heap.size+1,0,none⟩=some (u0)/\wl.cell? ⟨w.heap.size+1,1,none⟩=some (u1)/\wl.cell? ⟨w.heap.size+1,2,none⟩=some (u2)/\wl.cell? ⟨w.heap.size+1,3,none⟩=some (u3)/\wl.cell? ⟨w.heap.size+1,4,none⟩=some (u4)/\wl.cell? ⟨gS,3,none⟩=some (.slice (some ⟨bk,off,none⟩) nk ck)/\wl.cell? ⟨bk,off+i*5,none⟩=some s0/\wl.cell? ⟨bk,off+i*5+1,none⟩=some s1/\wl.cell? ⟨bk,off+i*5+2,none⟩=some s2/\wl.cell? ⟨bk,off+i*5+3,none⟩=some s3/\wl.cell? ⟨bk,off+i*5+4,none⟩=some s4:=fun hb=>⟨aB (z0.k 0) hb,aB (z0.k 1) hb,aB (z0.k 2) hb,aB (z0.k 3) hb,aB (z1.k 0) hb,aB (z1.k 1) hb,aB (z1.k 2) hb,aB (z1.k 3) hb,aB (z1.k 4) hb,aB n3 hb,aB r0 hb,aB r1 hb,aB r2 hb,aB r3 hb,aB r4 hb⟩
      have Al:=HS (wl:=wr.drew) (zD2 _ _).drew;have H9:=aK5 m fs p e wr.drew _ _ _ b nf d (HE.out.below bw.drew) (aO.below HES.out bw.drew);simp only[agg,List.toArray]at H9;go_wp2_with fail
      refine zK3 (S:=fun wl=>wl.cell? ⟨w.heap.size,0,none⟩=some (v0)/\wl.cell? ⟨w.heap.size,1,none⟩=some (v1)/\wl.cell? ⟨w.heap.size,2,none⟩=some (v2)/\wl.cell? ⟨w.heap.size,3,none⟩=some (v3)/\wl.cell? ⟨w.heap.size+1,0,none⟩=some (u0)/\wl.cell? ⟨w.heap.size+1,1,none⟩=some (u1)/\wl.cell? ⟨w.heap.size+1,2,none⟩=some (u2)/\wl.cell? ⟨w.heap.size+1,3,none⟩=some (u3)/\wl.cell? ⟨w.heap.size+1,4,none⟩=some (u4)/\wl.cell? ⟨gS,3,none⟩=some (.slice (some ⟨bk,off,none⟩) nk ck)/\wl.cell? ⟨bk,off+i*5,none⟩=some s0/\wl.cell? ⟨bk,off+i*5+1,none⟩=some s1/\wl.cell? ⟨bk,off+i*5+2,none⟩=some s2/\wl.cell? ⟨bk,off+i*5+3,none⟩=some s3/\wl.cell? ⟨bk,off+i*5+4,none⟩=some s4) V0 Al (fun Aa=>?_)
      refine wpAnyH_take (i:=0) (v:=?v501) rfl V0 V0 V0 (fun _ _ _ h=>h) (.inl ⟨by rfl, ?y501⟩) Aa ?_
      case y501=>intro w Bp;(try dsimp only at Bp);go_simp;first|done|rfl
      refine wpAnyH_take (i:=1) (v:=?v502) rfl V0 V0 V0 (fun _ _ _ h=>h) (.inl ⟨by rfl, ?y502⟩) Aa ?_
      case y502=>intro w Bp;(try dsimp only at Bp);go_simp;first|done|rfl
      refine wpAnyH_take (i:=2) (v:=?v503) rfl V0 V0 V0 (fun _ _ _ h=>h) (.inl ⟨by rfl, ?y503⟩) Aa ?_
      case y503=>intro w Bp;(try dsimp only at Bp);go_simp;first|done|rfl
      refine wpAnyH_take (i:=3) (v:=?v504) rfl V0 V0 V0 (fun _ _ _ h=>h) (.inl ⟨by rfl, ?y504⟩) Aa ?_
      case y504=>intro w Bp;(try dsimp only at Bp);go_simp;first|done|rfl
      refine wpAnyH_take (i:=4) (v:=?v505) rfl V0 V0 V0 (fun _ _ _ h=>h) (.inl ⟨by rfl, ?y505⟩) Aa ?_
      case y505=>intro w Bp;(try dsimp only at Bp);go_simp;first|done|rfl
      refine wpAnyH_take (i:=5) (v:=?v506) rfl V0 V0 V0 (fun _ _ _ h=>h) (.inl ⟨by rfl, ?y506⟩) Aa ?_
      case y506=>intro w Bp;(try dsimp only at Bp);go_simp;first|done|rfl
      refine wpAnyH_take (i:=6) (v:=?v507) rfl V0 V0 V0 (fun _ _ _ h=>h) (.inl ⟨by rfl, ?y507⟩) Aa ?_
      case y507=>intro w Bp;(try dsimp only at Bp);go_simp;first|done|rfl
      refine wpAnyH_take (i:=7) (v:=?v508) rfl V0 V0 V0 (fun _ _ _ h=>h) (.inl ⟨by rfl, ?y508⟩) Aa ?_
      case y508=>intro w Bp;(try dsimp only at Bp);go_simp;first|done|rfl
      refine wpAnyH_take (i:=8) (v:=?v509) rfl V0 V0 V0 (fun _ _ _ h=>h) (.inl ⟨by rfl, ?y509⟩) Aa ?_
      case y509=>intro w Bp;(try dsimp only at Bp);go_simp;first|done|rfl
      try simp only[Act.put,List.getElem_toArray,List.getElem_cons_zero,List.getElem_cons_succ,List.setIfInBounds_toArray,List.set_cons_zero,List.set_cons_succ]
      refine ra 9 fun K hK=>?_
      go_simp
      (with_reducible refine H9.mono ?_)
      refine M9245 ?_;intro w4 Bg b4 HS4;have H10:=rS x (exC m fs p e) w4;go_wp2_with fail
      refine hK.out _ _ (HS4) (fun Aa=>?_)
      clear hK K;try simp only[Act.put,List.getElem_toArray,List.getElem_cons_zero,List.getElem_cons_succ,List.setIfInBounds_toArray,List.set_cons_zero,List.set_cons_succ]
      refine ra 10 fun K hK=>?_
      go_simp
      (with_reducible refine H10.mono ?_)
      rintro r w7 ⟨rfl,rfl⟩;go_wp2_with fail
      refine hK.out _ _ (HS4) (fun Aa=>?_)
      clear hK K;try simp only[Act.put,List.getElem_toArray,List.getElem_cons_zero,List.getElem_cons_succ,List.setIfInBounds_toArray,List.set_cons_zero,List.set_cons_succ]
      refine wpAnyH_take (i:=11) (v:=?v512) rfl V0 V0 V0 (fun _ _ _ h=>h) (.inl ⟨by rfl, ?y512⟩) Aa ?_
      case y512=>intro w Bp;(try dsimp only at Bp);go_simp;first|done|rfl
      try simp only[Act.put,List.getElem_toArray,List.getElem_cons_zero,List.getElem_cons_succ,List.setIfInBounds_toArray,List.set_cons_zero,List.set_cons_succ]
      refine zL0 V0 ?_ _;have HG7:=hid (aD hg (aI b4 none));clear HS Al HS4 Aa H9 H10 r0 r1 r2 r3 r4 n3 z0 z1 z5 bw yw hg Hg Bg b4;generalize dE x (exC m fs p e)=x' at *;go_wp2;go_roundw
      case rel=>exact⟨i+1,x',by omega,by go_num,rfl,HX2,HG7⟩
      case measure=>simp[intOf];omega
     .
      have:nk=i:=by omega
      subst this
      have HXF:Hid (x=jC m fs p z kids):=by show _=_;rw[hx.out,zD3 (by rw[Bn.out];exact zB0 _)]
      clear hx;have n4:=z5.k 4;have n5:=z5.k 5
      have HS:∀{wl:World},Below wr.heap.size wr wl->wl.cell? ⟨w.heap.size,0,none⟩=some (v0)/\wl.cell? ⟨w.heap.size,1,none⟩=some (v1)/\wl.cell? ⟨w.heap.size,2,none⟩=some (v2)/\wl.cell? ⟨w.heap.size,3,none⟩=some (v3)/\wl.cell? ⟨w.heap.size+1,0,none⟩=some (u0)/\wl.cell? ⟨w.heap.size+1,1,none⟩=some (u1)/\wl.cell? ⟨w.heap.size+1,2,none⟩=some (u2)/\wl.cell? ⟨w.heap.size+1,3,none⟩=some (u3)/\wl.cell? ⟨w.heap.size+1,4,none⟩=some (u4)/\wl.cell? ⟨gS,4,none⟩=some (.slice ab nb cb)/\wl.cell? ⟨gS,5,none⟩=some (.slice ae ne ce):=fun hb=>⟨aB (z0.k 0) hb,aB (z0.k 1) hb,aB (z0.k 2) hb,aB (z0.k 3) hb,aB (z1.k 0) hb,aB (z1.k 1) hb,aB (z1.k 2) hb,aB (z1.k 3) hb,aB (z1.k 4) hb,aB n4 hb,aB n5 hb⟩
      have Al:=HS (wl:=wr.drew) (zD2 _ _).drew;have H6:=HIB.out wr.drew _ _ b nf d ab cb (HE.out.below bw.drew) (aS.below HB.out bw.drew);rw[HNB.out]at H6;simp only[agg,List.toArray]at H6;go_wp2_with fail
      refine zK3 (S:=fun wl=>wl.cell? ⟨w.heap.size,0,none⟩=some (v0)/\wl.cell? ⟨w.heap.size,1,none⟩=some (v1)/\wl.cell? ⟨w.heap.size,2,none⟩=some (v2)/\wl.cell? ⟨w.heap.size,3,none⟩=some (v3)/\wl.cell? ⟨w.heap.size+1,0,none⟩=some (u0)/\wl.cell? ⟨w.heap.size+1,1,none⟩=some (u1)/\wl.cell? ⟨w.heap.size+1,2,none⟩=some (u2)/\wl.cell? ⟨w.heap.size+1,3,none⟩=some (u3)/\wl.cell? ⟨w.heap.size+1,4,none⟩=some (u4)/\wl.cell? ⟨gS,4,none⟩=some (.slice ab nb cb)/\wl.cell? ⟨gS,5,none⟩=some (.slice ae ne ce)) V0 Al (fun Aa=>?_)
      refine wpAnyH_take (i:=0) (v:=?v513) rfl V0 V0 V0 (fun _ _ _ h=>h) (.inl ⟨by rfl, ?y513⟩) Aa ?_
      case y513=>intro w Bp;(try dsimp only at Bp);go_simp;first|done|rfl
      refine wpAnyH_take (i:=1) (v:=?v514) rfl V0 V0 V0 (fun _ _ _ h=>h) (.inl ⟨by rfl, ?y514⟩) Aa ?_
      case y514=>intro w Bp;(try dsimp only at Bp);go_simp;first|done|rfl
      refine wpAnyH_take (i:=2) (v:=?v515) rfl V0 V0 V0 (fun _ _ _ h=>h) (.inl ⟨by rfl, ?y515⟩) Aa ?_
      case y515=>intro w Bp;(try dsimp only at Bp);go_simp;first|done|rfl
      refine wpAnyH_take (i:=3) (v:=?v516) rfl V0 V0 V0 (fun _ _ _ h=>h) (.inl ⟨by rfl, ?y516⟩) Aa ?_
      case y516=>intro w Bp;(try dsimp only at Bp);go_simp;first|done|rfl
      refine wpAnyH_take (i:=4) (v:=?v517) rfl V0 V0 V0 (fun _ _ _ h=>h) (.inl ⟨by rfl, ?y517⟩) Aa ?_
      case y517=>intro w Bp;(try dsimp only at Bp);go_simp;first|done|rfl
      refine wpAnyH_take (i:=5) (v:=?v518) rfl V0 V0 V0 (fun _ _ _ h=>h) (.inl ⟨by rfl, ?y518⟩) Aa ?_
      case y518=>intro w Bp;(try dsimp only at Bp);go_simp;first|done|rfl
      refine wpAnyH_take (i:=7) (v:=?v519) rfl V0 V0 V0 (fun _ _ _ h=>h) (.inl ⟨by rfl, ?y519⟩) Aa ?_
      case y519=>intro w Bp;(try dsimp only at Bp);go_simp;first|done|rfl
      refine wpAnyH_take (i:=8) (v:=?v520) rfl V0 V0 V0 (fun _ _ _ h=>h) (.inl ⟨by rfl, ?y520⟩) Aa ?_
      case y520=>intro w Bp;(try dsimp only at Bp);go_simp;first|done|rfl
      refine wpAnyH_take (i:=9) (v:=?v521) rfl V0 V0 V0 (fun _ _ _ h=>h) (.inl ⟨by rfl, ?y521⟩) Aa ?_
      case y521=>intro w Bp;(try dsimp only at Bp);go_simp;first|done|rfl
      refine wpAnyH_take (i:=10) (v:=?v522) rfl V0 V0 V0 (fun _ _ _ h=>h) (.inl ⟨by rfl, ?y522⟩) Aa ?_
      case y522=>intro w Bp;(try dsimp only at Bp);go_simp;first|done|rfl
      refine wpAnyH_take (i:=11) (v:=?v523) rfl V0 V0 V0 (fun _ _ _ h=>h) (.inl ⟨by rfl, ?y523⟩) Aa ?_
      case y523=>intro w Bp;(try dsimp only at Bp);go_simp;first|done|rfl
      try simp only[Act.put,List.getElem_toArray,List.getElem_cons_zero,List.getElem_cons_succ,List.setIfInBounds_toArray,List.set_cons_zero,List.set_cons_succ]
      refine ra 6 fun K hK=>?_
      go_simp
      (with_reducible refine H6.mono ?_)
      refine M9245 ?_;intro w4 Bg b4 HS4;have bw4:=bw.trans (b4.mono bw.size);have H12:=HIE.out w4 _ _ b nf d ae ce (HE.out.below bw4) (aS.below HEL.out bw4);rw[HNE.out]at H12;simp only[agg,List.toArray]at H12;go_wp2_with fail
      refine hK.out _ _ (HS4) (fun Aa=>?_)
      clear hK K;try simp only[Act.put,List.getElem_toArray,List.getElem_cons_zero,List.getElem_cons_succ,List.setIfInBounds_toArray,List.set_cons_zero,List.set_cons_succ]
      refine ra 12 fun K hK=>?_
      go_simp
      (with_reducible refine H12.mono ?_)
      rintro r w7 ⟨rfl,hg7⟩;have b7:=b4.trans ((aA hg7).mono b4.size);have HS7:=HS b7;have H13:=rS (fY m fs p 0 body) (fY m fs p 0 els) w7;have H14:=rS x (dE (fY m fs p 0 body) (fY m fs p 0 els)) w7;go_wp2_with fail
      refine hK.out _ _ (HS7) (fun Aa=>?_)
      clear hK K;try simp only[Act.put,List.getElem_toArray,List.getElem_cons_zero,List.getElem_cons_succ,List.setIfInBounds_toArray,List.set_cons_zero,List.set_cons_succ]
      refine ra 13 fun K hK=>?_
      go_simp
      (with_reducible refine H13.mono ?_)
      rintro r w8 ⟨rfl,rfl⟩;go_wp2_with fail
      refine hK.out _ _ (HS7) (fun Aa=>?_)
      clear hK K;try simp only[Act.put,List.getElem_toArray,List.getElem_cons_zero,List.getElem_cons_succ,List.setIfInBounds_toArray,List.set_cons_zero,List.set_cons_succ]
      refine ra 14 fun K hK=>?_
      go_simp
      (with_reducible refine H14.mono ?_)
      rintro r w9 ⟨rfl,rfl⟩;go_wp2_with fail
      refine hK.out _ _ (HS7) (fun Aa=>?_)
      clear hK K;try simp only[Act.put,List.getElem_toArray,List.getElem_cons_zero,List.getElem_cons_succ,List.setIfInBounds_toArray,List.set_cons_zero,List.set_cons_succ]
      refine wpAnyH_take (i:=15) (v:=?v528) rfl V0 V0 V0 (fun _ _ _ h=>h) (.inl ⟨by rfl, ?y528⟩) Aa ?_
      case y528=>intro w Bp;(try dsimp only at Bp);go_simp;first|done|rfl
      try simp only[Act.put,List.getElem_toArray,List.getElem_cons_zero,List.getElem_cons_succ,List.setIfInBounds_toArray,List.set_cons_zero,List.set_cons_succ]
      refine zL0 V0 ?_ _;have HG9:=hid (aD G15.out (aD hg (aI b7 none)))
      have HFIN:Hid (fY m fs p 0 l=fY m fs p (dE x (dE (fY m fs p 0 body) (fY m fs p 0 els))) (l.drop (j+1))):=by show _=_;rw[HXF.out];exact HEQ.out
      clear HS Al HS4 HS7 Aa H6 H12 H13 H14 n3 n4 n5 z0 z1 z5 bw bw4 yw hg Hg Bg hg7 b4 b7 HXF HEQ;generalize dE x (dE (fY m fs p 0 body) (fY m fs p 0 els))=x' at *;go_wp2;go_roundw
      case rel=>exact⟨j+1,x',by omega,by go_num,rfl,HFIN,HG9⟩
      case measure=>simp[intOf];omega
   clear h3
   by_cases hy0:y0=0
   .
    subst hy0;have n0:=z5.k 0;have n2:=z5.k 2;obtain⟨k0,k1,k2,k3⟩:=z0.c4;obtain⟨q0,q1,q2,q3,q4⟩:=z1.c5;have H1:=sS m p _ _ w5 (HE.out.rm.below bw5) (HE.out.rp.below bw5) an name.length cn name (bW.below HBN.out bw5);simp only[agg,List.toArray]at H1
    cases hv:sgl m p name
    .
     exact U306
    .
     exact U285
   have gy0:(y0 == 0)=false:=by simpa using hy0
   by_cases hy1:y0=1
   .
    subst hy1;have n0:=z5.k 0;have n2:=z5.k 2;obtain⟨k0,k1,k2,k3⟩:=z0.c4;obtain⟨q0,q1,q2,q3,q4⟩:=z1.c5;have H1:=nR m p _ _ w5 (HE.out.rm.below bw5) (HE.out.rp.below bw5) an name.length cn name (bW.below HBN.out bw5);simp only[agg,List.toArray]at H1
    cases hv:arq m p name
    .
     exact U306
    .
     exact U285
   have gy1:(y0 == 1)=false:=by simpa using hy1
   have HF:Hid (fY m fs p 0 l=fY m fs p (dE (jC m fs p z kids) (dE (fY m fs p 0 body) (fY m fs p 0 els))) (l.drop (j+1))):=by show _=_;rw[HZ.out,HDR.out];exact mF (by rw[pO];exact if_neg (by rw[zC2 hy0,zC2 hy1];simp))
   have n0:=z5.k 0;clear hy0 hy1 z0 z1 z5;go_wp2_with fail;exact HK3.out w5 _ _ _ _ _ _ _ _ _ _ _ _ _ _ _ _ _ _ _ _ _ _ _ _ _ _ _ _ _ _ _ _ _ _ _ _ _ _ _ _ _ _ _ _ _ _ _ _ _ _ _ _ _ _ _ _ _ _ _ _ _ _ _ _ _ _ _ _ _ (aN0 _ _) HF.out
  .
   have:nl=j:=by omega
   subst this
   have HF:Hid (fY m fs p 0 l=z):=by show _=_;rw[HZ.out,List.drop_of_length_le (by rw[HNL.out];exact zB0 _),aPb]
   clear HZ;go_wp2;go_ret;exact⟨aQ HF.out.symm,yw⟩
mutual
theorem aLm (m:Mo)(fs:List Fa)(p:Pr):∀s:St,∀k n name kids body els,s=St.mk k n name kids body els->nI m fs p body/\nI m fs p els
 | .mk _ _ _ _ b1 e1,k,n,name,kids,body,els,h=>by
  have h1:=qW m fs p b1 (xB m fs p b1);have h2:=qW m fs p e1 (xB m fs p e1);cases h;exact⟨h1,h2⟩
theorem xB (m:Mo)(fs:List Fa)(p:Pr):∀l:List St,∀k n name kids body els,St.mk k n name kids body els ∈ l->nI m fs p body/\nI m fs p els
 | [],k,n,name,kids,body,els,h=>by simp at h
 | y :: l,k,n,name,kids,body,els,h=>by
  rcases zH0.1 h with h|h
  .
   exact aLm m fs p y k n name kids body els h.symm
  .
   exact xB m fs p l k n name kids body els h
end
theorem aMm (m:Mo)(fs:List Fa)(p:Pr)(l:List St):nI m fs p l:=qW m fs p l (xB m fs p l)
end Go.Proofs.YtegkhlkjfeafjaaGreatDoor

import Derived.Test.YtegkhlkjfeafjaaGreatDoorFaceImpl
import Derived.Test.YtegkhlkjfeafjaaGreatDoorModBoth
namespace Go.Proofs.YtegkhlkjfeafjaaGreatDoor
open Go.RowKit
set_option linter.unusedVariables false
set_option linter.unusedSimpArgs false
set_option maxRecDepth 100000
theorem aOz {w:World}{o:Oper}{a:Act}{K:Act->World->Prop}{Q:Exit->Act->World->Prop}(s x:Operand)
  (ho:o.op=.call { callee:=.builtin .append,args:=#[s,x],argTypes:=#[43,43] })
  (base:Nat) (v:Value) (n:Nat) (l:List Int) (hs:a.eval s=v) (Av:Own w base v n l)
  (ao:Option Addr) (m c:Nat) (l2:List Int) (hx:a.eval x=.slice ao m c) (hr:bW w ao m l2) (hnil:ao=none->c=0) (Bb:n+m<=1099511627776) (hbase:base<=w.heap.size)
  (h:∀v' w',Own w' base v' (n+m) (l++l2)->w.grownBy w' v.ownBlock->K (a.put o.dst v') w'):Oper.wp Tryz.prog o a w K Q:=by
 refine M9136 ?_;intro i0 hi hz0 hz1 hz2 hby
 cases ao with
 | none=>
  obtain rfl:=hnil rfl
  have hm:m=0:=by
   exact U366
  subst hm
  obtain rfl:l2=[]:=zE0 hr.1
  have hrun:=run_append_owned_none (P:=Tryz.prog) (w:=w) base 43 o.type 5 i0 1 Tryz.underlying43 hi v n _ Av.1;unfold Oper.wp execOp;simp only[ho,resolve,invoke,builtin,Sem.run_bind,Sem.run_pure,Result.andThen_ok,List.map_toArray,zI0,List.map_nil,hs,hx,hrun]
  exact h v w (by simpa using Av) (World.grownBy.refl _ _)
 | some ad=>
  refine wp_append_own w s x 43 ho base 5 i0 (.int .u8 0) 1 1 Tryz.underlying43 hi hz0 hz1 hz2 rfl V7 v n _ hs Av.1 ad m c (l2.map (Value.int .u8)) hx (by simp[hr.1]) ?_ (ints_oneCell _ _) V14 V6 hbase ?_
  .
   exact U295
  .
   exact U191
set_option maxHeartbeats 8000000 in
theorem aQs (m:Mo)(vs:List Value)(w:World)(h:aO w m.fl vs)(hs:aH m.fl<=1048576):
  Calls Tryz.prog 16 #[agg vs] w fun e w'=>∃nv pv,e=.returned (.agg #[nv,pv])/\aNz w w' nv pv (aOl m):=by
 obtain⟨v0,_,rfl,⟨a0,c0,rfl,hB0,hc0,_,hz0⟩,v1,_,rfl,_,v2,_,rfl,_,v3,_,rfl,h3,rfl⟩:=h;obtain⟨a3,c3,rfl,hL⟩:=h3.list
 have hnp:m.procs.length<=1048576:=by
  exact U359
 refine M9196 ?_;intro hnn HMl x0 z0 y0;simp only[List.toArray]at x0 z0;refine M9241 ?_;clear z0;intro z0 np hNP HNP;rw[zB2,<-hNP]at x0 z0 y0;rw[zB2];rw[<-hNP]at hnp ⊢;clear h3 hNP;simp only[agg];have HL:=hid hL;have HB0:=hid hB0;clear hL hB0;go_enter Tryz.func16,Tryz.ntmps16;go_upto_region 1 with fail;generalize (w.alloc (.cells #[.slice a0 m.name.length c0,v1,v2,.slice a3 np c3] 48 (0,0))).alloc (.cells #[.slice none 0 0,.slice none 0 0] 52 (0,0))=w1 at *;have hE:=aOf w1;have hBe:=aOb w1;have xe:=x0.below hBe x0.lt;have q0:=xe.k 0;have hye:=y0.trans (hBe.mono y0.size);have hR:=bW.below HB0.out hye
 go_wp2_with (at_builtin;refine kN rfl _ _ rfl w1.heap.size _ 0 [] rfl hE _ m.name.length c0 m.name rfl hR hz0 V6 V15 ?_)
 intro nv w3 on hg3;have hnb:=HB0.out.2.1;try simp only[zK0,List.nil_append]at on
 have bn:Below w1.heap.size w1 w3:=hBe.grown hg3 hBe.size (fun k hk=>(hE.1.lt k hk).1)
 have G3:Fg w3 w.heap.size w3.heap.size nv (.slice none 0 0) [] ⟨m.name,[]⟩:=Fg.first ⟨oL on.1 y0.size,fun k hk=>(on.1.lt k hk).2⟩ hnb (zF2 y0.size bn.size)
 obtain⟨an,cn,rfl,_,_,_,_⟩:=gN on.1;have x3:=x0.below bn x0.lt;have z3:=z0.below bn z0.lt;have y3:=y0.trans (bn.mono y0.size);clear q0 x0 z0 y0 on bn hE hBe xe hye hR hg3;refine M9251 ?_;intro f4 b4
 have S4:Hid (∃pv l,FSt w w.heap.size (w.heap.size+1) w3.heap.size [.slice a0 m.name.length c0,v1,v2,.slice a3 np c3] (.slice an m.name.length cn) m.name m.procs (w3.alloc (.cells #[.slice an m.name.length cn,.slice none 0 0] 52 (0,0))) 0 pv l):=
  ⟨_,_,⟨x3.below b4 x3.lt,z3.below b4 z3.lt,f4,by have:=(G3.stays (gG.of b4 (zB0 _))).wide (zB0 _) b4.size;simpa [aMb] using this,y3.trans (b4.mono y3.size),by have:=x3.lt;omega,by have:=z3.lt;omega,y3.size⟩⟩
 clear x3 z3 y3 f4 b4 G3 hnb;go_upto_region 2 with fail;generalize w3.alloc (.cells #[.slice an m.name.length cn,.slice none 0 0] 52 (0,0))=w4 at *;generalize w3.heap.size=gF at *;go_wp2_with fail
 go_loopw [4] (fun i wr=>∃j:Nat,j<=np/\i=.int .i64 j/\Hid (∃pv l,FSt w w.heap.size (w.heap.size+1) gF [.slice a0 m.name.length c0,v1,v2,.slice a3 np c3] (.slice an m.name.length cn) m.name m.procs wr j pv l)) (fun i _=>np-(intOf i).toNat)
 case atStart=>exact⟨0,zD1 _,rfl,S4⟩
 case round=>
  obtain⟨j,hj,rfl,hst⟩:=hrel;obtain⟨pv,l,st⟩:=hst.out;clear S4 hst;have xM:=st.m;have k3:=xM.k 3
  by_cases Ai:j<np
  .
   obtain⟨q,hq⟩:∃q,m.procs[j]?=some q:=⟨_,zA0 (by rw[HNP.out];exact Ai)⟩
   obtain⟨bx,offx,rfl⟩:=aS.addr HL.out (by rw[zB2,HNP.out];omega)
   obtain⟨vs,Ad,Ab⟩:=(aS.el HL.out (show(m.procs.map Pr.fl)[j]?=some q.fl by rw[zA2,hq];rfl)).vals
   have hvv:=Ad;obtain⟨u0,_,rfl,⟨aq,cq,rfl,hbq,_,_,hzq⟩,u1,_,rfl,rfl,u2,_,rfl,hp2,u3,_,rfl,hp3,u4,_,rfl,hp4,rfl⟩:=Ad;obtain⟨ap,cp,rfl,hLp⟩:=hp2.list;obtain⟨al,cl,rfl,_⟩:=hp3.list;obtain⟨ab,cb,rfl,_⟩:=hp4.list;generalize (bH q.locals).length=nl at *;generalize (sts q.body).length=nb at *;have hqm:=HMl.out q (zA3 hq);have HQ:=hid hq
   obtain⟨pp,hpp⟩:∃z,z=q.params.length:=⟨_,rfl⟩
   have HPP:=hid hpp.symm;rw[zB2,<-hpp]at Ab hvv;rw[<-hpp]at hqm;have hb:=st.b;have HV:=hid hvv;have HR:=hid Ab;have r1:=aB (Ab 1 _ rfl) hb;clear Ab hq hpp hp2 hp3 hp4 hvv
   cases ho:q.opn
   .
    rw[ho]at r1
    have HS:Hid (∃pv l,FSt w w.heap.size (w.heap.size+1) gF [.slice a0 m.name.length c0,v1,v2,.slice (some ⟨bx,offx,none⟩) np c3] (.slice an m.name.length cn) m.name m.procs wr (j+1) pv l):=⟨_,_,st.skip HQ.out ho⟩
    clear st xM ho;exact U312
   .
    rw[ho]at r1;have HBq:=hid (hbq.below hb);have xF:=st.f;obtain⟨aP,cP,hpv,_,_,_,_⟩:=gN st.g.row
    simp only at hpv
    subst hpv;refine M9235 ?_;clear xF;intro nf hnf HNF hnf9 As xF
    have HROW:Hid (wr.ownsRow w.heap.size 62 2 (.slice aP nf cP) nf (aE6 l)):=by have:=st.g.row;simp only at this;rw[HNF.out]at this;exact this
    have HST:Hid (FSt w w.heap.size (w.heap.size+1) gF [.slice a0 m.name.length c0,v1,v2,.slice (some ⟨bx,offx,none⟩) np c3] (.slice an m.name.length cn) m.name m.procs wr j (.slice aP nf cP) l):=by have:=st;rw[HNF.out]at this;exact this
    have bws:=hb.size;clear st hnf
    have HSB:∀wl,Blk wl gF 52 [.slice an m.name.length cn,.slice aP nf cP]->Blk wl w.heap.size 48 [.slice a0 m.name.length c0,v1,v2,.slice (some ⟨bx,offx,none⟩) np c3]->Below w.heap.size w wl->wl.cell? ⟨gF,1,none⟩=some (.slice aP nf cP)/\wl.cell? ⟨w.heap.size,3,none⟩=some (.slice (some ⟨bx,offx,none⟩) np c3)/\wl.cell? ⟨bx,offx+j*5,none⟩=some (.slice aq q.name.length cq)/\wl.cell? ⟨bx,offx+j*5+1,none⟩=some (.bool true)/\wl.cell? ⟨bx,offx+j*5+2,none⟩=some (.slice ap pp cp)/\wl.cell? ⟨bx,offx+j*5+3,none⟩=some (.slice al nl cl)/\wl.cell? ⟨bx,offx+j*5+4,none⟩=some (.slice ab nb cb):=fun wl b1 b2 b3=>⟨b1.k 1,b2.k 3,aB (HR.out 0 _ rfl) b3,aB (HR.out 1 _ (by rw[ho];rfl)) b3,aB (HR.out 2 _ rfl) b3,aB (HR.out 3 _ rfl) b3,aB (HR.out 4 _ rfl) b3⟩
    go_wp2_with fail;have hS0:=HSB wr.drew xF xM hb.drew
    refine rl 20 (S:=fun wl=>wl.cell? ⟨gF,1,none⟩=some (.slice aP nf cP)/\wl.cell? ⟨w.heap.size,3,none⟩=some (.slice (some ⟨bx,offx,none⟩) np c3)/\wl.cell? ⟨bx,offx+j*5,none⟩=some (.slice aq q.name.length cq)/\wl.cell? ⟨bx,offx+j*5+1,none⟩=some (.bool true)/\wl.cell? ⟨bx,offx+j*5+2,none⟩=some (.slice ap pp cp)/\wl.cell? ⟨bx,offx+j*5+3,none⟩=some (.slice al nl cl)/\wl.cell? ⟨bx,offx+j*5+4,none⟩=some (.slice ab nb cb)) V0 hS0 (fun Aa=>?_)
    refine la 0 ?_;refine la 1 ?_;refine la 3 ?_;try simp only[nrm]
    refine la 4 ?_;refine la 5 ?_;refine la 6 ?_;try simp only[nrm]
    refine la 7 ?_;refine la 8 ?_;refine la 10 ?_;try simp only[nrm]
    refine la 11 ?_;refine la 12 ?_;refine la 13 ?_;try simp only[nrm]
    refine la 14 ?_;try simp only[nrm]
    have be0:=aOb wr.drew
    have be:Below wr.heap.size wr (wr.drew.alloc (.cells #[] 5)):=(zD2 wr.heap.size wr).drew.trans be0
    have oe:=aOf wr.drew;have hSe:=HSB _ (xF.below be xF.lt) (xM.below be xM.lt) (hb.trans (be.mono bws))
    refine da 2 fun K hK=>?_
    go_simp
    refine hK.out _ _ (hSe) (fun Aa=>?_)
    clear hK K;try simp only[Act.put,List.getElem_toArray,List.getElem_cons_zero,List.getElem_cons_succ,List.setIfInBounds_toArray,List.set_cons_zero,List.set_cons_succ]
    have hRq:=HBq.out.below be
    refine da 9 fun K hK=>?_
    rw[if_pos V0];refine aOz _ _ rfl wr.heap.size _ 0 [] rfl oe _ q.name.length cq q.name rfl hRq hzq V6 V15 ?_;intro va wa oa hga;try simp only[zK0,List.nil_append]at oa
    have ba:Below wr.heap.size wr wa:=be.grown hga be.size (fun k hk=>(oe.1.lt k hk).1)
    obtain⟨ay,cy,rfl,_,_,_,_⟩:=gN oa.1;have hwa:=hb.trans (ba.mono bws);have hSa:=HSB wa (xF.below ba xF.lt) (xM.below ba xM.lt) hwa
    have OA:Ob wa 5 wr.heap.size wa.heap.size (.slice ay q.name.length cy) q.name.length (bV q.name):=⟨oa.1,fun k hk=>(oa.1.lt k hk).2⟩
    refine hK.out _ _ (hSa) (fun Aa=>?_)
    clear hK K;try simp only[Act.put,List.getElem_toArray,List.getElem_cons_zero,List.getElem_cons_succ,List.setIfInBounds_toArray,List.set_cons_zero,List.set_cons_succ]
    have HK:=aEt q _ wa (aO.below HV.out hwa) (by rw[HPP.out];omega)
    rw[HPP.out,ho]at HK;simp only[agg,List.toArray]at HK
    refine da 15 fun K hK=>?_
    go_simp
    (with_reducible refine HK.mono ?_)
    rintro e wb ⟨vb,rfl,ob,bb⟩;have bb':=ba.trans (bb.mono ba.size);have hSb:=HSB wb (xF.below bb' xF.lt) (xM.below bb' xM.lt) (hb.trans (bb'.mono bws));obtain⟨az,cz,rfl,_,_,_,_⟩:=gN ob.own;go_wp2_with fail
    refine hK.out _ _ (hSb) (fun Aa=>?_)
    clear hK K;try simp only[Act.put,List.getElem_toArray,List.getElem_cons_zero,List.getElem_cons_succ,List.setIfInBounds_toArray,List.set_cons_zero,List.set_cons_succ]
    refine la 16 ?_;refine M9237 ?_;intro xC bc bc';have hSc:=HSB _ (xF.below bc' xF.lt) (xM.below bc' xM.lt) (hb.trans (bc'.mono bws))
    have ROWC:=mL HROW.out (fun g hg=>bc'.block g (HROW.out.lt g hg).2)
    simp only[List.toArray]at xC
    refine da 17 fun K hK=>?_
    go_simp
    refine hK.out _ _ (hSc) (fun Aa=>?_)
    clear hK K;try simp only[Act.put,List.getElem_toArray,List.getElem_cons_zero,List.getElem_cons_succ,List.setIfInBounds_toArray,List.set_cons_zero,List.set_cons_succ]
    generalize wb.alloc (.cells #[.slice ay q.name.length cy,.slice az pp cz] 62 (0,0))=wc at *
    refine da 18 fun K hK=>?_
    refine M9231 ?_;intro v4 w4' ho4 Bg hob
    obtain⟨HST4,xF4⟩:=HST.out.push HQ.out ho ba OA HBq.out.2.1 bb hob bc (by rw[HNF.out];exact ho4) Bg
    have xM4:=(xM.below bc' xM.lt).below_row Bg (aOd ROWC (xM.below bc' xM.lt) V7)
    have hw4:Below w.heap.size w w4':=(hb.trans (bc'.mono bws)).grown Bg (zF2 bws bc'.size) (fun k hk=>(ROWC.lt k hk).1)
    obtain⟨a4,c4,rfl,_,_,_,_⟩:=gN ho4
    refine hK.out _ _ ((HSB _ xF4 xM4 hw4)) (fun Aa=>?_)
    clear hK K;try simp only[Act.put,List.getElem_toArray,List.getElem_cons_zero,List.getElem_cons_succ,List.setIfInBounds_toArray,List.set_cons_zero,List.set_cons_succ]
    refine la 19 ?_;refine M9228 ?_;intro hc4 hf4 HS
    refine ea fun K hK=>?_
    go_simp;refine hK.out _ _ ?_;clear hK K Aa HSB hS0 hSa hSb hSc hSe hc4 hf4 HST4 xF4 xM4 ho4 Bg xC bc bc' ROWC oa OA ob hob ba be be0 oe bb bb' HK xF xM k3 r1 HST HROW hw4 hwa hga hRq;exact U312
  .
   have:np=j:=V6
   subst this;obtain⟨aP,cP,hpv,_,_,_,_⟩:=gN st.g.row
   simp only at hpv
   subst hpv;have hG:=st.g
   have e1:m.procs.take np=m.procs:=zD3 V113
   rw[e1]at hG;have sF:=st.f;have sR:=st.r;have sb:=st.b;rw[e1]at sF;generalize (aMb m.procs).length=nf at *;refine M952 ?_;intro q0 q1 d0 d1 f0 f1 z9 G9 y9 hsz9;go_wp2_with fail;generalize (wr.setCell ⟨w.heap.size+1,0,none⟩ (.slice an m.name.length cn)).setCell ⟨w.heap.size+1,1,none⟩ (.slice aP nf cP)=w9 at *;simp only[List.set_cons_zero,List.set_cons_succ]at z9;obtain⟨e0,e2⟩:=z9.c2
   refine zJ0 (v:=.agg #[.slice an m.name.length cn,.slice aP nf cP]) (by simp only[results,Tryz.results16];simp[go_sem,e0,e2]) rfl ⟨_,_,rfl,⟨l,by rw[hsz9];exact G9.out⟩,y9⟩
end Go.Proofs.YtegkhlkjfeafjaaGreatDoor

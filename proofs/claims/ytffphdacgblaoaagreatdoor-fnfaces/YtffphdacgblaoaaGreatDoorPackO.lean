import Derived.Test.YtffphdacgblaoaaGreatDoorPackK
import Derived.Test.YtffphdacgblaoaaGreatDoorRing
import Derived.Test.YtffphdacgblaoaaGreatDoorPackN
import Derived.Scope
import Derived.Sort.CutIn
namespace Go.Proofs.YtffphdacgblaoaaGreatDoor
open Go.RowKit Go.Shelf
set_option linter.unusedVariables false
set_option linter.unusedSimpArgs false
set_option maxRecDepth 100000
theorem M992{p q:Prop}(k:q)(h:Kx q->p:=by
 intro kQ
 refine ta 4 ?_
 refine ta 5 ?_
 refine ta 6 ?_
 try simp only[nrm]
 refine ta 7 ?_
 refine ta 8 ?_
 try simp only[nrm]
 exact kQ.o):p:=h ⟨k⟩
attribute [local go_sem] Oper.semAt_some
theorem aE5 (a:Option Addr)(n c:Nat)(w:World):
  Calls Tryz.prog 89 #[.slice a n c] w fun e w'=>e=.returned (.func (.func 115) #[] #[.pointer (some ⟨w.heap.size,0,none⟩)])/\w'=w.alloc (.cells #[.slice a n c] 53 (0,0)):=by
 have hmf:∀(fn:Fn) (first cap:Array Value) (w:World),(Instr.makeFunc fn first cap).run Tryz.prog w=.ok (.func fn first cap) w:=fun _ _ _ _=>rfl
 go_enter Tryz.func89,Tryz.ntmps89;exact U45
theorem aS0 {X:Nat->Prop}{n0:Nat}{w:World}(hn:n0<=w.heap.size)(W:World)(l:Nat)(o o':Obj)(hl:w.heap.size<=l)(h:W.heap[l]?=some o)(hc:o.isCells=false)(_:o.isWalk=false):Kc X n0 W (W.putObj l o'):=by
 have hg:=grownBy_putObj' W l o'
 refine⟨hg.os,hg.tape,hg.output,hg.size,fun k o2 hk _ Ab=>?_⟩
 by_cases e:k=l
 .
  subst e;rw[h]at hk;cases hk
  rcases Ab with Ab|Ab
  .
   rw[hc]at Ab;cases Ab
  .
   omega
 .
  exact(hg.block k (zJ0.1 hk).1 (by simpa using e)).trans hk
theorem aOr {X:Nat->Prop}{n0:Nat}{W:World}{g:Nat}{v:Value}(hx:X g):Kc X n0 W (W.setCell ⟨g,0,none⟩ v):=by
 have hg:=grownBy_setCell' W g v
 refine⟨hg.os,hg.tape,hg.output,hg.size,fun k o hk hnx _=>?_⟩
 exact(hg.block k (zJ0.1 hk).1 (by simp;intro e;subst e;exact hnx hx)).trans hk
theorem mC {A C:World}{row:Option Nat}{g:Nat}{T:TypeId}{vs:List Value}(h:Blk A g T vs)(hg:A.grownBy C row)(hr:∀r,row=some r->∃o:Obj,A.heap[r]?=some o/\o.isCells=false):Blk C g T vs:=
 h.below_row hg (fun e=>by
  obtain⟨o,ho,hc⟩:=hr g e;have h':A.heap[g]?=_:=h;rw[h']at ho;cases ho
  cases hc)
def aE4 (g:List Int->Mn)(m:Me):Bool:=decide (m.kids.length ≠ (g m.name).2.length) || (List.range m.kids.length).any fun i=>decide ((if (m.kids[i]?.map Ex.kind).getD 0=7 then (1:Int) else 0) ≠ (g m.name).2[i]?.getD 0)
def sC (g:List Int->Mn)(ms:List Me):Int:=if ms.any (aE4 g) then 4 else 0
def qT (g:List Int->Mn)(ms:List Me):Int:=if ms.any (fun m=>decide ((g m.name).1 ≠ m.sort)) then 2 else sC g ms
theorem rD (g:List Int->Mn)(ms:List Me)(m:Me):sC g (ms++[m])=if aE4 g m then 4 else sC g ms:=by
 unfold sC;rw[List.any_append]
 cases ms.any (aE4 g) <;> cases h:aE4 g m <;> simp[h]
set_option maxHeartbeats 4000000 in
theorem wN (g:List Int->Mn)(body:List St)(a:Option Addr)(n c:Nat)(w0 w:World)(b k:Nat)(hL:bQ w0 a c 6 (sts body))(hn:body.length=n)(hwf:yM body)(hb:Below w0.heap.size w0 w)(hN:NT w b k g)
  (hex:∀i,i<8->w0.cell? ⟨1,i,none⟩=some (.int .i64 (vU i))) (hst:∀i,i<8->w0.cell? ⟨0,i,none⟩=some (.int .i64 (wQ i))):
  Calls Tryz.prog 52 #[.map (some b),.slice a n c] w fun e w'=>e=.returned (.int .i64 (qT g (cU body)))/\Below w.heap.size w w':=by
 subst hn
 refine callsIn_wide (n:=5) |>.1 ?_
 refine callsIn_of_wp_marks Tryz.func52 rfl trivial ?_ rfl;simp only[Tryz.ntmps52,List.size_toArray,zB1,zC3,Nat.reduceAdd,Nat.reduceSub,Array.replicate_succ,Array.replicate_zero,List.push_toArray,List.append_toArray,List.nil_append,List.cons_append]
 gi_wp2_with fail
 refine wpIn_wide.2 (wp_scope_straight ((wpIn_wide (n:=5)).1 ?_))
 gi_wp2_with fail
 refine wpIn_label ?_
 gi_wp2_with (refine⟨trivial, ?_⟩;gi_at_call 89;refine(callsIn_wide.2 (aE5 _ _ _ _)).mono ?_;rintro e w' ⟨rfl,rfl⟩)
 have bN:=(((Blk.new w 45 [.map (some b)]).old (o:=.cells #[.int .i64 0] 3 (0,0))).old (o:=.cells #[.int .i64 0] 3 (0,0))).old (o:=.cells #[.slice a body.length c] 53 (0,0));have bR:=((Blk.new (w.alloc (.cells #[.map (some b)] 45 (0,0))) 3 [.int .i64 0]).old (o:=.cells #[.int .i64 0] 3 (0,0))).old (o:=.cells #[.slice a body.length c] 53 (0,0));have bT:=(Blk.new ((w.alloc (.cells #[.map (some b)] 45 (0,0))).alloc (.cells #[.int .i64 0] 3 (0,0))) 3 [.int .i64 0]).old (o:=.cells #[.slice a body.length c] 53 (0,0));have bB:=Blk.new (((w.alloc (.cells #[.map (some b)] 45 (0,0))).alloc (.cells #[.int .i64 0] 3 (0,0))).alloc (.cells #[.int .i64 0] 3 (0,0))) 53 [.slice a body.length c];simp only[List.toArray,World.size_alloc]at bN bR bT bB
 have hB0:Below w.heap.size w ((((w.alloc (.cells #[.map (some b)] 45 (0,0))).alloc (.cells #[.int .i64 0] 3 (0,0))).alloc (.cells #[.int .i64 0] 3 (0,0))).alloc (.cells #[.slice a body.length c] 53 (0,0))):=((((zD2 _ w).alloc (zB0 _) _).alloc Q9 _).alloc Q29 _).alloc Q29 _
 have Am:((((w.alloc (.cells #[.map (some b)] 45 (0,0))).alloc (.cells #[.int .i64 0] 3 (0,0))).alloc (.cells #[.int .i64 0] 3 (0,0))).alloc (.cells #[.slice a body.length c] 53 (0,0))).heap.size=w.heap.size+4:=by simp
 obtain⟨W0,hW0⟩:∃W0,(((w.alloc (.cells #[.map (some b)] 45 (0,0))).alloc (.cells #[.int .i64 0] 3 (0,0))).alloc (.cells #[.int .i64 0] 3 (0,0))).alloc (.cells #[.slice a body.length c] 53 (0,0))=W0:=⟨_,rfl⟩
 have hW0':(((w.alloc (.cells { toList:=[.map (some b)] } 45 (0,0))).alloc (.cells #[.int .i64 0] 3 (0,0))).alloc (.cells #[.int .i64 0] 3 (0,0))).alloc (.cells #[.slice a body.length c] 53 (0,0))=W0:=hW0
 replace bN:Blk W0 w.heap.size 45 [.map (some b)]:=by rw[<-hW0];exact bN
 replace bR:Blk W0 (w.heap.size+1) 3 [.int .i64 0]:=by rw[<-hW0];exact bR
 replace bT:Blk W0 (w.heap.size+1+1) 3 [.int .i64 0]:=by rw[<-hW0];exact bT
 replace bB:Blk W0 (w.heap.size+1+1+1) 53 [.slice a body.length c]:=by rw[<-hW0];exact bB
 rw[hW0]at hB0 Am ⊢;clear hW0 hW0';have hs0:=hb.size
 refine wpIn_rangeFunc_ownH rfl Q0 (gf:=115) (lb:=#[.pointer (some ⟨w.heap.size+1+1+1,0,none⟩)]) rfl trivial (enters_of Tryz.func115 Q1 rfl)
  (xI w0 W0 4 w0.heap.size (w.heap.size+4) (w.heap.size+1+1+1) (fun k=>k=w.heap.size+1\/k=w.heap.size+1+1) body a c hL hwf (hb.trans (hB0.mono hs0)) Q0 (by rintro k (rfl|rfl) <;> constructor <;> omega) (zB0 _) hex hst (bB.k 0)) Kc.trans (aS0 Q0) (zD2 _ _) (fun _=>rfl)
  (fun pre W=>(Blk W w.heap.size 45 [.map (some b)]/\Blk W (w.heap.size+1) 3 [.int .i64 0]/\Blk W (w.heap.size+1+1) 3 [.int .i64 (sC g (pre.map MeR.me))]/\∀x ∈ pre,(g x.me.name).1=x.me.sort)/\Below w.heap.size w W)
  (fun cd pre W=>(cd=.ret/\(∃x ∈ pre,(g x.me.name).1 ≠ x.me.sort)/\Blk W (w.heap.size+1) 3 [.int .i64 2])/\Below w.heap.size w W)
  (OwnFrom.and (Own.from (fun s A C row hs hg hr=>⟨mC hs.1 hg hr,mC hs.2.1 hg hr,mC hs.2.2.1 hg hr,hs.2.2.2⟩) _) (ownFrom_below (zB0 _) Q0))
  (fun cd=>OwnFrom.and (Own.from (fun s A C row hs hg hr=>⟨hs.1,hs.2.1,mC hs.2.2 hg hr⟩) _) (ownFrom_below (zB0 _) Q0))
  ⟨⟨bN,bR,bT,by simp⟩,hB0⟩
  (fun x a' W=>∃Bx,w.heap.size+1+1<Bx/\Blk W Bx 132 [.string (strOfNums x.me.name),.int .i64 x.me.sort,.slice x.a x.me.kids.length x.c]/\a'={ tmps:=#[.map (some b),.slice a body.length c,.pointer (some ⟨w.heap.size,0,none⟩),undef,.pointer (some ⟨w.heap.size+1,0,none⟩),.pointer (some ⟨w.heap.size+1+1,0,none⟩),.pointer (some ⟨Bx,0,none⟩),undef,undef,undef,.slice a body.length c,.func (.func 115) #[] #[.pointer (some ⟨w.heap.size+1+1+1,0,none⟩)],x.enc,undef,undef,undef,undef,undef,undef,undef,undef,undef,undef,undef,undef,undef,undef,undef,undef,undef,undef,undef,undef,undef,undef,undef,undef,undef,undef,undef,undef,undef,undef,undef,undef,undef,undef,undef,undef],defers:=[] })
  (fun x a' _ A C row hs hg hr=>by obtain⟨Bx,h1,h2,h3⟩:=hs;exact⟨Bx,h1,mC h2 hg (fun r e=>(hr r e).2),h3⟩)
  ?assign ?body ?done ?stop
 case assign=>
  rintro l pre x W K ⟨⟨b1,b2,b3,Ah⟩,hB1⟩ hK;have HK:=hid hK;clear hK;simp only[MeR.enc]
  gi_wp2_with fail
  exact HK.out _ _ ((KeepsOthers.alloc _ _).from _) (Kc.grown (aB W _ none)) ⟨⟨b1.old,b2.old,b3.old,Ah⟩,hB1.alloc hB1.size _⟩ ⟨W.heap.size,b3.lt,Blk.new W 132 [.string (strOfNums x.me.name),.int .i64 x.me.sort,.slice x.a x.me.kids.length x.c],rfl⟩
 case body=>
  rintro l pre x a' W hl ⟨r,hr⟩ ⟨⟨b1,b2,b3,Ah⟩,hB1⟩ ⟨Bx,hBx,bX,rfl⟩ Aj;have HSZ:=hid Am;clear Am hl hr Aj bN bR bT bB hB0 hex hst;have hbW:=hb.trans (hB1.mono hs0);have NW:=hN.below hB1;obtain⟨f,hf1,hf2⟩:=NW.ex;have hlk:=hf1.lookup x.bt (zF2 x.nl Q17);obtain⟨_,ef,ak,ck,rfl,hkr,hkc,hkm,hkz⟩:=hf2 x.me.name x.bt;rw[ef]at hlk;have HL:=hid x.row
  have HM:Hid (aE4 g x.me=(decide (x.me.kids.length ≠ (g x.me.name).2.length) || (List.range x.me.kids.length).any fun i=>decide ((if (x.me.kids[i]?.map Ex.kind).getD 0=7 then (1:Int) else 0) ≠ (g x.me.name).2[i]?.getD 0))):=rfl
  obtain⟨s,hs⟩:∃s,s=(g x.me.name).1:=⟨_,rfl⟩
  obtain⟨ks,hks⟩:∃ks,ks=(g x.me.name).2:=⟨_,rfl⟩
  have HSE:=hid hs.symm;rw[<-hs,<-hks]at hlk;rw[<-hks]at HM hkr hkc;have cN:=b1.k 0;have x0:=bX.k 0;have mB:=Blk.new W 85 [.int .i64 s,.slice ak ks.length ck];have y1:=aB W (.cells #[.int .i64 s,.slice ak ks.length ck] 85 (0,0)) none;have XX:=bX.old (o:=.cells #[.int .i64 s,.slice ak ks.length ck] 85 (0,0));have RR:=b2.old (o:=.cells #[.int .i64 s,.slice ak ks.length ck] 85 (0,0));have TT:=b3.old (o:=.cells #[.int .i64 s,.slice ak ks.length ck] 85 (0,0));have NN:=b1.old (o:=.cells #[.int .i64 s,.slice ak ks.length ck] 85 (0,0));simp only[List.toArray]at mB;have HKR:=hid hkr
  have hk9:ks.length<=9223372036854775807:=by unfold maxLen at hkm;omega
  clear hs hks ef hf1 hf2 hN hkr hkc hkm hkz NW
  gi_upto_region 5 with fail
  have HBW:Hid (Below w.heap.size w (W.alloc (.cells #[.int .i64 s,.slice ak ks.length ck] 85 (0,0)))):=hB1.alloc hB1.size _
  have HBW0:Hid (Below w0.heap.size w0 (W.alloc (.cells #[.int .i64 s,.slice ak ks.length ck] 85 (0,0)))):=hbW.alloc hbW.size _
  have HKO:Hid (KeepsOthers W (W.alloc (.cells #[.int .i64 s,.slice ak ks.length ck] 85 (0,0)))):=KeepsOthers.alloc _ _
  have HY1:=hid y1;have HSW:=hid hB1.size;generalize W.alloc (.cells #[.int .i64 s,.slice ak ks.length ck] 85 (0,0))=w1 at *;generalize hgM:W.heap.size=gM at *;clear hlk cN x0 hbW y1 b1 b2 b3 bX;have x1:=XX.k 1;have x2:=XX.k 2;obtain⟨m0,m1⟩:=mB.c2;have r1:=RR.k 0;have fr1:=RR.free 0;have t1:=TT.k 0;have ft1:=TT.free 0
  by_cases Aw:s=x.me.sort
  .
   have hneb:(s != x.me.sort)=false:=by simpa using Aw
   have HALL:Hid (∀y ∈ pre++[x],(g y.me.name).1=y.me.sort):=by
    intro y hy
    rcases List.mem_append.1 hy with hy|hy
    .
     exact Ah y hy
    .
     rw[List.mem_singleton.1 hy,HSE.out];exact Aw
   have FIN4:Hid (aE4 g x.me=true->∀wr,w1.grownBy wr none->KeepsFrom W0.heap.size W (wr.setCell ⟨w.heap.size+1+1,0,none⟩ (.int .i64 4))/\Kc (fun k=>k=w.heap.size+1\/k=w.heap.size+1+1) w0.heap.size W (wr.setCell ⟨w.heap.size+1+1,0,none⟩ (.int .i64 4))/\((Blk (wr.setCell ⟨w.heap.size+1+1,0,none⟩ (.int .i64 4)) w.heap.size 45 [.map (some b)]/\Blk (wr.setCell ⟨w.heap.size+1+1,0,none⟩ (.int .i64 4)) (w.heap.size+1) 3 [.int .i64 0]/\Blk (wr.setCell ⟨w.heap.size+1+1,0,none⟩ (.int .i64 4)) (w.heap.size+1+1) 3 [.int .i64 (sC g ((pre++[x]).map MeR.me))]/\∀y ∈ pre++[x],(g y.me.name).1=y.me.sort)/\Below w.heap.size w (wr.setCell ⟨w.heap.size+1+1,0,none⟩ (.int .i64 4)))):=by
    intro hm wr hg;have hbr:=aA hg
    have n2:w.heap.size ≠ w.heap.size+1+1:=Q0
    have n3:w.heap.size+1 ≠ w.heap.size+1+1:=Q0
    refine⟨(KeepsFrom.of_grownBy (aD HY1.out hg) (fun j e=>by cases e)).trans ((KeepsOthers.setCell _ _ _).from _),(Kc.grown (aD HY1.out hg)).trans (aOr (.inr rfl)),⟨(NN.below hbr NN.lt).other n2,(RR.below hbr RR.lt).other n3, ?_,HALL.out⟩,(HBW.out.trans (hbr.mono HBW.out.size)).setCell (p:=⟨w.heap.size+1+1,0,none⟩) (by show _<=w.heap.size+1+1;omega) _⟩
    rw[List.map_append,List.map_singleton,rD,if_pos hm];exact(TT.below hbr TT.lt).set (i:=0) _
   have FIN0:Hid (aE4 g x.me=false->∀wr,w1.grownBy wr none->KeepsFrom W0.heap.size W wr/\Kc (fun k=>k=w.heap.size+1\/k=w.heap.size+1+1) w0.heap.size W wr/\((Blk (wr) w.heap.size 45 [.map (some b)]/\Blk (wr) (w.heap.size+1) 3 [.int .i64 0]/\Blk (wr) (w.heap.size+1+1) 3 [.int .i64 (sC g ((pre++[x]).map MeR.me))]/\∀y ∈ pre++[x],(g y.me.name).1=y.me.sort)/\Below w.heap.size w (wr))):=by
    intro hm wr hg;have hbr:=aA hg
    refine⟨KeepsFrom.of_grownBy (aD HY1.out hg) (fun j e=>by cases e),Kc.grown (aD HY1.out hg),⟨NN.below hbr NN.lt,RR.below hbr RR.lt, ?_,HALL.out⟩,HBW.out.trans (hbr.mono HBW.out.size)⟩
    rw[List.map_append,List.map_singleton,rD,if_neg (by rw[hm];simp)]
    exact TT.below hbr TT.lt
   have hx9:=HL.out.len9
   rw[show(exs x.me.kids).length=x.me.kids.length by simp[aQ]]at hx9
   obtain⟨nk,hnk⟩:∃z,z=x.me.kids.length:=⟨_,rfl⟩
   obtain⟨ns,hns⟩:∃z,z=ks.length:=⟨_,rfl⟩
   have HNK:=hid hnk.symm;have HNS:=hid hns.symm;rw[<-hnk]at hx9 x2;rw[<-hns]at hk9 m1;clear Aw Ah hnk hns mB XX
   by_cases hle:nk=ns
   .
    have hleb:((nk:Int) != (ns:Int))=false:=by simp[hle]
    subst hle
    have HS1:Hid (w1.grownBy w1 none):=aR _ _
    have HKC:∀j,j<nk->∃bs ofs,ak=some ⟨bs,ofs,none⟩/\W.cell? ⟨bs,ofs+j,none⟩=some (.int .i64 (ks[j]?.getD 0)):=by
     intro j hj
     obtain⟨bs,ofs,h1,h2⟩:=HKR.out.2.2 (by rw[HNS.out];omega)
     exact⟨bs,ofs,h1,h2 j (by rw[HNS.out];exact hj)⟩
    have HKCD:=hid HKC
    have HMB:Hid (aE4 g x.me=(List.range nk).any fun i=>decide ((if (x.me.kids[i]?.map Ex.kind).getD 0=7 then (1:Int) else 0) ≠ ks[i]?.getD 0)):=by show _=_;rw[HM.out,HNK.out,HNS.out];simp
    have m1':=m1
    have FRT:Hid (∀wl,w1.grownBy wl none->wl.drew.frozen? ⟨w.heap.size+1+1,0,none⟩=false):=fun wl hg=>(TT.below (aA hg) TT.lt).free 0
    clear HKC HALL RR TT NN HM
    gi_wp2_with fail
    gi_loopw [32] (fun i wr=>∃j:Nat,j<=nk/\i=.int .i64 j/\Hid (∀i,i<j->(if (x.me.kids[i]?.map Ex.kind).getD 0=7 then (1:Int) else 0)=ks[i]?.getD 0)/\Hid (w1.grownBy wr none)) (fun i _=>nk-(intOf i).toNat)
    case atStart=>exact⟨0,zD1 _,rfl,by show ∀_,_;omega,HS1⟩
    case round=>
     obtain⟨j,hj,rfl,hno,Az⟩:=hrel;clear HS1
     by_cases hlj:j<nk
     .
      obtain⟨e,he⟩:∃e,x.me.kids[j]?=some e:=⟨_,zA0 (by rw[HNK.out];exact hlj)⟩
      obtain⟨bk,off,es,hxa,hes,Ab⟩:=bQ.cellsAt HL.out (show(exs x.me.kids)[j]?=some e.fl by rw[aQ,zA2,he];rfl)
      obtain⟨kd,en,a2,n2,c2,a3,n3,c3,a4,n4,c4,hkd,rfl⟩:∃kd en a2 n2 c2 a3 n3 c3 a4 n4 c4,kd=e.kind/\es=[.int .i64 kd,.int .i64 en,.slice a2 n2 c2,.slice a3 n3 c3,.slice a4 n4 c4]:=by
       obtain⟨k',n',mo',na',ki'⟩:=e;obtain⟨v0,_,rfl,rfl,v1,_,rfl,rfl,v2,_,rfl,⟨a2,c2,rfl,_⟩,v3,_,rfl,⟨a3,c3,rfl,_⟩,v4,_,rfl,⟨a4,c4,rfl,_⟩,rfl⟩:=hes;exact⟨k',n',a2,_,c2,a3,_,c3,a4,_,c4,rfl,rfl⟩
      obtain⟨bs,ofs,hak,hsc⟩:=HKCD.out j hlj
      have HEL:Hid ((if (x.me.kids[j]?.map Ex.kind).getD 0=7 then (1:Int) else 0)=tI (kd == 7)):=by
       show _=_
       rw[he,hkd];unfold tI
       simp
      have hbr0:=HBW0.out.trans ((aA Az.out).mono HBW0.out.size);have q0:=aC (Ab 0 _ rfl) hbr0;have q1:=aC (Ab 1 _ rfl) hbr0;have q2:=aC (Ab 2 _ rfl) hbr0;have q3:=aC (Ab 3 _ rfl) hbr0;have q4:=aC (Ab 4 _ rfl) hbr0;rw[zG1]at q0
      obtain⟨xa,hxa'⟩:∃xa,xa=x.a:=⟨_,rfl⟩
      rw[<-hxa']at hxa ⊢;subst hxa;clear hxa';subst hak;have y5:=aD Az.out (aB wr (.cells #[.int .i64 kd,.int .i64 en,.slice a2 n2 c2,.slice a3 n3 c3,.slice a4 n4 c4] 119 (0,0)) none);have z5:=Blk.new wr 119 [.int .i64 kd,.int .i64 en,.slice a2 n2 c2,.slice a3 n3 c3,.slice a4 n4 c4];simp only[List.toArray]at z5;have d1:=aC m1' (aA y5).drew;have d2:=aC (aC hsc (aA HY1.out)) (aA y5).drew;have d3:=z5.k 0;have dt:=aC t1 (aA y5).drew
      have df:(wr.alloc (.cells #[.int .i64 kd,.int .i64 en,.slice a2 n2 c2,.slice a3 n3 c3,.slice a4 n4 c4] 119 (0,0))).drew.frozen? ⟨w.heap.size+1+1,0,none⟩=false:=FRT.out _ y5
      have Y5:Hid (w1.grownBy (wr.alloc (.cells #[.int .i64 kd,.int .i64 en,.slice a2 n2 c2,.slice a3 n3 c3,.slice a4 n4 c4] 119 (0,0))).drew none):=aD y5 (aW (zD2 _ _).drew none)
      clear Ab hes he hsc hbr0 hkd y5 z5
      gi_upto_region 12 with fail
      generalize (wr.alloc (.cells #[.int .i64 kd,.int .i64 en,.slice a2 n2 c2,.slice a3 n3 c3,.slice a4 n4 c4] 119 (0,0)))=w5 at *;generalize wr.heap.size=gK at *;clear q0 q1 q2 q3 q4
      have hmo:Tryz.prog.follows .mixedOrders=true:=by kernel_rfl
      obtain⟨kj,hkj⟩:∃z,z=ks[j]?.getD 0:=⟨_,rfl⟩
      have HKJ:=hid hkj;rw[<-hkj]at d2;have HLJ:=hid hlj;have z0:(0:Int)<=(j:Int):=Q0;clear hkj x1 x2 m0 m1 m1' r1 fr1 t1 ft1 hneb hleb hB1 hL hwf hs0;have HTR:=aJv (kd == 7) w5.drew
      have Ba:w5.drew.cell? ⟨gK,0,none⟩=some (.int .i64 kd)/\w5.drew.cell? ⟨gM,1,none⟩=some (.slice (some ⟨bs,ofs,none⟩) nk ck)/\w5.drew.cell? ⟨bs,ofs+j,none⟩=some (.int .i64 kj):=⟨d3,d1,d2⟩
      clear d1 d2 d3
      by_cases hm:tI (kd == 7)=kj
      .
       have hmb:(tI (kd == 7) != kj)=false:=by simpa using hm
       have HNX:Hid (∀i,i<j+1->(if (x.me.kids[i]?.map Ex.kind).getD 0=7 then (1:Int) else 0)=ks[i]?.getD 0):=by
        intro i hi
        by_cases e:i=j
        .
         subst e;rw[HEL.out,hm,HKJ.out]
        .
         exact hno.out i Q0
       clear hm FIN4 FIN0 HMB HKCD HEL hno df dt FRT
       refine ro (S:=fun wl=>wl.cell? ⟨gK,0,none⟩=some (.int .i64 kd)/\wl.cell? ⟨gM,1,none⟩=some (.slice (some ⟨bs,ofs,none⟩) nk ck)/\wl.cell? ⟨bs,ofs+j,none⟩=some (.int .i64 kj)) hmo Q1 (by rintro⟨_,_,h⟩;exact h) Ba (fun Aa=>?_)
       refine M917 ?_;refine M992 ?_
       refine ra 3 fun K hK=>?_
       go_simp
       (with_reducible refine HTR.mono ?_)
       rintro e wa ⟨rfl,rfl⟩;go_wp2_with fail
       refine hK.out _ _ (Ba) (fun Aa=>?_)
       clear hK K;try simp only[nrm]
       refine ta 9 ?_;try simp only[nrm]
       refine zK2 Q1 ?_ _;clear Aa Ba HTR
       gi_wp2_with fail
       go_roundw
       case rel=>exact⟨j+1,by omega,by go_num,HNX,Y5⟩
       case measure=>simp[intOf];omega
      .
       have hmb:(tI (kd == 7) != kj)=true:=by simpa using hm
       have HMT:Hid (aE4 g x.me=true):=by
        show _=_
        rw[HMB.out,List.any_eq_true]
        exact⟨j,by simpa using HLJ.out,by rw[HEL.out,<-HKJ.out];simpa using hm⟩
       have HF:=FIN4.out HMT.out w5.drew Y5.out
       replace HF:Hid _:=HF
       clear hm FIN4 FIN0 HMB HKCD HEL hno FRT HMT
       refine ro (S:=fun wl=>wl.cell? ⟨gK,0,none⟩=some (.int .i64 kd)/\wl.cell? ⟨gM,1,none⟩=some (.slice (some ⟨bs,ofs,none⟩) nk ck)/\wl.cell? ⟨bs,ofs+j,none⟩=some (.int .i64 kj)) hmo Q1 (by rintro⟨_,_,h⟩;exact h) Ba (fun Aa=>?_)
       refine M917 ?_;refine M992 ?_
       refine ra 3 fun K hK=>?_
       go_simp
       (with_reducible refine HTR.mono ?_)
       rintro e wa ⟨rfl,rfl⟩;go_wp2_with fail
       refine hK.out _ _ (Ba) (fun Aa=>?_)
       clear hK K;try simp only[nrm]
       refine ta 9 ?_;try simp only[nrm]
       refine zK2 Q1 ?_ _;clear Aa Ba HTR
       gi_wp2_with fail
       exact HF.out
     .
      have:nk=j:=Q0
      subst this
      have HMF:Hid (aE4 g x.me=false):=by
       show _=_
       rw[HMB.out,List.any_eq_false];intro i hi
       simpa using hno.out i Q77
      have HF:=FIN0.out HMF.out wr Az.out
      replace HF:Hid _:=HF
      clear FIN4 FIN0 HMB HKCD
      gi_wp2_with fail
      exact HF.out
   .
    have hleb:((nk:Int) != (ns:Int))=true:=by simp;omega
    have HMT:Hid (aE4 g x.me=true):=by show _=_;rw[HM.out,HNK.out,HNS.out];simp[hle]
    have HF:=FIN4.out HMT.out w1 (aR _ _)
    replace HF:Hid _:=HF
    clear FIN4 FIN0 HALL RR TT NN
    gi_wp2_with fail
    exact HF.out
  .
   have hneb:(s != x.me.sort)=true:=by simpa using Aw
   have HF:Hid (KeepsFrom W0.heap.size W (w1.setCell ⟨w.heap.size+1,0,none⟩ (.int .i64 2))/\(((∃y ∈ pre++[x],(g y.me.name).1 ≠ y.me.sort)/\Blk (w1.setCell ⟨w.heap.size+1,0,none⟩ (.int .i64 2)) (w.heap.size+1) 3 [.int .i64 2])/\Below w.heap.size w (w1.setCell ⟨w.heap.size+1,0,none⟩ (.int .i64 2)))):=
    ⟨(HKO.out.trans (KeepsOthers.setCell _ _ _)).from _,⟨⟨x,by simp,by rw[HSE.out];exact Aw⟩,RR.set (i:=0) _⟩,HBW.out.setCell (p:=⟨w.heap.size+1,0,none⟩) (by show _<=w.heap.size+1;omega) _⟩
   clear Aw
   gi_wp2_with fail
   exact⟨HF.out.1,⟨rfl,HF.out.2.1.1,HF.out.2.1.2⟩,HF.out.2.2⟩
 case done=>
  rintro D zs W hD hS ⟨⟨b1,b2,b3,Ah⟩,hB1⟩ hK
  have HT:Hid (qT g (cU body)=sC g (zs.map MeR.me)):=by
   show _=_
   unfold qT;rw[<-hS,if_neg];rw[Bool.not_eq_true,List.any_eq_false];intro m hm;obtain⟨x,hx,rfl⟩:=zE1.1 hm
   simp[Ah x hx]
  have cT:=b3.k 0;have cR:=b2.k 0;have fR:=b2.free 0;generalize sC g (zs.map MeR.me)=tv at *
  gi_wp2_with fail
  have hK':=(KeepsOthers.setCell W ⟨w.heap.size+1,0,none⟩ (.int .i64 tv)).same D _ hK rfl
  refine⟨by simp,.inl ⟨_,_,rfl,run_takeDeferred hK', ?_⟩⟩
  have b9:Blk (W.setCell ⟨w.heap.size+1,0,none⟩ (.int .i64 tv)) (w.heap.size+1) 3 [.int .i64 tv]:=b2.set (i:=0) _
  have hc5:=(mC b9 (grownBy_putObj' _ D (.deferred none)) (fun r e=>by cases e;exact⟨_,hK',rfl⟩)).k 0
  refine⟨.int .i64 tv, ?_,by rw[HT.out],(hB1.setCell (p:=⟨w.heap.size+1,0,none⟩) (by show _<=w.heap.size+1;omega) _).trans (belowK_b (w:=w) (zB0 _) _ D _ _ Q0 hK' rfl rfl)⟩
  simp only[results,Tryz.results52]
  simp[go_sem,hc5]
 case stop=>
  rintro D cd pre W hD hpre ⟨⟨rfl,hin,b2⟩,hB1⟩ hK
  have HT:Hid (qT g (cU body)=2):=by
   show _=_
   unfold qT;rw[if_pos];obtain⟨x,hx,Aw⟩:=hin
   exact List.any_eq_true.2 ⟨x.me,hpre.subset (zE1.2 ⟨x,hx,rfl⟩),by simpa using Aw⟩
  gi_wp2_with fail
  refine⟨by simp,.inl ⟨_,_,rfl,run_takeDeferred hK, ?_⟩⟩
  have hc5:=(mC b2 (grownBy_putObj' _ D (.deferred none)) (fun r e=>by cases e;exact⟨_,hK,rfl⟩)).k 0
  refine⟨.int .i64 2, ?_,by rw[HT.out],hB1.trans (belowK_b (w:=w) (zB0 _) W D _ _ Q0 hK rfl rfl)⟩
  simp only[results,Tryz.results52]
  simp[go_sem,hc5]
end Go.Proofs.YtffphdacgblaoaaGreatDoor
namespace Go.Proofs.YtffphdacgblaoaaGreatDoor
open Go.RowKit
set_option linter.unusedVariables false
set_option linter.unusedSimpArgs false
set_option maxRecDepth 100000
def gH (g:List Int->Mn):Int->List Pr->Int
 | c,[]=>c
 | c,q :: l=>if qT (enG g q) (cU q.body)=2 then 2 else gH g (if qT (enG g q) (cU q.body)=4 then 4 else c) l
theorem aBc {g:List Int->Mn}{c:Int}{l:List Pr}{j:Nat}{q:Pr}(h:l[j]?=some q):gH g c (l.drop j)=if qT (enG g q) (cU q.body)=2 then 2 else gH g (if qT (enG g q) (cU q.body)=4 then 4 else c) (l.drop (j+1)):=by
 obtain⟨hj,rfl⟩:=zC1.1 h;rw[List.drop_eq_getElem_cons hj,gH]
set_option maxHeartbeats 4000000 in
theorem aK1 (l:List Pr)(a:Option Addr)(n c:Nat)(w0 w:World)(b k:Nat)(g:List Int->Mn)(hL:bQ w0 a c 5 (l.map Pr.fl))(hn:l.length=n)(hw:Below w0.heap.size w0 w)(hb0:w0.heap.size<=b)(hN:NT w b k g)(hk:k+12*n<=999000)(Ab:tT g)(hpl:∀q ∈ l,aG0 q)(hok:∀q ∈ l,oW g q=true)(hwf:∀q ∈ l,yM q.body)
  (hex:∀i,i<8->w0.cell? ⟨1,i,none⟩=some (.int .i64 (vU i))) (hst:∀i,i<8->w0.cell? ⟨0,i,none⟩=some (.int .i64 (wQ i))):
  Calls Tryz.prog 18 #[.map (some b),.slice a n c] w fun e w'=>e=.returned (.int .i64 (gH g 0 l))/\Below w0.heap.size w0 w':=by
 have HL:=hid hL;have HN:=hid hn;have h9:=hL.len9;rw[zB2,hn]at h9
 have HQ:Hid (∀q ∈ l,aG0 q/\oW g q=true/\yM q.body):=fun q hq=>⟨hpl q hq,hok q hq,hwf q hq⟩
 have HEX:=hid hex;have HSX:=hid hst;have HC:=hid Ab
 have S0:Hid (gH g 0 l=gH g 0 (l.drop 0)/\NT w b (k+12*0) g/\Below w0.heap.size w0 w):=⟨rfl,hN,hw⟩
 clear hL hn hpl hok hwf hex hst Ab hN hw;go_enter Tryz.func18,Tryz.ntmps18;go_wp2_with fail
 go_loopw [5,10] (fun t i wr=>∃(j:Nat) (tv:Int),j<=n/\t=.int .i64 tv/\i=.int .i64 j/\Hid (gH g 0 l=gH g tv (l.drop j)/\NT wr b (k+12*j) g/\Below w0.heap.size w0 wr)) (fun _ i _=>n-(intOf i).toNat)
 case atStart=>exact⟨0,0,zD1 _,rfl,rfl,S0⟩
 case round=>
  obtain⟨j,tv,hj,rfl,rfl,hst⟩:=hrel;obtain⟨hT,hN,hb⟩:=hst.out;clear S0 hst
  by_cases Aj:j<n
  .
   obtain⟨q,hq⟩:∃q,l[j]?=some q:=⟨_,zA0 (by rw[HN.out];exact Aj)⟩
   have HQQ:=hid (HQ.out q (zA3 hq));have HST:=hid (hT.trans (aBc hq));have HLS:=hid (vH HC.out HQQ.out.2.1)
   obtain⟨bx,off,ys,rfl,hys,Ab⟩:=bQ.cellsAt HL.out (show(l.map Pr.fl)[j]?=some q.fl by rw[zA2,hq];rfl)
   have HY0:=hys;obtain⟨v0,_,rfl,⟨a0,c0,rfl,_⟩,v1,_,rfl,rfl,v2,_,rfl,h2,v3,_,rfl,h3,v4,_,rfl,h4,rfl⟩:=hys;obtain⟨a2,c2,rfl,_⟩:=h2.list;obtain⟨a3,c3,rfl,_⟩:=h3.list;obtain⟨ab,cb,rfl,hLb⟩:=h4.list;generalize (q.params.map Pa.fl).length=n2 at Ab HY0;generalize (dC q.locals).length=n3 at Ab HY0;generalize q.name.length=n0 at Ab HY0;generalize q.opn=o1 at Ab HY0
   have e4:(sts q.body).length=q.body.length:=by rw[bL,zB2]
   rw[e4]at Ab HY0
   obtain⟨nb,hnb⟩:∃z,z=q.body.length:=⟨_,rfl⟩
   have HNB:=hid hnb.symm;rw[<-hnb]at Ab HY0;have HY:=hid HY0;have HLB:=hid hLb;have r0:=aC (Ab 0 _ rfl) hb;have r1:=aC (Ab 1 _ rfl) hb;have r2:=aC (Ab 2 _ rfl) hb;have r3:=aC (Ab 3 _ rfl) hb;have r4:=aC (Ab 4 _ rfl) hb;rw[zG1]at r0;have z5:=Blk.new wr 55 [.slice a0 n0 c0,.bool o1,.slice a2 n2 c2,.slice a3 n3 c3,.slice ab nb cb];have g5:=aB wr (.cells #[.slice a0 n0 c0,.bool o1,.slice a2 n2 c2,.slice a3 n3 c3,.slice ab nb cb] 55 (0,0)) none;simp only[List.toArray]at z5;have N5:=hN.grown g5;have b5:=hb.trans ((aA g5).mono hb.size);clear Ab hq hN hb g5 HY0 h2 h3 h4 hLb e4 hnb hT;go_upto_region 5 with fail;generalize wr.alloc (.cells #[.slice a0 n0 c0,.bool o1,.slice a2 n2 c2,.slice a3 n3 c3,.slice ab nb cb] 55 (0,0))=w5 at *;generalize wr.heap.size=gQ at *;clear r0 r1 r2 r3 r4
   have e1:(paL q).length=q.params.length:=by simp[paL]
   have e2:(loL q).length=q.locals.length:=by simp[loL]
   have p4:=HQQ.out.1.np;have p8:=HQQ.out.1.nl
   have H1:=aKj q _ w0 w5 b (k+12*j) g HY.out b5 hb0 N5 (by show k+12*j+(paL q).length+(loL q).length<=_;omega) HQQ.out.1.pn HQQ.out.1.ln
   change Calls _ _ _ _ (fun e w'=>e=.returned (.bool (oW g q))/\Dn w5 w' b (k+12*j+(paL q).length+(loL q).length) (enG g q) (oW g q)) at H1
   rw[HQQ.out.2.1]at H1;simp only[agg,List.toArray]at H1;have HE5:=hid N5;obtain⟨q0,q1,q2,q3,q4⟩:=z5.c5;clear z5;go_wp2_with fail;refine H1.mono ?_;rintro e w6 ⟨rfl,hd⟩;have N6:=hd.yes rfl;have hg6:=hd.grown;have b6:=cX b5 hg6 hb0;replace q0:=HE5.out.cell q0 hg6;replace q1:=HE5.out.cell q1 hg6;replace q2:=HE5.out.cell q2 hg6;replace q3:=HE5.out.cell q3 hg6;replace q4:=HE5.out.cell q4 hg6;have H2:=wN (enG g q) q.body ab nb cb w0 w6 b _ HLB.out HNB.out HQQ.out.2.2 b6 N6 HEX.out HSX.out;clear H1 hd hg6 HE5 N5 b5;go_wp2_with fail;refine H2.mono ?_;rintro e w7 ⟨rfl,hb7⟩;have N7:=N6.below hb7;have b7:=b6.trans (hb7.mono b6.size);replace q0:=aC q0 hb7;replace q1:=aC q1 hb7;replace q2:=aC q2 hb7;replace q3:=aC q3 hb7;replace q4:=aC q4 hb7;have H3:=aKd q _ w0 w7 b _ _ HY.out b7 hb0 N7 HQQ.out.1.pn HQQ.out.1.ln;rw[HLS.out]at H3;simp only[agg,List.toArray]at H3
   have HLE:Hid (k+12*j+(paL q).length+(loL q).length<=k+12*(j+1)):=by show _<=_;omega
   clear H2 N6 b6 N7 hb7;generalize qT (enG g q) (cU q.body)=t at *
   by_cases t2:t=2
   .
    have HF:Hid (gH g 0 l=2):=by show _=_;rw[HST.out,if_pos t2]
    subst t2;have B7:=hid b7;clear H3 q0 q1 q2 q3 q4 b7;go_wp2;go_ret;exact⟨gD HF.out.symm,B7.out⟩
   .
    have t2b:(t == 2)=false:=by simpa using t2
    by_cases t4:t=4
    .
     have HF:Hid (gH g 0 l=gH g 4 (l.drop (j+1))):=by show _=_;rw[HST.out,if_neg t2,if_pos t4]
     have t4b:(t == 4)=true:=by simpa using t4
     clear t2 t4;go_wp2_with fail;refine H3.mono ?_;rintro e w8 ⟨rfl,hN8,hg8⟩
     have HX:Hid (gH g 0 l=gH g 4 (l.drop (j+1))/\NT w8 b (k+12*(j+1)) g/\Below w0.heap.size w0 w8):=⟨HF.out,hN8.mono HLE.out,cX b7 hg8 hb0⟩
     clear H3 q0 q1 q2 q3 q4 b7 hN8 hg8;go_wp2;go_roundw
     case rel=>exact⟨j+1,4,by omega,rfl,by go_num,HX⟩
     case measure=>simp[intOf];omega
    .
     have HF:Hid (gH g 0 l=gH g tv (l.drop (j+1))):=by show _=_;rw[HST.out,if_neg t2,if_neg t4]
     have t4b:(t == 4)=false:=by simpa using t4
     clear t2 t4;go_wp2_with fail;refine H3.mono ?_;rintro e w8 ⟨rfl,hN8,hg8⟩
     have HX:Hid (gH g 0 l=gH g tv (l.drop (j+1))/\NT w8 b (k+12*(j+1)) g/\Below w0.heap.size w0 w8):=⟨HF.out,hN8.mono HLE.out,cX b7 hg8 hb0⟩
     clear H3 q0 q1 q2 q3 q4 b7 hN8 hg8;go_wp2;go_roundw
     case rel=>exact⟨j+1,tv,by omega,rfl,by go_num,HX⟩
     case measure=>simp[intOf];omega
  .
   have:n=j:=by omega
   subst this
   have HF:Hid (gH g 0 l=tv):=by show _=_;rw[hT,<-HN.out,List.drop_length];rfl
   have HB:=hid hb;clear hT hN hb;go_wp2;go_ret;exact⟨gD HF.out.symm,HB.out⟩
end Go.Proofs.YtffphdacgblaoaaGreatDoor

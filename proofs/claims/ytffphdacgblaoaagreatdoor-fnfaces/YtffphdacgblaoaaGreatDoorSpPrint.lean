import Derived.Test.YtffphdacgblaoaaGreatDoorSpBlk
import Derived.ArgAppend
import Derived.Lib.SlBytesConst
namespace Go.Proofs.YtffphdacgblaoaaGreatDoor
open Go.RowKit
set_option linter.unusedVariables false
set_option linter.unusedSimpArgs false
set_option maxRecDepth 100000
theorem Q41{p:Prop}(h:p:=by simp[show sI ⟨#[32,64]⟩=[32,64] from rfl]):p:=h
theorem Q51{p:Prop}(h:p:=by simp[show sI ⟨#[32,41,32,59,10]⟩=[32,41,32,59,10] from rfl]):p:=h
theorem U16{p:Prop}(h:p:=by
 go_wp2
 go_roundw
 case rel=>exact⟨k+1,by omega,by go_num,HG'⟩
 case measure=>simp[intOf];omega):p:=h
theorem U37{p:Prop}(h:p:=by
 go_wp2
 go_roundw
 case rel=>exact⟨1,by omega,rfl,HG'⟩
 case measure=>simp[intOf];omega):p:=h
theorem U44{p:Prop}(h:p:=by
 show Sg _ _ _ _ _ _ _ _
 rw[HJ.out,if_neg hk0]
 simpa [saP,aO,zD0] using this):p:=h
theorem U47{p:Prop}(h:p:=by
 show Sg _ _ _ _ _ _ _ _
 rw[HJ.out]
 simpa [saP,aO,zD0] using this):p:=h
theorem U88{p:Prop}(h:p:=by
 show Sg _ _ _ _ _ _ _ _
 rw[HNX.out,HPS'.out]
 rw[HTQ.out,HTP.out]at this
 simpa [zD0] using this):p:=h
theorem M921{p q:Prop}(k:q)(h:Kx q->p:=by
 intro kQ
 refine ta 0 ?_
 refine ta 3 ?_
 refine ta 4 ?_
 try simp only[nrm]
 refine ta 5 ?_
 refine ta 6 ?_
 refine ta 7 ?_
 try simp only[nrm]
 refine ta 8 ?_
 try simp only[nrm]
 exact kQ.o):p:=h ⟨k⟩
theorem M945{p q:Prop}(k:q)(h:Kx q->p:=by
 intro kQ
 have t0:w.cell? ⟨b',o'+k*1,none⟩=some (.slice ax y.length cx):=Ab 0 _ rfl
 have hsx:aL [.b y]<=1048576:=zF2 (aX (zA3 hyj)) s3
 have hnx:y.length<=1048576:=by simp[aL,Fl.len]at hsx;omega
 have hnp:0<y.length:=dV (HLOK.out y (zA3 hy))
 have HNX2:Hid ((x.locals.take (k+1)).flatMap aT=(x.locals.take k).flatMap aT++aT y):=dL hy
 have hf2:=fQ aT x.locals k
 clear hsx
 obtain⟨nx,hnx'⟩:∃z,z=y.length:=⟨_,rfl⟩
 rw[<-hnx']at t0 hnp hbx
 have hnx2:nx<=1048576:=Q0
 clear hnx'
 simp only[Nat.mul_one]at t0
 have hkn:(k:Int)<(v3:Int):=Q0
 revert hkn;revert t0;revert hnx2;revert hbx;revert hnp;revert nx;revert hf2;revert HNX2;revert hnx
 exact kQ.o):p:=h ⟨k⟩
theorem M960{p q:Prop}(k:q)(h:Kx q->p:=by
 intro kQ
 refine ta 4 ?_
 refine ta 5 ?_
 refine ta 6 ?_
 try simp only[nrm]
 exact kQ.o):p:=h ⟨k⟩
theorem Sg.cellR {w0 ws w:World}{n0 base g:Nat}{T:TypeId}{vs:List Value}{B:World->Prop}{L:List Int}{v:Value}(h:Sg w0 ws n0 base (fun x=>B x/\Blk x g T vs) w L v){i:Nat}{u:Value}(hu:vs[i]?=some u):w.cell? ⟨g,i,none⟩=some u:=Blk.cell (show Blk w g T vs from h.b.2) hu
theorem aCp (w:World):eG (w.alloc (.cells #[.int .u8 77,.int .u8 79,.int .u8 68,.int .u8 85,.int .u8 76,.int .u8 69,.int .u8 32] 5 (7,8))) (some ⟨w.heap.size,0,none⟩) 7 [77,79,68,85,76,69,32]:=by
 refine⟨rfl,by decide,fun _=>⟨w.heap.size,0,rfl,fun i hi=>?_⟩⟩
 rw[zJ2,World.cell?_alloc_mark]
 have:i=0\/i=1\/i=2\/i=3\/i=4\/i=5\/i=6:=Q0
 rcases this with rfl|rfl|rfl|rfl|rfl|rfl|rfl <;> rfl
def saP (a:Pa):List Int:=(if a.arr then [32,64] else [])++[32]++a.name
theorem aQ3 (a:Pa):Sw (qM a) (saP a):=by
 obtain⟨n,r⟩:=a
 cases r <;> simp[Sw,qM,saP]
theorem aOf (l:List Pa):Sw (aO [44,32] (l.map qM)) (aO [32,44] (l.map saP)):=by
 refine xL _ _ Q9 (fun i t s ht hs=>?_)
 rw[zA2]at ht hs
 cases hx:l[i]? with
 | none=>rw[hx]at ht;cases ht
 | some x=>
  rw[hx]at ht hs;simp only[Option.map_some,zG2]at ht hs;subst ht hs;exact aQ3 x
theorem zA (q:Pr):cJ q=[80,82,79,67,32]++q.name++(if q.opn then [32,42] else [])++[32,40]++aO [32,44] (q.params.map saP)++[32,41,32,59,10]++q.locals.flatMap aT++[66,69,71,73,78,10]++prB q.body++[69,78,68,32,59,10]:=by
 have h:=aOf q.params;unfold Sw at h;unfold cJ;generalize aO [44,32] (q.params.map qM)=jt at *;generalize aO [32,44] (q.params.map saP)=js at *
 cases q.opn
 .
  have e:[80,82,79,67,32]++(q.name++[32])++(if false then [42,32] else [])++([40,32]++jt++[41,32])++[59,10]++q.locals.flatMap aT++[66,69,71,73,78,10]++prB q.body++([69,78,68,32]++[59,10])=[80,82,79,67,32]++q.name++[32,40]++(32 :: jt)++[41,32,59,10]++q.locals.flatMap aT++[66,69,71,73,78,10]++prB q.body++[69,78,68,32,59,10]:=by simp
  rw[show(if (false:Bool)=true then ([42,32]:List Int) else [])=if false then [42,32] else [] from rfl,e,h]
  simp
 .
  have e:[80,82,79,67,32]++(q.name++[32])++(if true then [42,32] else [])++([40,32]++jt++[41,32])++[59,10]++q.locals.flatMap aT++[66,69,71,73,78,10]++prB q.body++([69,78,68,32]++[59,10])=[80,82,79,67,32]++q.name++[32,42]++[32,40]++(32 :: jt)++[41,32,59,10]++q.locals.flatMap aT++[66,69,71,73,78,10]++prB q.body++[69,78,68,32,59,10]:=by simp
  rw[show(if (true:Bool)=true then ([42,32]:List Int) else [])=if true then [42,32] else [] from rfl,e,h]
  simp
set_option maxHeartbeats 32000000 in
theorem aIh (m:Mo)(hf:cH m=true)(w:World)(vs:List Value)(h:cC w m.fl vs)(hs:aL m.fl<=1048576):
  Calls Tryz.prog 20 #[agg vs] w fun e w'=>∃v,e=.returned v/\Own w' w.heap.size v (prM m).length (prM m)/\w.grownBy w' none:=by
 obtain⟨hnm,huok,hvok,hpok⟩:=eQ hf
 have hbig0:=zF m hs hvok (fun x hx=>(hpok x hx).2)
 have HF:Hid (prM m=[77,79,68,85,76,69,32]++m.name++[32,59,10]++m.uses.flatMap fW++m.vars.flatMap dN++m.procs.flatMap cJ++[69,78,68,32,46,10]):=by show _=_;simp[prM,zD0]
 rw[HF.out]at hbig0;simp only[zA1,zB1,zC3]at hbig0
 have e9:aL m.fl=m.name.length+((dC m.uses).length+aH (dC m.uses))+((m.vars.map Va.fl).length+aH (m.vars.map Va.fl))+((m.procs.map Pr.fl).length+aH (m.procs.map Pr.fl)):=by simp[Mo.fl,aL,Fl.len] <;> omega
 rw[e9]at hs;have hs0:m.name.length<=1048576:=Q0
 have hs1:aH (dC m.uses)<=1048576:=Q0
 have hs2:aH (m.vars.map Va.fl)<=1048576:=Q0
 have hs3:aH (m.procs.map Pr.fl)<=1048576:=Q0
 clear hs e9;obtain⟨y0,_,rfl,⟨a0,c0,rfl,h0,hc0,_⟩,y1,_,rfl,h1',y2,_,rfl,h2',y3,_,rfl,h3',rfl⟩:=h;obtain⟨a1,c1,rfl,h1⟩:=h1'.list;obtain⟨a2,c2,rfl,h2⟩:=h2'.list;obtain⟨a3,c3,rfl,h3⟩:=h3'.list;clear h1' h2' h3';refine M949 ?_;intro k1 k2 k3
 have z1:m.uses.length<=9223372036854775807:=by have h5:=h1.cap;have h6:=h1.most;unfold maxLen at h6;omega
 have z2:m.vars.length<=9223372036854775807:=by have h5:=h2.cap;have h6:=h2.most;unfold maxLen at h6;omega
 have z3:m.procs.length<=9223372036854775807:=by have h5:=h3.cap;have h6:=h3.most;unfold maxLen at h6;omega
 rw[k1,k2,k3];simp only[agg]
 obtain⟨n0,hn0⟩:∃z,z=m.name.length:=⟨_,rfl⟩
 obtain⟨n1,hn1⟩:∃z,z=m.uses.length:=⟨_,rfl⟩
 obtain⟨n2,hn2⟩:∃z,z=m.vars.length:=⟨_,rfl⟩
 obtain⟨n3,hn3⟩:∃z,z=m.procs.length:=⟨_,rfl⟩
 rw[<-hn0]at h0 hc0;rw[<-hn0,<-hn1,<-hn2,<-hn3];rw[<-hn1]at k1 z1;rw[<-hn2]at k2 z2;rw[<-hn3]at k3 z3
 have hnp:0<n0:=by rw[hn0];exact dV hnm
 have E1:Hid (m.uses.length=n1):=hn1.symm
 have E2:Hid (m.vars.length=n2):=hn2.symm
 have E3:Hid (m.procs.length=n3):=hn3.symm
 have hn0':n0<=1048576:=Q0;clear hn0 hn1 hn2 hn3
 have H1:Hid (bQ w a1 c1 1 (dC m.uses)):=h1
 have H2:Hid (bQ w a2 c2 2 (m.vars.map Va.fl)):=h2
 have H3:Hid (bQ w a3 c3 5 (m.procs.map Pr.fl)):=h3
 have HUOK:Hid (∀x ∈ m.uses,jJ x=true):=huok
 have HVOK:Hid (∀x ∈ m.vars,mD x=true):=hvok
 have HPRK:Hid (∀x ∈ m.procs,kH x=true/\gJ x.body=true):=hpok
 clear h1 h2 h3 huok hvok hpok
 obtain⟨base,hbase⟩:∃z,z=w.heap.size:=⟨_,rfl⟩
 rw[<-hbase];have x0:=Blk.new w 27 [.slice a0 n0 c0,.slice a1 n1 c1,.slice a2 n2 c2,.slice a3 n3 c3];have hba:=(zD2 w.heap.size w).alloc (zB0 _) (.cells #[.slice a0 n0 c0,.slice a1 n1 c1,.slice a2 n2 c2,.slice a3 n3 c3] 27 (0,0))
 have hwa:Wr 0 base w (w.alloc (.cells #[.slice a0 n0 c0,.slice a1 n1 c1,.slice a2 n2 c2,.slice a3 n3 c3] 27 (0,0))):=Wr.of (aB w _ none)
 have hba2:base<=(w.alloc (.cells #[.slice a0 n0 c0,.slice a1 n1 c1,.slice a2 n2 c2,.slice a3 n3 c3] 27 (0,0))).heap.size:=by rw[hbase];simp
 have hb0:w.heap.size<=base:=Q0;have q0:=x0.k 0;go_enter Tryz.func20,Tryz.ntmps20;go_upto_region 1 with fail
 obtain⟨gx,Al⟩:∃z,z=w.heap.size:=⟨_,rfl⟩
 rw[<-Al]at x0 q0 ⊢;clear Al hbase;generalize w.alloc (.cells #[.slice a0 n0 c0,.slice a1 n1 c1,.slice a2 n2 c2,.slice a3 n3 c3] 27 (0,0))=w1 at *;have kc:=Lib.run_convert_bytes_const (P:=Tryz.prog) w1 22 5 #[.int .u8 77,.int .u8 79,.int .u8 68,.int .u8 85,.int .u8 76,.int .u8 69,.int .u8 32] 7 7 Tryz.underlying22 Tryz.underlying5;have hga:=aB w1 (.cells #[.int .u8 77,.int .u8 79,.int .u8 68,.int .u8 85,.int .u8 76,.int .u8 69,.int .u8 32] 5 (7,8)) none;have hrc:=aCp w1;have x1:=x0.below (aA hga) x0.lt;have q1:=x1.k 0;have hbb:=hba.trans ((aA hga).mono hba.size)
 have hr0:eG _ a0 n0 m.name:=h0.below hbb
 have hr9:=hr0.2.1;have hnl0:m.name.length=n0:=hr0.1;obtain⟨an0,rfl,hcn⟩:=hr0.pos Q29;obtain⟨ao,hao,hco⟩:=hrc.pos Q9;cases hao;obtain⟨i0,hi,hz0,hz1,hz2⟩:=info_parts aCv;clear q0 hrc;simp only[List.size_toArray,zB1,zC3,Nat.reduceAdd]at kc
 go_wp2_with (at_builtin;refine wpList_append_grows _ rfl _ _ 22 rfl 5 i0 (.int .u8 0) 1 1 Tryz.underlying22 hi hz0 hz1 hz2 rfl Q5 (some ⟨w1.heap.size,0,none⟩) 7 7 (([77,79,68,85,76,69,32]:List Int).map (Value.int .u8)) rfl Q9 rfl (fun b hb=>by cases hb;exact hco) an0 n0 c0 (m.name.map (Value.int .u8)) rfl (by simp[hnl0]) hcn (ints_oneCell _ _) Q0 Q17 Q0 ?_)
 intro v2 w2 ho2 hg2
 have G2:Sg w w 0 base (fun x=>Blk x gx 27 [.slice (some an0) n0 c0,.slice a1 n1 c1,.slice a2 n2 c2,.slice a3 n3 c3]) w2 ([77,79,68,85,76,69,32]++m.name) v2:=by
  have hg3:=aD hga hg2
  have hl:([77,79,68,85,76,69,32]++m.name).length=7+n0:=by rw[zA1,hnl0];rfl
  refine⟨Own.mono (base:=(w1.alloc (.cells #[.int .u8 77,.int .u8 79,.int .u8 68,.int .u8 85,.int .u8 76,.int .u8 69,.int .u8 32] 5 (7,8))).heap.size) ⟨by rw[hl];simpa using ho2, ?_⟩ (zF2 hba2 hga.size),x0.below (aA hg3) x0.lt,dB Q5,hwa.trans (Wr.of hg3),zD1 _,hba.trans ((aA hg3).mono hba.size),zF2 hba2 hg3.size,hb0⟩
  intro x hx
  rcases List.mem_append.1 hx with h|h
  .
   exact(by decide:∀y ∈ ([77,79,68,85,76,69,32]:List Int),0<=y/\y<=255) x h
  .
   exact hr9 x h
 clear hba hwa x0 x1 q1 hbb hr0 hcn hco ho2 hg2 hga kc
 go_wp2_with (at_builtin;refine Sg.str_list G2 rfl _ _ rfl rfl ⟨#[32,59,10]⟩ rfl Q12 ?_)
 intro v3 w3 G3 _
 obtain⟨PM,hPM⟩:∃t,t=[77,79,68,85,76,69,32]++m.name++[32,59,10]:=⟨_,rfl⟩
 have HPM:Hid (PM=[77,79,68,85,76,69,32]++m.name++[32,59,10]):=hPM
 replace G3:Sg w w 0 base (fun x=>Blk x gx 27 [.slice (some an0) n0 c0,.slice a1 n1 c1,.slice a2 n2 c2,.slice a3 n3 c3]) w3 PM v3:=by rw[hPM];simpa [show sI ⟨#[32,59,10]⟩=[32,59,10] from rfl] using G3
 have hbig:PM.length+(m.uses.flatMap fW).length+(m.vars.flatMap dN).length+(m.procs.flatMap cJ).length+6<=500000000:=by rw[hPM];simp only[zA1,zB1,zC3];omega
 clear hPM hbig0 G2
 have HG:Hid (Sg w w 0 base (fun x=>Blk x gx 27 [.slice (some an0) n0 c0,.slice a1 n1 c1,.slice a2 n2 c2,.slice a3 n3 c3]) w3 (PM++(m.uses.take 0).flatMap fW) v3):=by
  show Sg _ _ _ _ _ _ _ _
  simpa using G3
 clear G3;go_wp2_with fail
 go_loopw [3,4] (fun b i wr=>∃j:Nat,j<=n1/\i=.int .i64 j/\Hid (Sg w w 0 base (fun x=>Blk x gx 27 [.slice (some an0) n0 c0,.slice a1 n1 c1,.slice a2 n2 c2,.slice a3 n3 c3]) wr (PM++(m.uses.take j).flatMap fW) b)) (fun _ i _=>n1-(intOf i).toNat)
 case atStart=>exact⟨0,zD1 _,rfl,HG⟩
 case round=>
  obtain⟨j,hj,rfl,hGr⟩:=hrel;have Gr:=hGr.out;clear HG hGr;have q1:=Gr.k 1
  by_cases Aj:j<n1
  .
   obtain⟨b,o,rfl⟩:=bQ.addr H1.out (by rw[k1];omega)
   obtain⟨x,hx⟩:∃x,m.uses[j]?=some x:=⟨m.uses[j]'(by rw[E1.out];exact Aj),zA0 _⟩
   have Bc:(dC m.uses)[j]?=some [.b x]:=by unfold dC;rw[zA2,hx];rfl
   obtain⟨us,Ai,Ab⟩:=(bQ.el H1.out Bc).vals;obtain⟨y0,_,rfl,⟨ax,cx,rfl,hbx,_⟩,rfl⟩:=Ai
   have t0:w.cell? ⟨b,o+j*1,none⟩=some (.slice ax x.length cx):=Ab 0 _ rfl
   have hsx:aL [.b x]<=1048576:=zF2 (aX (zA3 Bc)) hs1
   have hnx:x.length<=1048576:=by simp[aL,Fl.len]at hsx;omega
   have hnp:0<x.length:=dV (HUOK.out x (zA3 hx))
   have HNX:Hid ((m.uses.take (j+1)).flatMap fW=(m.uses.take j).flatMap fW++fW x):=dL hx
   have hft:=fQ fW m.uses j;clear Ab hx Bc hsx
   obtain⟨nx,hnx'⟩:∃z,z=x.length:=⟨_,rfl⟩
   rw[<-hnx']at t0 hnp hbx;have hnx2:nx<=1048576:=Q0;clear hnx';simp only[Nat.mul_one]at t0;have hjn:(j:Int)<(n1:Int):=Q0;go_upto_region 5 with fail;clear q1;have G73:=Gr.drew
   refine zK1 (S:=fun wx=>wx.cell? ⟨gx,1,none⟩=some (.slice (some ⟨b,o,none⟩) n1 c1)/\wx.cell? ⟨b,o+j,none⟩=some (.slice ax nx cx)) Q1 ⟨G73.k 1,aC t0 G73.bel⟩ (fun Aa=>?_)
   generalize wr.drew=w73 at *;clear Gr;refine M927 ?_;refine M960 ?_
   refine ra 1 fun K hK=>?_
   rw[if_pos Q1]
   refine G73.str_wp _ _ rfl rfl ⟨#[73,77,80,79,82,84,32]⟩ rfl (by show _+7<=_;(try simp only[ll]);omega) ?_
   intro v75 w75 G75 gr75
   replace G75:Sg w w 0 base _ w75 (PM++(m.uses.take j).flatMap fW++[73,77,80,79,82,84,32]) v75:=G75
   refine hK.out _ _ ⟨G75.k 1,aC t0 G75.bel⟩ (fun Aa=>?_)
   clear hK K G73;try simp only[nrm]
   refine ra 7 fun K hK=>?_
   rw[if_pos Q1];refine G75.row_wp _ _ rfl rfl ax nx cx x rfl (G75.row hbx) hnp Q7 ?_;intro v77 w77 G77 gr77
   refine hK.out _ _ ⟨G77.k 1,aC t0 G77.bel⟩ (fun Aa=>?_)
   clear hK K G75;try simp only[nrm]
   refine ra 8 fun K hK=>?_
   rw[if_pos Q1];refine G77.str_wp _ _ rfl rfl ⟨#[32,59,10]⟩ rfl Q12 ?_;intro v79 w79 G79 gr79
   replace G79:Sg w w 0 base _ w79 (PM++(m.uses.take j).flatMap fW++[73,77,80,79,82,84,32]++x++[32,59,10]) v79:=G79
   refine hK.out _ _ ⟨G79.k 1,aC t0 G79.bel⟩ (fun Aa=>?_)
   clear hK K G77;try simp only[nrm]
   refine ta 9 ?_;try simp only[nrm]
   refine zK2 Q1 ?_ _
   have HG':Hid (Sg w w 0 base (fun x=>Blk x gx 27 [.slice (some an0) n0 c0,.slice (some ⟨b,o,none⟩) n1 c1,.slice a2 n2 c2,.slice a3 n3 c3]) w79 (PM++(m.uses.take (j+1)).flatMap fW) v79):=by
    have:=G79
    show Sg _ _ _ _ _ _ _ _
    rw[HNX.out,fW]
    simpa [zD0] using this
   clear G79;exact U8
  .
   have:n1=j:=Q0
   subst this
   rw[zD3 (by rw[E1.out];exact zB0 _)]at Gr
   obtain⟨T1,hT1⟩:∃t,t=PM++m.uses.flatMap fW:=⟨_,rfl⟩
   have HT1:Hid (T1=PM++m.uses.flatMap fW):=hT1
   rw[<-hT1]at Gr
   have hbig1:T1.length+(m.vars.flatMap dN).length+(m.procs.flatMap cJ).length+6<=500000000:=by rw[hT1,zA1];omega
   clear hT1 q1
   have HG:Hid (Sg w w 0 base (fun x=>Blk x gx 27 [.slice (some an0) n0 c0,.slice a1 n1 c1,.slice a2 n2 c2,.slice a3 n3 c3]) wr (T1++(m.vars.take 0).flatMap dN) u3):=by
    show Sg _ _ _ _ _ _ _ _
    simpa using Gr
   have q1:=Gr.k 1;clear Gr;go_wp2_with fail;clear q1
   go_loopw [3,5] (fun b i wr=>∃j:Nat,j<=n2/\i=.int .i64 j/\Hid (Sg w w 0 base (fun x=>Blk x gx 27 [.slice (some an0) n0 c0,.slice a1 n1 c1,.slice a2 n2 c2,.slice a3 n3 c3]) wr (T1++(m.vars.take j).flatMap dN) b)) (fun _ i _=>n2-(intOf i).toNat)
   case atStart=>exact⟨0,zD1 _,rfl,HG⟩
   case round=>
    obtain⟨j,hj,rfl,hGr⟩:=hrel;have Gr:=hGr.out;clear HG hGr;have q2:=Gr.k 2
    by_cases Aj:j<n2
    .
     obtain⟨b,o,rfl⟩:=bQ.addr H2.out (by rw[k2];omega)
     obtain⟨x,hx⟩:∃x,m.vars[j]?=some x:=⟨m.vars[j]'(by rw[E2.out];exact Aj),zA0 _⟩
     have Bc:(m.vars.map Va.fl)[j]?=some x.fl:=by rw[zA2,hx];rfl
     obtain⟨us,Ai,Ab⟩:=(bQ.el H2.out Bc).vals;obtain⟨y0,_,rfl,⟨ax,cx,rfl,hbx,_⟩,y1,_,rfl,rfl,rfl⟩:=Ai
     have t0:w.cell? ⟨b,o+j*2,none⟩=some (.slice ax x.name.length cx):=Ab 0 _ rfl
     have t1:w.cell? ⟨b,o+j*2+1,none⟩=some (.int .i64 x.size):=Ab 1 _ rfl
     have hsx:aL x.fl<=1048576:=zF2 (aX (zA3 Bc)) hs2
     have hnx:x.name.length<=1048576:=by simp[Va.fl,aL,Fl.len]at hsx;omega
     have hvo:=HVOK.out x (zA3 hx);simp only[mD,zC0]at hvo;have hnp:0<x.name.length:=dV hvo.1
     have Am:0<=x.size/\x.size<=20:=by have:=hvo.2;simp[inB]at this;exact this
     have HNX:Hid ((m.vars.take (j+1)).flatMap dN=(m.vars.take j).flatMap dN++dN x):=dL hx
     have hft:=fQ dN m.vars j;clear Ab hx Bc hsx hvo;obtain⟨nm,sz⟩:=x
     simp only at *
     obtain⟨nx,hnx'⟩:∃z,z=nm.length:=⟨_,rfl⟩
     rw[<-hnx']at t0 hnp hbx;have hnx2:nx<=1048576:=Q0;clear hnx';have hjn:(j:Int)<(n2:Int):=Q0;go_upto_region 9 with fail;clear q2;have G80:=Gr.drew
     refine zK1 (S:=fun wx=>wx.cell? ⟨gx,2,none⟩=some (.slice (some ⟨b,o,none⟩) n2 c2)/\wx.cell? ⟨b,o+j*2,none⟩=some (.slice ax nx cx)/\wx.cell? ⟨b,o+j*2+1,none⟩=some (.int .i64 sz)) Q1 ⟨G80.k 2,aC t0 G80.bel,aC t1 G80.bel⟩ (fun Aa=>?_)
     generalize wr.drew=w80 at *;clear Gr;refine M927 ?_;refine M960 ?_;refine ta 7 ?_;try simp only[nrm]
     refine ra 1 fun K hK=>?_
     rw[if_pos Q1];refine G80.str_wp _ _ rfl rfl ⟨#[86,65,82,32]⟩ rfl Q38 ?_;intro v82 w82 G82 gr82
     replace G82:Sg w w 0 base _ w82 (T1++(m.vars.take j).flatMap dN++[86,65,82,32]) v82:=G82
     refine hK.out _ _ ⟨G82.k 2,aC t0 G82.bel,aC t1 G82.bel⟩ (fun Aa=>?_)
     clear hK K G80;try simp only[nrm]
     refine ra 8 fun K hK=>?_
     rw[if_pos Q1];refine G82.row_wp _ _ rfl rfl ax nx cx nm rfl (G82.row hbx) hnp Q7 ?_;intro v84 w84 G84 gr84
     refine hK.out _ _ ⟨G84.k 2,aC t0 G84.bel,aC t1 G84.bel⟩ (fun Aa=>?_)
     clear hK K G82;try simp only[nrm]
     refine ta 9 ?_;try simp only[nrm]
     refine zK2 Q1 ?_ _;have q2:=G84.k 2;have r1:=aC t1 G84.bel
     by_cases hz:0<sz
     .
      go_upto_region 11 with fail;clear q2 r1;have G85:=G84.drew
      refine zK1 (S:=fun wx=>wx.cell? ⟨gx,2,none⟩=some (.slice (some ⟨b,o,none⟩) n2 c2)/\wx.cell? ⟨b,o+j*2,none⟩=some (.slice ax nx cx)/\wx.cell? ⟨b,o+j*2+1,none⟩=some (.int .i64 sz)) Q1 ⟨G85.k 2,aC t0 G85.bel,aC t1 G85.bel⟩ (fun Aa=>?_)
      generalize w84.drew=w85 at *;clear G84;refine M927 ?_;refine M960 ?_;refine ta 7 ?_;try simp only[nrm]
      refine ra 1 fun K hK=>?_
      rw[if_pos Q1];refine G85.str_wp _ _ rfl rfl ⟨#[32,91,32]⟩ rfl Q12 ?_;intro v87 w87 G87 gr87
      replace G87:Sg w w 0 base _ w87 (T1++(m.vars.take j).flatMap dN++[86,65,82,32]++nm++[32,91,32]) v87:=G87
      refine hK.out _ _ ⟨G87.k 2,aC t0 G87.bel,aC t1 G87.bel⟩ (fun Aa=>?_)
      clear hK K G85;try simp only[nrm]
      refine ra 8 fun K hK=>?_
      go_simp
      (with_reducible refine(aRs sz Q0 Q0 w87).mono ?_)
      rintro e w89 ⟨vd,rfl,hod,hgd⟩
      obtain⟨nd,hnd⟩:∃z,z=(gL sz).length:=⟨_,rfl⟩
      rw[<-hnd]at hod
      have hnd1:nd<=21:=by rw[hnd];exact jW Q0 Q0
      have hnd0:0<nd:=by rw[hnd];exact xE _
      have HND:Hid ((gL sz).length=nd):=hnd.symm
      clear hnd;obtain⟨ad,cd,rfl,hM⟩:=hod.made (aA hgd);have G89:=G87.grown hgd;have Rd:=hM.row;clear hM hod hgd;go_wp2_with fail
      refine hK.out _ _ ⟨G89.k 2,aC t0 G89.bel,aC t1 G89.bel⟩ (fun Aa=>?_)
      clear hK K G87;try simp only[nrm]
      have hndl:(gL sz).length<=21:=jW Q0 Q0
      refine ra 9 fun K hK=>?_
      rw[if_pos Q1];refine G89.row_wp _ _ rfl rfl ad nd cd (gL sz) rfl Rd hnd0 Q7 ?_;intro v91 w91 G91 gr91
      refine hK.out _ _ ⟨G91.k 2,aC t0 G91.bel,aC t1 G91.bel⟩ (fun Aa=>?_)
      clear hK K G89;try simp only[nrm]
      refine ra 10 fun K hK=>?_
      rw[if_pos Q1];refine G91.str_wp _ _ rfl rfl ⟨#[32,93]⟩ rfl Q10 ?_;intro v93 w93 G93 gr93
      replace G93:Sg w w 0 base _ w93 (T1++(m.vars.take j).flatMap dN++[86,65,82,32]++nm++[32,91,32]++(gL sz)++[32,93]) v93:=G93
      refine hK.out _ _ ⟨G93.k 2,aC t0 G93.bel,aC t1 G93.bel⟩ (fun Aa=>?_)
      clear hK K G91;try simp only[nrm]
      refine ta 11 ?_;try simp only[nrm]
      refine zK2 Q1 ?_ _
      go_wp2_with (at_builtin;refine Sg.str_list G93 rfl _ _ rfl rfl ⟨#[32,59,10]⟩ rfl Q12 ?_)
      intro v_94 w94 G94 _;replace G94:=G94.cast (M:=T1++(m.vars.take j).flatMap dN++[86,65,82,32]++nm++[32,91,32]++(gL sz)++[32,93]++[32,59,10]) Q15;clear G93
      have HG':Hid (Sg w w 0 base (fun x=>Blk x gx 27 [.slice (some an0) n0 c0,.slice a1 n1 c1,.slice (some ⟨b,o,none⟩) n2 c2,.slice a3 n3 c3]) w94 (T1++(m.vars.take (j+1)).flatMap dN) v_94):=by
       have:=G94
       show Sg _ _ _ _ _ _ _ _
       rw[HNX.out,dN,if_pos (show 0<(Va.mk nm sz).size by show 0<sz;omega)]
       simpa [zD0] using this
      clear G94;exact U8
     .
      go_wp2_with (at_builtin;refine Sg.str_list G84 rfl _ _ rfl rfl ⟨#[32,59,10]⟩ rfl Q12 ?_)
      intro v_95 w95 G95 _;replace G95:=G95.cast (M:=T1++(m.vars.take j).flatMap dN++[86,65,82,32]++nm++[32,59,10]) Q15;clear G84
      have HG':Hid (Sg w w 0 base (fun x=>Blk x gx 27 [.slice (some an0) n0 c0,.slice a1 n1 c1,.slice (some ⟨b,o,none⟩) n2 c2,.slice a3 n3 c3]) w95 (T1++(m.vars.take (j+1)).flatMap dN) v_95):=by
       have:=G95
       show Sg _ _ _ _ _ _ _ _
       rw[HNX.out,dN,if_neg (show ¬0<(Va.mk nm sz).size by show ¬0<sz;omega)]
       simpa [zD0] using this
      clear G95;exact U8
    .
     have:n2=j:=Q0
     subst this
     rw[zD3 (by rw[E2.out];exact zB0 _)]at Gr
     obtain⟨T2,hT2⟩:∃t,t=T1++m.vars.flatMap dN:=⟨_,rfl⟩
     have HT2:Hid (T2=T1++m.vars.flatMap dN):=hT2
     rw[<-hT2]at Gr
     have hbig2:T2.length+(m.procs.flatMap cJ).length+6<=500000000:=by rw[hT2,zA1];omega
     clear hT2
     have HG:Hid (Sg w w 0 base (fun x=>Blk x gx 27 [.slice (some an0) n0 c0,.slice a1 n1 c1,.slice a2 n2 c2,.slice a3 n3 c3]) wr (T2++(m.procs.take 0).flatMap cJ) u3):=by
      show Sg _ _ _ _ _ _ _ _
      simpa using Gr
     clear Gr;go_wp2_with fail;clear q2
     go_loopw [3,6,7,8,9] (fun b i _ _ _ wr=>∃j:Nat,j<=n3/\i=.int .i64 j/\Hid (Sg w w 0 base (fun x=>Blk x gx 27 [.slice (some an0) n0 c0,.slice a1 n1 c1,.slice a2 n2 c2,.slice a3 n3 c3]) wr (T2++(m.procs.take j).flatMap cJ) b)) (fun _ i _ _ _ _=>n3-(intOf i).toNat)
     case atStart=>exact⟨0,zD1 _,rfl,HG⟩
     case round=>
      obtain⟨j,hj,rfl,hGr⟩:=hrel;have Gr:=hGr.out;clear HG hGr;have q3:=Gr.k 3
      by_cases Aj:j<n3
      .
       obtain⟨b,o,rfl⟩:=bQ.addr H3.out (by rw[k3];omega)
       obtain⟨x,hx⟩:∃x,m.procs[j]?=some x:=⟨m.procs[j]'(by rw[E3.out];exact Aj),zA0 _⟩
       have Bc:(m.procs.map Pr.fl)[j]?=some x.fl:=by rw[zA2,hx];rfl
       obtain⟨us,Ai,Ab⟩:=(bQ.el H3.out Bc).vals
       have hsx:aL x.fl<=1048576:=zF2 (aX (zA3 Bc)) hs3
       have es9:aL x.fl=x.name.length+((x.params.map Pa.fl).length+aH (x.params.map Pa.fl))+((dC x.locals).length+aH (dC x.locals))+((sts x.body).length+aH (sts x.body)):=by simp[Pr.fl,aL,Fl.len] <;> omega
       rw[es9]at hsx;have s0:x.name.length<=1048576:=Q0
       have s2:aH (x.params.map Pa.fl)<=1048576:=Q0
       have s3:aH (dC x.locals)<=1048576:=Q0
       have s4:aH (sts x.body)<=1048576:=Q0
       clear hsx es9
       replace Ab:∀i v,_->_:=fun i v hv=>aC (Ab i v hv) Gr.bel
       have hpo:=HPRK.out x (zA3 hx);have hpo1:=hpo.1;simp only[kH,zC0,zF3]at hpo1;have hnp:0<x.name.length:=dV hpo1.1.1.1.1
       have HPOK:Hid (∀y ∈ x.params,aDl y=true):=hpo1.1.1.2
       have HLOK:Hid (∀y ∈ x.locals,jU y=true):=hpo1.2
       have HBOK:Hid (gJ x.body=true):=hpo.2
       have HNX:Hid ((m.procs.take (j+1)).flatMap cJ=(m.procs.take j).flatMap cJ++cJ x):=dL hx
       have hft:=fQ cJ m.procs (j+1);rw[HNX.out,zA1]at hft
       have hpl:(cJ x).length=5+x.name.length+(if x.opn then 2 else 0)+(aO [32,44] (x.params.map saP)).length+7+(x.locals.flatMap aT).length+6+(prB x.body).length+6:=by rw[zA];cases x.opn <;> simp only[zA1,zB1,zC3,if_true,if_false,Bool.false_eq_true] <;> omega
       unfold Pr.fl at Ai;obtain⟨y0,_,rfl,⟨p0,d0,rfl,g0,_⟩,y1,_,rfl,rfl,y2,_,rfl,g2',y3,_,rfl,g3',y4,_,rfl,g4',rfl⟩:=Ai;obtain⟨p2,d2,rfl,g2⟩:=g2'.list;obtain⟨p3,d3,rfl,g3⟩:=g3'.list;obtain⟨p4,d4,rfl,g4⟩:=g4'.list;clear g2' g3' g4' hpo hpo1
       have j2:(x.params.map Pa.fl).length=x.params.length:=by simp
       have j3:(dC x.locals).length=x.locals.length:=by simp[dC]
       have j4:(sts x.body).length=x.body.length:=by simp[bL]
       have b2:x.params.length<=9223372036854775807:=by have h7:=g2.cap;have h6:=g2.most;unfold maxLen at h6;omega
       have b3:x.locals.length<=9223372036854775807:=by have h7:=g3.cap;have h6:=g3.most;unfold maxLen at h6;omega
       rw[j2,j3,j4]at Ab;have HPS:=zA x
       obtain⟨bo,hbo⟩:∃z,z=x.opn:=⟨_,rfl⟩
       rw[<-hbo]at Ab hpl HPS
       have HPS':Hid (cJ x=[80,82,79,67,32]++x.name++(if bo then [32,42] else [])++[32,40]++aO [32,44] (x.params.map saP)++[32,41,32,59,10]++x.locals.flatMap aT++[66,69,71,73,78,10]++prB x.body++[69,78,68,32,59,10]):=HPS
       clear hbo HPS
       have t0:wr.cell? ⟨b,o+j*5,none⟩=some (.slice p0 x.name.length d0):=Ab 0 _ rfl
       have t1:wr.cell? ⟨b,o+j*5+1,none⟩=some (.bool bo):=Ab 1 _ rfl
       have t2:wr.cell? ⟨b,o+j*5+2,none⟩=some (.slice p2 x.params.length d2):=Ab 2 _ rfl
       have t3:wr.cell? ⟨b,o+j*5+3,none⟩=some (.slice p3 x.locals.length d3):=Ab 3 _ rfl
       have t4:wr.cell? ⟨b,o+j*5+4,none⟩=some (.slice p4 x.body.length d4):=Ab 4 _ rfl
       clear Ab hx Bc
       obtain⟨v0,f0⟩:∃z,z=x.name.length:=⟨_,rfl⟩
       obtain⟨v2,f2⟩:∃z,z=x.params.length:=⟨_,rfl⟩
       obtain⟨v3,f3⟩:∃z,z=x.locals.length:=⟨_,rfl⟩
       obtain⟨v4,f4⟩:∃z,z=x.body.length:=⟨_,rfl⟩
       rw[<-f0]at t0 s0 g0 hnp;rw[<-f2]at t2 j2 b2;rw[<-f3]at t3 j3 b3;rw[<-f4]at t4 j4;have F0:x.name.length<=1048576:=Q0
       have F2:Hid (x.params.length=v2):=f2.symm
       have F3:Hid (x.locals.length=v3):=f3.symm
       have F4:Hid (x.body.length=v4):=f4.symm
       have HP2:Hid (bQ w p2 d2 2 (x.params.map Pa.fl)):=g2
       have HP3:Hid (bQ w p3 d3 1 (dC x.locals)):=g3
       have HP4:Hid (bQ w p4 d4 6 (sts x.body)):=g4
       clear f0 f2 f3 f4 g2 g3 g4;have xp:=Blk.new wr 55 [.slice p0 v0 d0,.bool bo,.slice p2 v2 d2,.slice p3 v3 d3,.slice p4 v4 d4]
       have Gz:=(Gr.alloc (.cells #[.slice p0 v0 d0,.bool bo,.slice p2 v2 d2,.slice p3 v3 d3,.slice p4 v4 d4] 55 (0,0))).more (C:=fun x=>Blk x wr.heap.size 55 [.slice p0 v0 d0,.bool bo,.slice p2 v2 d2,.slice p3 v3 d3,.slice p4 v4 d4]) xp (dB Q5)
       clear xp Gr;have hjn:(j:Int)<(n3:Int):=Q0;go_upto_region 17 with fail;generalize wr.alloc (.cells #[.slice p0 v0 d0,.bool bo,.slice p2 v2 d2,.slice p3 v3 d3,.slice p4 v4 d4] 55 (0,0))=w3 at *;generalize wr.heap.size=gp at *;clear t0 t1 t2 t3 t4 q3;have G96:=Gz.drew
       refine zK1 (S:=fun wx=>wx.cell? ⟨gp,0,none⟩=some (.slice p0 v0 d0)) Q1 (G96.cellR (i:=0) rfl) (fun Aa=>?_)
       generalize w3.drew=w96 at *;clear Gz;refine M927 ?_
       refine ra 1 fun K hK=>?_
       rw[if_pos Q1];refine G96.str_wp _ _ rfl rfl ⟨#[80,82,79,67,32]⟩ rfl Q24 ?_;intro v98 w98 G98 gr98
       replace G98:Sg w w 0 base _ w98 (T2++(m.procs.take j).flatMap cJ++[80,82,79,67,32]) v98:=G98
       refine hK.out _ _ (G98.cellR (i:=0) rfl) (fun Aa=>?_)
       clear hK K G96;try simp only[nrm]
       refine ra 4 fun K hK=>?_
       rw[if_pos Q1];refine G98.row_wp _ _ rfl rfl p0 v0 d0 x.name rfl (G98.row g0) hnp Q7 ?_;intro v100 w100 G100 gr100
       refine hK.out _ _ (G100.cellR (i:=0) rfl) (fun Aa=>?_)
       clear hK K G98;try simp only[nrm]
       refine ta 5 ?_;try simp only[nrm]
       refine zK2 Q1 ?_ _;have r1:=G100.cellR (i:=1) rfl;cases bo
       .
        simp only[if_true,if_false,Bool.false_eq_true]at hpl HPS'
        go_wp2_with (at_builtin;refine Sg.str_list G100 rfl _ _ rfl rfl ⟨#[32,40]⟩ rfl Q10 ?_)
        intro v_101 w101 G101 _
        replace G101:=G101.cast (M:=T2++(m.procs.take j).flatMap cJ++[80,82,79,67,32]++x.name++[32,40]) (by simp[show sI ⟨#[32,40]⟩=[32,40] from rfl])
        clear G100;clear r1
        obtain⟨TP,hTP⟩:∃t,t=T2++(m.procs.take j).flatMap cJ++[80,82,79,67,32]++x.name++[32,40]:=⟨_,rfl⟩
        have HTP:Hid (TP=T2++(m.procs.take j).flatMap cJ++[80,82,79,67,32]++x.name++[32,40]):=hTP
        rw[<-hTP]at G101
        have hTPl:TP.length+(aO [32,44] (x.params.map saP)).length+5+(x.locals.flatMap aT).length+6+(prB x.body).length+6<=500000000:=by rw[hTP];(try simp only[ll]);omega
        clear hTP
        have HG:Hid (Sg w w 0 base (fun x=>Blk x gx 27 [.slice (some an0) n0 c0,.slice a1 n1 c1,.slice a2 n2 c2,.slice (some ⟨b,o,none⟩) n3 c3]/\Blk x gp 55 [.slice p0 v0 d0,.bool false,.slice p2 v2 d2,.slice p3 v3 d3,.slice p4 v4 d4]) w101 (TP++aO [32,44] ((x.params.map saP).take 0)) v_101):=by
         have:=G101
         show Sg _ _ _ _ _ _ _ _
         simpa [aO] using this
        clear G101;go_wp2_with fail
        go_loopw [3,8] (fun bb i wr=>∃k:Nat,k<=v2/\i=.int .i64 k/\Hid (Sg w w 0 base (fun x=>Blk x gx 27 [.slice (some an0) n0 c0,.slice a1 n1 c1,.slice a2 n2 c2,.slice (some ⟨b,o,none⟩) n3 c3]/\Blk x gp 55 [.slice p0 v0 d0,.bool false,.slice p2 v2 d2,.slice p3 v3 d3,.slice p4 v4 d4]) wr (TP++aO [32,44] ((x.params.map saP).take k)) bb)) (fun _ i _=>v2-(intOf i).toNat)
        case atStart=>exact⟨0,zD1 _,rfl,HG⟩
        case round=>
         obtain⟨k,hk,rfl,hGp⟩:=hrel;have Gp:=hGp.out;clear HG hGp;have r2:=Gp.cellR (i:=2) rfl
         by_cases hl2:k<v2
         .
          obtain⟨b',o',rfl⟩:=bQ.addr HP2.out (by rw[j2];omega)
          obtain⟨y,hy⟩:∃y,x.params[k]?=some y:=⟨x.params[k]'(by rw[F2.out];exact hl2),zA0 _⟩
          have hyj:(x.params.map Pa.fl)[k]?=some y.fl:=by rw[zA2,hy];rfl
          obtain⟨us,Ai,Ab⟩:=(bQ.el HP2.out hyj).vals;obtain⟨z0,_,rfl,⟨ax,cx,rfl,hbx,_⟩,z1,_,rfl,rfl,rfl⟩:=Ai
          have t0:w.cell? ⟨b',o'+k*2,none⟩=some (.slice ax y.name.length cx):=Ab 0 _ rfl
          have t1:w.cell? ⟨b',o'+k*2+1,none⟩=some (.bool y.arr):=Ab 1 _ rfl
          have hsx:aL y.fl<=1048576:=zF2 (aX (zA3 hyj)) s2
          have hnx:y.name.length<=1048576:=by simp[Pa.fl,aL,Fl.len]at hsx;omega
          have hnp:0<y.name.length:=dV (HPOK.out y (zA3 hy))
          have hyt:(x.params.map saP)[k]?=some (saP y):=by rw[zA2,hy];rfl
          have HJ:Hid (aO [32,44] ((x.params.map saP).take (k+1))=if k=0 then saP y else aO [32,44] ((x.params.map saP).take k)++[32,44]++saP y):=gO hyt
          have hjl:(aO [32,44] ((x.params.map saP).take k)).length<=(aO [32,44] (x.params.map saP)).length:=iN _ _ _ (by rw[zB2,F2.out];omega)
          clear Ab hy hyj hsx hyt;obtain⟨nm,ar⟩:=y
          simp only at *
          obtain⟨nx,hnx'⟩:∃z,z=nm.length:=⟨_,rfl⟩
          rw[<-hnx']at t0 hnp hbx;have hnx2:nx<=1048576:=Q0;clear hnx';have hkn:(k:Int)<(v2:Int):=Q0
          by_cases hk0:k=0
          .
           subst hk0;simp only[Nat.zero_mul,zG1]at t0 t1;cases ar
           .
            have r2:=Gp.cellR (i:=2) rfl;have r1:=aC t1 Gp.bel;go_upto_region 28 with fail;clear r2 r1;have G102:=Gp.drew
            refine zK1 (S:=fun wx=>wx.cell? ⟨gp,2,none⟩=some (.slice (some ⟨b',o',none⟩) v2 d2)/\wx.cell? ⟨b',o',none⟩=some (.slice ax nx cx)) Q1 ⟨G102.cellR (i:=2) rfl,aC t0 G102.bel⟩ (fun Aa=>?_)
            generalize wr.drew=w102 at *;clear Gp;refine M921 ?_
            refine ra 1 fun K hK=>?_
            go_simp
            have R104:(w102.alloc (.cells #[.int .u8 32] 5)).heap[w102.heap.size]?=some (Obj.cells #[.int .u8 32] 5 (0,0)):=zJ1 w102 _
            have F104:=G102.free;have G104:=G102.alloc (.cells #[.int .u8 32] 5)
            refine hK.out _ _ ⟨G104.cellR (i:=2) rfl,aC t0 G104.bel⟩ (fun Aa=>?_)
            clear hK K G102;try simp only[nrm]
            generalize w102.alloc (.cells #[.int .u8 32] 5)=w104 at *;generalize w102.heap.size=g104 at *
            refine ra 2 fun K hK=>?_
            rw[if_pos Q1];refine G104.row_wp _ _ rfl rfl (some ⟨g104,0,none⟩) 1 1 [32] rfl (eP Q0 Q0 R104) Q0 Q7 ?_;intro v106 w106 G106 gr106
            refine hK.out _ _ ⟨G106.cellR (i:=2) rfl,aC t0 G106.bel⟩ (fun Aa=>?_)
            clear hK K G104;try simp only[nrm]
            refine ra 9 fun K hK=>?_
            rw[if_pos Q1];refine G106.row_wp _ _ rfl rfl ax nx cx nm rfl (G106.row hbx) hnp Q7 ?_;intro v108 w108 G108 gr108
            refine hK.out _ _ ⟨G108.cellR (i:=2) rfl,aC t0 G108.bel⟩ (fun Aa=>?_)
            clear hK K G106;try simp only[nrm]
            refine ta 10 ?_;try simp only[nrm]
            refine zK2 Q1 ?_ _
            have HG':Hid (Sg w w 0 base (fun x=>Blk x gx 27 [.slice (some an0) n0 c0,.slice a1 n1 c1,.slice a2 n2 c2,.slice (some ⟨b,o,none⟩) n3 c3]/\Blk x gp 55 [.slice p0 v0 d0,.bool false,.slice (some ⟨b',o',none⟩) v2 d2,.slice p3 v3 d3,.slice p4 v4 d4]) w108 (TP++aO [32,44] ((x.params.map saP).take (0+1))) v108):=by
             have:=G108
             exact U47
            clear G108;exact U37
           .
            have r2:=Gp.cellR (i:=2) rfl;have r1:=aC t1 Gp.bel
            go_wp2_with (at_builtin;refine Sg.str_list Gp rfl _ _ rfl rfl ⟨#[32,64]⟩ rfl Q10 ?_)
            intro v_109 w109 G109 _;replace G109:=G109.cast (M:=TP++aO [32,44] ((x.params.map saP).take 0)++[32,64]) Q41;clear Gp;go_upto_region 28 with fail;clear r2 r1;have G110:=G109.drew
            refine zK1 (S:=fun wx=>wx.cell? ⟨gp,2,none⟩=some (.slice (some ⟨b',o',none⟩) v2 d2)/\wx.cell? ⟨b',o',none⟩=some (.slice ax nx cx)) Q1 ⟨G110.cellR (i:=2) rfl,aC t0 G110.bel⟩ (fun Aa=>?_)
            generalize w109.drew=w110 at *;clear G109;refine M921 ?_
            refine ra 1 fun K hK=>?_
            go_simp
            have R112:(w110.alloc (.cells #[.int .u8 32] 5)).heap[w110.heap.size]?=some (Obj.cells #[.int .u8 32] 5 (0,0)):=zJ1 w110 _
            have F112:=G110.free;have G112:=G110.alloc (.cells #[.int .u8 32] 5)
            refine hK.out _ _ ⟨G112.cellR (i:=2) rfl,aC t0 G112.bel⟩ (fun Aa=>?_)
            clear hK K G110;try simp only[nrm]
            generalize w110.alloc (.cells #[.int .u8 32] 5)=w112 at *;generalize w110.heap.size=g112 at *
            refine ra 2 fun K hK=>?_
            rw[if_pos Q1];refine G112.row_wp _ _ rfl rfl (some ⟨g112,0,none⟩) 1 1 [32] rfl (eP Q0 Q0 R112) Q0 Q7 ?_;intro v114 w114 G114 gr114
            refine hK.out _ _ ⟨G114.cellR (i:=2) rfl,aC t0 G114.bel⟩ (fun Aa=>?_)
            clear hK K G112;try simp only[nrm]
            refine ra 9 fun K hK=>?_
            rw[if_pos Q1];refine G114.row_wp _ _ rfl rfl ax nx cx nm rfl (G114.row hbx) hnp Q7 ?_;intro v116 w116 G116 gr116
            refine hK.out _ _ ⟨G116.cellR (i:=2) rfl,aC t0 G116.bel⟩ (fun Aa=>?_)
            clear hK K G114;try simp only[nrm]
            refine ta 10 ?_;try simp only[nrm]
            refine zK2 Q1 ?_ _
            have HG':Hid (Sg w w 0 base (fun x=>Blk x gx 27 [.slice (some an0) n0 c0,.slice a1 n1 c1,.slice a2 n2 c2,.slice (some ⟨b,o,none⟩) n3 c3]/\Blk x gp 55 [.slice p0 v0 d0,.bool false,.slice (some ⟨b',o',none⟩) v2 d2,.slice p3 v3 d3,.slice p4 v4 d4]) w116 (TP++aO [32,44] ((x.params.map saP).take (0+1))) v116):=by
             have:=G116
             exact U47
            clear G116;exact U37
          .
           have hkp:(0:Int)<(k:Int):=Q0
           go_wp2_with (at_builtin;refine Sg.str_list Gp rfl _ _ rfl rfl ⟨#[32,44]⟩ rfl Q10 ?_)
           intro v_117 w117 G117 _;replace G117:=G117.cast (M:=TP++aO [32,44] ((x.params.map saP).take k)++[32,44]) Q40;clear Gp;cases ar
           .
            have r2:=G117.cellR (i:=2) rfl;have r1:=aC t1 G117.bel;go_upto_region 28 with fail;clear r2 r1;have G118:=G117.drew
            refine zK1 (S:=fun wx=>wx.cell? ⟨gp,2,none⟩=some (.slice (some ⟨b',o',none⟩) v2 d2)/\wx.cell? ⟨b',o'+k*2,none⟩=some (.slice ax nx cx)) Q1 ⟨G118.cellR (i:=2) rfl,aC t0 G118.bel⟩ (fun Aa=>?_)
            generalize w117.drew=w118 at *;clear G117;refine M921 ?_
            refine ra 1 fun K hK=>?_
            go_simp
            have R120:(w118.alloc (.cells #[.int .u8 32] 5)).heap[w118.heap.size]?=some (Obj.cells #[.int .u8 32] 5 (0,0)):=zJ1 w118 _
            have F120:=G118.free;have G120:=G118.alloc (.cells #[.int .u8 32] 5)
            refine hK.out _ _ ⟨G120.cellR (i:=2) rfl,aC t0 G120.bel⟩ (fun Aa=>?_)
            clear hK K G118;try simp only[nrm]
            generalize w118.alloc (.cells #[.int .u8 32] 5)=w120 at *;generalize w118.heap.size=g120 at *
            refine ra 2 fun K hK=>?_
            rw[if_pos Q1];refine G120.row_wp _ _ rfl rfl (some ⟨g120,0,none⟩) 1 1 [32] rfl (eP Q0 Q0 R120) Q0 Q7 ?_;intro v122 w122 G122 gr122
            refine hK.out _ _ ⟨G122.cellR (i:=2) rfl,aC t0 G122.bel⟩ (fun Aa=>?_)
            clear hK K G120;try simp only[nrm]
            refine ra 9 fun K hK=>?_
            rw[if_pos Q1];refine G122.row_wp _ _ rfl rfl ax nx cx nm rfl (G122.row hbx) hnp Q7 ?_;intro v124 w124 G124 gr124
            refine hK.out _ _ ⟨G124.cellR (i:=2) rfl,aC t0 G124.bel⟩ (fun Aa=>?_)
            clear hK K G122;try simp only[nrm]
            refine ta 10 ?_;try simp only[nrm]
            refine zK2 Q1 ?_ _
            have HG':Hid (Sg w w 0 base (fun x=>Blk x gx 27 [.slice (some an0) n0 c0,.slice a1 n1 c1,.slice a2 n2 c2,.slice (some ⟨b,o,none⟩) n3 c3]/\Blk x gp 55 [.slice p0 v0 d0,.bool false,.slice (some ⟨b',o',none⟩) v2 d2,.slice p3 v3 d3,.slice p4 v4 d4]) w124 (TP++aO [32,44] ((x.params.map saP).take (k+1))) v124):=by
             have:=G124
             exact U44
            clear G124;exact U16
           .
            have r2:=G117.cellR (i:=2) rfl;have r1:=aC t1 G117.bel
            go_wp2_with (at_builtin;refine Sg.str_list G117 rfl _ _ rfl rfl ⟨#[32,64]⟩ rfl Q10 ?_)
            intro v_125 w125 G125 _;replace G125:=G125.cast (M:=TP++aO [32,44] ((x.params.map saP).take k)++[32,44]++[32,64]) Q41;clear G117;go_upto_region 28 with fail;clear r2 r1;have G126:=G125.drew
            refine zK1 (S:=fun wx=>wx.cell? ⟨gp,2,none⟩=some (.slice (some ⟨b',o',none⟩) v2 d2)/\wx.cell? ⟨b',o'+k*2,none⟩=some (.slice ax nx cx)) Q1 ⟨G126.cellR (i:=2) rfl,aC t0 G126.bel⟩ (fun Aa=>?_)
            generalize w125.drew=w126 at *;clear G125;refine M921 ?_
            refine ra 1 fun K hK=>?_
            go_simp
            have R128:(w126.alloc (.cells #[.int .u8 32] 5)).heap[w126.heap.size]?=some (Obj.cells #[.int .u8 32] 5 (0,0)):=zJ1 w126 _
            have F128:=G126.free;have G128:=G126.alloc (.cells #[.int .u8 32] 5)
            refine hK.out _ _ ⟨G128.cellR (i:=2) rfl,aC t0 G128.bel⟩ (fun Aa=>?_)
            clear hK K G126;try simp only[nrm]
            generalize w126.alloc (.cells #[.int .u8 32] 5)=w128 at *;generalize w126.heap.size=g128 at *
            refine ra 2 fun K hK=>?_
            rw[if_pos Q1];refine G128.row_wp _ _ rfl rfl (some ⟨g128,0,none⟩) 1 1 [32] rfl (eP Q0 Q0 R128) Q0 Q7 ?_;intro v130 w130 G130 gr130
            refine hK.out _ _ ⟨G130.cellR (i:=2) rfl,aC t0 G130.bel⟩ (fun Aa=>?_)
            clear hK K G128;try simp only[nrm]
            refine ra 9 fun K hK=>?_
            rw[if_pos Q1];refine G130.row_wp _ _ rfl rfl ax nx cx nm rfl (G130.row hbx) hnp Q7 ?_;intro v132 w132 G132 gr132
            refine hK.out _ _ ⟨G132.cellR (i:=2) rfl,aC t0 G132.bel⟩ (fun Aa=>?_)
            clear hK K G130;try simp only[nrm]
            refine ta 10 ?_;try simp only[nrm]
            refine zK2 Q1 ?_ _
            have HG':Hid (Sg w w 0 base (fun x=>Blk x gx 27 [.slice (some an0) n0 c0,.slice a1 n1 c1,.slice a2 n2 c2,.slice (some ⟨b,o,none⟩) n3 c3]/\Blk x gp 55 [.slice p0 v0 d0,.bool false,.slice (some ⟨b',o',none⟩) v2 d2,.slice p3 v3 d3,.slice p4 v4 d4]) w132 (TP++aO [32,44] ((x.params.map saP).take (k+1))) v132):=by
             have:=G132
             exact U44
            clear G132;exact U16
         .
          have:v2=k:=Q0
          subst this
          rw[zD3 (by rw[zB2,F2.out];exact zB0 _)]at Gp
          go_wp2_with (at_builtin;refine Sg.str_list Gp rfl _ _ rfl rfl ⟨#[32,41,32,59,10]⟩ rfl Q24 ?_)
          intro v_133 w133 G133 _;replace G133:=G133.cast (M:=TP++aO [32,44] (x.params.map saP)++[32,41,32,59,10]) Q51;clear Gp;clear r2
          obtain⟨TQ,hTQ⟩:∃t,t=TP++aO [32,44] (x.params.map saP)++[32,41,32,59,10]:=⟨_,rfl⟩
          have HTQ:Hid (TQ=TP++aO [32,44] (x.params.map saP)++[32,41,32,59,10]):=hTQ
          rw[<-hTQ]at G133
          have hTQl:TQ.length+(x.locals.flatMap aT).length+(prB x.body).length<=500000000:=by rw[hTQ];(try simp only[ll]);omega
          clear hTQ
          have HG:Hid (Sg w w 0 base (fun x=>Blk x gx 27 [.slice (some an0) n0 c0,.slice a1 n1 c1,.slice a2 n2 c2,.slice (some ⟨b,o,none⟩) n3 c3]/\Blk x gp 55 [.slice p0 v0 d0,.bool false,.slice p2 v2 d2,.slice p3 v3 d3,.slice p4 v4 d4]) w133 (TQ++(x.locals.take 0).flatMap aT) v_133):=by
           have:=G133
           show Sg _ _ _ _ _ _ _ _
           simpa using this
          clear G133;go_wp2_with fail
          go_loopw [3,9] (fun bb i wr=>∃k:Nat,k<=v3/\i=.int .i64 k/\Hid (Sg w w 0 base (fun x=>Blk x gx 27 [.slice (some an0) n0 c0,.slice a1 n1 c1,.slice a2 n2 c2,.slice (some ⟨b,o,none⟩) n3 c3]/\Blk x gp 55 [.slice p0 v0 d0,.bool false,.slice p2 v2 d2,.slice p3 v3 d3,.slice p4 v4 d4]) wr (TQ++(x.locals.take k).flatMap aT) bb)) (fun _ i _=>v3-(intOf i).toNat)
          case atStart=>exact⟨0,zD1 _,rfl,HG⟩
          case round=>
           obtain⟨k,hk,rfl,hGq⟩:=hrel;have Gq:=hGq.out;clear HG hGq;have r3:=Gq.cellR (i:=3) rfl
           by_cases hl3:k<v3
           .
            obtain⟨b',o',rfl⟩:=bQ.addr HP3.out (by rw[j3];omega)
            obtain⟨y,hy⟩:∃y,x.locals[k]?=some y:=⟨x.locals[k]'(by rw[F3.out];exact hl3),zA0 _⟩
            have hyj:(dC x.locals)[k]?=some [.b y]:=by unfold dC;rw[zA2,hy];rfl
            obtain⟨us,Ai,Ab⟩:=(bQ.el HP3.out hyj).vals;obtain⟨z0,_,rfl,⟨ax,cx,rfl,hbx,_⟩,rfl⟩:=Ai;refine M945 ?_;clear Ab hy hyj hbx;intro hnx HNX2 hf2 nx hnp hbx hnx2 t0 hkn;go_upto_region 33 with fail;clear r3;have G134:=Gq.drew
            refine zK1 (S:=fun wx=>wx.cell? ⟨gp,3,none⟩=some (.slice (some ⟨b',o',none⟩) v3 d3)/\wx.cell? ⟨b',o'+k,none⟩=some (.slice ax nx cx)) Q1 ⟨G134.cellR (i:=3) rfl,aC t0 G134.bel⟩ (fun Aa=>?_)
            generalize wr.drew=w134 at *;clear Gq;refine M927 ?_;refine M960 ?_
            refine ra 1 fun K hK=>?_
            rw[if_pos Q1];refine G134.str_wp _ _ rfl rfl ⟨#[86,65,82,32]⟩ rfl Q38 ?_;intro v136 w136 G136 gr136
            replace G136:Sg w w 0 base _ w136 (TQ++(x.locals.take k).flatMap aT++[86,65,82,32]) v136:=G136
            refine hK.out _ _ ⟨G136.cellR (i:=3) rfl,aC t0 G136.bel⟩ (fun Aa=>?_)
            clear hK K G134;try simp only[nrm]
            refine ra 7 fun K hK=>?_
            rw[if_pos Q1];refine G136.row_wp _ _ rfl rfl ax nx cx y rfl (G136.row hbx) hnp Q7 ?_;intro v138 w138 G138 gr138
            refine hK.out _ _ ⟨G138.cellR (i:=3) rfl,aC t0 G138.bel⟩ (fun Aa=>?_)
            clear hK K G136;try simp only[nrm]
            refine ra 8 fun K hK=>?_
            rw[if_pos Q1];refine G138.str_wp _ _ rfl rfl ⟨#[32,59,10]⟩ rfl Q12 ?_;intro v140 w140 G140 gr140
            replace G140:Sg w w 0 base _ w140 (TQ++(x.locals.take k).flatMap aT++[86,65,82,32]++y++[32,59,10]) v140:=G140
            refine hK.out _ _ ⟨G140.cellR (i:=3) rfl,aC t0 G140.bel⟩ (fun Aa=>?_)
            clear hK K G138;try simp only[nrm]
            refine ta 9 ?_;try simp only[nrm]
            refine zK2 Q1 ?_ _
            have HG':Hid (Sg w w 0 base (fun x=>Blk x gx 27 [.slice (some an0) n0 c0,.slice a1 n1 c1,.slice a2 n2 c2,.slice (some ⟨b,o,none⟩) n3 c3]/\Blk x gp 55 [.slice p0 v0 d0,.bool false,.slice p2 v2 d2,.slice (some ⟨b',o',none⟩) v3 d3,.slice p4 v4 d4]) w140 (TQ++(x.locals.take (k+1)).flatMap aT) v140):=by
             have:=G140
             show Sg _ _ _ _ _ _ _ _
             rw[HNX2.out,aT]
             simpa [zD0] using this
            clear G140;exact U16
           .
            have:v3=k:=Q0
            subst this
            rw[zD3 (by rw[F3.out];exact zB0 _)]at Gq
            go_upto_region 34 with fail;clear r3;have G141:=Gq.drew
            refine zK1 (S:=fun wx=>wx.cell? ⟨gp,4,none⟩=some (.slice p4 v4 d4)) Q1 (G141.cellR (i:=4) rfl) (fun Aa=>?_)
            generalize wr.drew=w141 at *;clear Gq;refine M927 ?_
            refine ra 1 fun K hK=>?_
            rw[if_pos Q1];refine G141.str_wp _ _ rfl rfl ⟨#[66,69,71,73,78,10]⟩ rfl Q31 ?_;intro v143 w143 G143 gr143
            replace G143:Sg w w 0 base _ w143 (TQ++x.locals.flatMap aT++[66,69,71,73,78,10]) v143:=G143
            refine hK.out _ _ (G143.cellR (i:=4) rfl) (fun Aa=>?_)
            clear hK K G141;try simp only[nrm]
            refine ra 4 fun K hK=>?_
            go_simp;have HC:=aR6 x.body w w143 _ _ base (TQ++x.locals.flatMap aT++[66,69,71,73,78,10]) v143 HP4.out G143.bel G143.h0 G143.le G143.own HBOK.out Q7 s4;rw[F4.out]at HC;refine HC.mono ?_;rintro e w144 ⟨v_144,rfl,ho144,hw144⟩;have G144:=G143.step hw144 ho144;clear HC ho144 hw144;go_wp2_with fail
            refine hK.out _ _ (G144.cellR (i:=4) rfl) (fun Aa=>?_)
            clear hK K G143;try simp only[nrm]
            refine ra 5 fun K hK=>?_
            rw[if_pos Q1];refine G144.str_wp _ _ rfl rfl ⟨#[69,78,68,32,59,10]⟩ rfl Q31 ?_;intro v147 w147 G147 gr147
            replace G147:Sg w w 0 base _ w147 (TQ++x.locals.flatMap aT++[66,69,71,73,78,10]++prB x.body++[69,78,68,32,59,10]) v147:=G147
            refine hK.out _ _ (G147.cellR (i:=4) rfl) (fun Aa=>?_)
            clear hK K G144;try simp only[nrm]
            refine ta 6 ?_;try simp only[nrm]
            refine zK2 Q1 ?_ _
            have HG':Hid (Sg w w 0 base (fun x=>Blk x gx 27 [.slice (some an0) n0 c0,.slice a1 n1 c1,.slice a2 n2 c2,.slice (some ⟨b,o,none⟩) n3 c3]) w147 (T2++(m.procs.take (j+1)).flatMap cJ) v147):=by
             have:=G147.less (dB Q5)
             exact U88
            clear G147;exact U8
       .
        simp only[if_true,if_false,Bool.false_eq_true]at hpl HPS'
        go_wp2_with (at_builtin;refine Sg.str_list G100 rfl _ _ rfl rfl ⟨#[32,42]⟩ rfl Q10 ?_)
        intro v_148 w148 G148 _
        replace G148:=G148.cast (M:=T2++(m.procs.take j).flatMap cJ++[80,82,79,67,32]++x.name++[32,42]) (by simp[show sI ⟨#[32,42]⟩=[32,42] from rfl])
        clear G100
        go_wp2_with (at_builtin;refine Sg.str_list G148 rfl _ _ rfl rfl ⟨#[32,40]⟩ rfl Q10 ?_)
        intro v_149 w149 G149 _
        replace G149:=G149.cast (M:=T2++(m.procs.take j).flatMap cJ++[80,82,79,67,32]++x.name++[32,42]++[32,40]) (by simp[show sI ⟨#[32,40]⟩=[32,40] from rfl])
        clear G148;clear r1
        obtain⟨TP,hTP⟩:∃t,t=T2++(m.procs.take j).flatMap cJ++[80,82,79,67,32]++x.name++[32,42]++[32,40]:=⟨_,rfl⟩
        have HTP:Hid (TP=T2++(m.procs.take j).flatMap cJ++[80,82,79,67,32]++x.name++[32,42]++[32,40]):=hTP
        rw[<-hTP]at G149
        have hTPl:TP.length+(aO [32,44] (x.params.map saP)).length+5+(x.locals.flatMap aT).length+6+(prB x.body).length+6<=500000000:=by rw[hTP];(try simp only[ll]);omega
        clear hTP
        have HG:Hid (Sg w w 0 base (fun x=>Blk x gx 27 [.slice (some an0) n0 c0,.slice a1 n1 c1,.slice a2 n2 c2,.slice (some ⟨b,o,none⟩) n3 c3]/\Blk x gp 55 [.slice p0 v0 d0,.bool true,.slice p2 v2 d2,.slice p3 v3 d3,.slice p4 v4 d4]) w149 (TP++aO [32,44] ((x.params.map saP).take 0)) v_149):=by
         have:=G149
         show Sg _ _ _ _ _ _ _ _
         simpa [aO] using this
        clear G149;go_wp2_with fail
        go_loopw [3,8] (fun bb i wr=>∃k:Nat,k<=v2/\i=.int .i64 k/\Hid (Sg w w 0 base (fun x=>Blk x gx 27 [.slice (some an0) n0 c0,.slice a1 n1 c1,.slice a2 n2 c2,.slice (some ⟨b,o,none⟩) n3 c3]/\Blk x gp 55 [.slice p0 v0 d0,.bool true,.slice p2 v2 d2,.slice p3 v3 d3,.slice p4 v4 d4]) wr (TP++aO [32,44] ((x.params.map saP).take k)) bb)) (fun _ i _=>v2-(intOf i).toNat)
        case atStart=>exact⟨0,zD1 _,rfl,HG⟩
        case round=>
         obtain⟨k,hk,rfl,hGp⟩:=hrel;have Gp:=hGp.out;clear HG hGp;have r2:=Gp.cellR (i:=2) rfl
         by_cases hl2:k<v2
         .
          obtain⟨b',o',rfl⟩:=bQ.addr HP2.out (by rw[j2];omega)
          obtain⟨y,hy⟩:∃y,x.params[k]?=some y:=⟨x.params[k]'(by rw[F2.out];exact hl2),zA0 _⟩
          have hyj:(x.params.map Pa.fl)[k]?=some y.fl:=by rw[zA2,hy];rfl
          obtain⟨us,Ai,Ab⟩:=(bQ.el HP2.out hyj).vals;obtain⟨z0,_,rfl,⟨ax,cx,rfl,hbx,_⟩,z1,_,rfl,rfl,rfl⟩:=Ai
          have t0:w.cell? ⟨b',o'+k*2,none⟩=some (.slice ax y.name.length cx):=Ab 0 _ rfl
          have t1:w.cell? ⟨b',o'+k*2+1,none⟩=some (.bool y.arr):=Ab 1 _ rfl
          have hsx:aL y.fl<=1048576:=zF2 (aX (zA3 hyj)) s2
          have hnx:y.name.length<=1048576:=by simp[Pa.fl,aL,Fl.len]at hsx;omega
          have hnp:0<y.name.length:=dV (HPOK.out y (zA3 hy))
          have hyt:(x.params.map saP)[k]?=some (saP y):=by rw[zA2,hy];rfl
          have HJ:Hid (aO [32,44] ((x.params.map saP).take (k+1))=if k=0 then saP y else aO [32,44] ((x.params.map saP).take k)++[32,44]++saP y):=gO hyt
          have hjl:(aO [32,44] ((x.params.map saP).take k)).length<=(aO [32,44] (x.params.map saP)).length:=iN _ _ _ (by rw[zB2,F2.out];omega)
          clear Ab hy hyj hsx hyt;obtain⟨nm,ar⟩:=y
          simp only at *
          obtain⟨nx,hnx'⟩:∃z,z=nm.length:=⟨_,rfl⟩
          rw[<-hnx']at t0 hnp hbx;have hnx2:nx<=1048576:=Q0;clear hnx';have hkn:(k:Int)<(v2:Int):=Q0
          by_cases hk0:k=0
          .
           subst hk0;simp only[Nat.zero_mul,zG1]at t0 t1;cases ar
           .
            have r2:=Gp.cellR (i:=2) rfl;have r1:=aC t1 Gp.bel;go_upto_region 28 with fail;clear r2 r1;have G150:=Gp.drew
            refine zK1 (S:=fun wx=>wx.cell? ⟨gp,2,none⟩=some (.slice (some ⟨b',o',none⟩) v2 d2)/\wx.cell? ⟨b',o',none⟩=some (.slice ax nx cx)) Q1 ⟨G150.cellR (i:=2) rfl,aC t0 G150.bel⟩ (fun Aa=>?_)
            generalize wr.drew=w150 at *;clear Gp;refine M921 ?_
            refine ra 1 fun K hK=>?_
            go_simp
            have R152:(w150.alloc (.cells #[.int .u8 32] 5)).heap[w150.heap.size]?=some (Obj.cells #[.int .u8 32] 5 (0,0)):=zJ1 w150 _
            have F152:=G150.free;have G152:=G150.alloc (.cells #[.int .u8 32] 5)
            refine hK.out _ _ ⟨G152.cellR (i:=2) rfl,aC t0 G152.bel⟩ (fun Aa=>?_)
            clear hK K G150;try simp only[nrm]
            generalize w150.alloc (.cells #[.int .u8 32] 5)=w152 at *;generalize w150.heap.size=g152 at *
            refine ra 2 fun K hK=>?_
            rw[if_pos Q1];refine G152.row_wp _ _ rfl rfl (some ⟨g152,0,none⟩) 1 1 [32] rfl (eP Q0 Q0 R152) Q0 Q7 ?_;intro v154 w154 G154 gr154
            refine hK.out _ _ ⟨G154.cellR (i:=2) rfl,aC t0 G154.bel⟩ (fun Aa=>?_)
            clear hK K G152;try simp only[nrm]
            refine ra 9 fun K hK=>?_
            rw[if_pos Q1];refine G154.row_wp _ _ rfl rfl ax nx cx nm rfl (G154.row hbx) hnp Q7 ?_;intro v156 w156 G156 gr156
            refine hK.out _ _ ⟨G156.cellR (i:=2) rfl,aC t0 G156.bel⟩ (fun Aa=>?_)
            clear hK K G154;try simp only[nrm]
            refine ta 10 ?_;try simp only[nrm]
            refine zK2 Q1 ?_ _
            have HG':Hid (Sg w w 0 base (fun x=>Blk x gx 27 [.slice (some an0) n0 c0,.slice a1 n1 c1,.slice a2 n2 c2,.slice (some ⟨b,o,none⟩) n3 c3]/\Blk x gp 55 [.slice p0 v0 d0,.bool true,.slice (some ⟨b',o',none⟩) v2 d2,.slice p3 v3 d3,.slice p4 v4 d4]) w156 (TP++aO [32,44] ((x.params.map saP).take (0+1))) v156):=by
             have:=G156
             exact U47
            clear G156;exact U37
           .
            have r2:=Gp.cellR (i:=2) rfl;have r1:=aC t1 Gp.bel
            go_wp2_with (at_builtin;refine Sg.str_list Gp rfl _ _ rfl rfl ⟨#[32,64]⟩ rfl Q10 ?_)
            intro v_157 w157 G157 _;replace G157:=G157.cast (M:=TP++aO [32,44] ((x.params.map saP).take 0)++[32,64]) Q41;clear Gp;go_upto_region 28 with fail;clear r2 r1;have G158:=G157.drew
            refine zK1 (S:=fun wx=>wx.cell? ⟨gp,2,none⟩=some (.slice (some ⟨b',o',none⟩) v2 d2)/\wx.cell? ⟨b',o',none⟩=some (.slice ax nx cx)) Q1 ⟨G158.cellR (i:=2) rfl,aC t0 G158.bel⟩ (fun Aa=>?_)
            generalize w157.drew=w158 at *;clear G157;refine M921 ?_
            refine ra 1 fun K hK=>?_
            go_simp
            have R160:(w158.alloc (.cells #[.int .u8 32] 5)).heap[w158.heap.size]?=some (Obj.cells #[.int .u8 32] 5 (0,0)):=zJ1 w158 _
            have F160:=G158.free;have G160:=G158.alloc (.cells #[.int .u8 32] 5)
            refine hK.out _ _ ⟨G160.cellR (i:=2) rfl,aC t0 G160.bel⟩ (fun Aa=>?_)
            clear hK K G158;try simp only[nrm]
            generalize w158.alloc (.cells #[.int .u8 32] 5)=w160 at *;generalize w158.heap.size=g160 at *
            refine ra 2 fun K hK=>?_
            rw[if_pos Q1];refine G160.row_wp _ _ rfl rfl (some ⟨g160,0,none⟩) 1 1 [32] rfl (eP Q0 Q0 R160) Q0 Q7 ?_;intro v162 w162 G162 gr162
            refine hK.out _ _ ⟨G162.cellR (i:=2) rfl,aC t0 G162.bel⟩ (fun Aa=>?_)
            clear hK K G160;try simp only[nrm]
            refine ra 9 fun K hK=>?_
            rw[if_pos Q1];refine G162.row_wp _ _ rfl rfl ax nx cx nm rfl (G162.row hbx) hnp Q7 ?_;intro v164 w164 G164 gr164
            refine hK.out _ _ ⟨G164.cellR (i:=2) rfl,aC t0 G164.bel⟩ (fun Aa=>?_)
            clear hK K G162;try simp only[nrm]
            refine ta 10 ?_;try simp only[nrm]
            refine zK2 Q1 ?_ _
            have HG':Hid (Sg w w 0 base (fun x=>Blk x gx 27 [.slice (some an0) n0 c0,.slice a1 n1 c1,.slice a2 n2 c2,.slice (some ⟨b,o,none⟩) n3 c3]/\Blk x gp 55 [.slice p0 v0 d0,.bool true,.slice (some ⟨b',o',none⟩) v2 d2,.slice p3 v3 d3,.slice p4 v4 d4]) w164 (TP++aO [32,44] ((x.params.map saP).take (0+1))) v164):=by
             have:=G164
             exact U47
            clear G164;exact U37
          .
           have hkp:(0:Int)<(k:Int):=Q0
           go_wp2_with (at_builtin;refine Sg.str_list Gp rfl _ _ rfl rfl ⟨#[32,44]⟩ rfl Q10 ?_)
           intro v_165 w165 G165 _;replace G165:=G165.cast (M:=TP++aO [32,44] ((x.params.map saP).take k)++[32,44]) Q40;clear Gp;cases ar
           .
            have r2:=G165.cellR (i:=2) rfl;have r1:=aC t1 G165.bel;go_upto_region 28 with fail;clear r2 r1;have G166:=G165.drew
            refine zK1 (S:=fun wx=>wx.cell? ⟨gp,2,none⟩=some (.slice (some ⟨b',o',none⟩) v2 d2)/\wx.cell? ⟨b',o'+k*2,none⟩=some (.slice ax nx cx)) Q1 ⟨G166.cellR (i:=2) rfl,aC t0 G166.bel⟩ (fun Aa=>?_)
            generalize w165.drew=w166 at *;clear G165;refine M921 ?_
            refine ra 1 fun K hK=>?_
            go_simp
            have R168:(w166.alloc (.cells #[.int .u8 32] 5)).heap[w166.heap.size]?=some (Obj.cells #[.int .u8 32] 5 (0,0)):=zJ1 w166 _
            have F168:=G166.free;have G168:=G166.alloc (.cells #[.int .u8 32] 5)
            refine hK.out _ _ ⟨G168.cellR (i:=2) rfl,aC t0 G168.bel⟩ (fun Aa=>?_)
            clear hK K G166;try simp only[nrm]
            generalize w166.alloc (.cells #[.int .u8 32] 5)=w168 at *;generalize w166.heap.size=g168 at *
            refine ra 2 fun K hK=>?_
            rw[if_pos Q1];refine G168.row_wp _ _ rfl rfl (some ⟨g168,0,none⟩) 1 1 [32] rfl (eP Q0 Q0 R168) Q0 Q7 ?_;intro v170 w170 G170 gr170
            refine hK.out _ _ ⟨G170.cellR (i:=2) rfl,aC t0 G170.bel⟩ (fun Aa=>?_)
            clear hK K G168;try simp only[nrm]
            refine ra 9 fun K hK=>?_
            rw[if_pos Q1];refine G170.row_wp _ _ rfl rfl ax nx cx nm rfl (G170.row hbx) hnp Q7 ?_;intro v172 w172 G172 gr172
            refine hK.out _ _ ⟨G172.cellR (i:=2) rfl,aC t0 G172.bel⟩ (fun Aa=>?_)
            clear hK K G170;try simp only[nrm]
            refine ta 10 ?_;try simp only[nrm]
            refine zK2 Q1 ?_ _
            have HG':Hid (Sg w w 0 base (fun x=>Blk x gx 27 [.slice (some an0) n0 c0,.slice a1 n1 c1,.slice a2 n2 c2,.slice (some ⟨b,o,none⟩) n3 c3]/\Blk x gp 55 [.slice p0 v0 d0,.bool true,.slice (some ⟨b',o',none⟩) v2 d2,.slice p3 v3 d3,.slice p4 v4 d4]) w172 (TP++aO [32,44] ((x.params.map saP).take (k+1))) v172):=by
             have:=G172
             exact U44
            clear G172;exact U16
           .
            have r2:=G165.cellR (i:=2) rfl;have r1:=aC t1 G165.bel
            go_wp2_with (at_builtin;refine Sg.str_list G165 rfl _ _ rfl rfl ⟨#[32,64]⟩ rfl Q10 ?_)
            intro v_173 w173 G173 _;replace G173:=G173.cast (M:=TP++aO [32,44] ((x.params.map saP).take k)++[32,44]++[32,64]) Q41;clear G165;go_upto_region 28 with fail;clear r2 r1;have G174:=G173.drew
            refine zK1 (S:=fun wx=>wx.cell? ⟨gp,2,none⟩=some (.slice (some ⟨b',o',none⟩) v2 d2)/\wx.cell? ⟨b',o'+k*2,none⟩=some (.slice ax nx cx)) Q1 ⟨G174.cellR (i:=2) rfl,aC t0 G174.bel⟩ (fun Aa=>?_)
            generalize w173.drew=w174 at *;clear G173;refine M921 ?_
            refine ra 1 fun K hK=>?_
            go_simp
            have R176:(w174.alloc (.cells #[.int .u8 32] 5)).heap[w174.heap.size]?=some (Obj.cells #[.int .u8 32] 5 (0,0)):=zJ1 w174 _
            have F176:=G174.free;have G176:=G174.alloc (.cells #[.int .u8 32] 5)
            refine hK.out _ _ ⟨G176.cellR (i:=2) rfl,aC t0 G176.bel⟩ (fun Aa=>?_)
            clear hK K G174;try simp only[nrm]
            generalize w174.alloc (.cells #[.int .u8 32] 5)=w176 at *;generalize w174.heap.size=g176 at *
            refine ra 2 fun K hK=>?_
            rw[if_pos Q1];refine G176.row_wp _ _ rfl rfl (some ⟨g176,0,none⟩) 1 1 [32] rfl (eP Q0 Q0 R176) Q0 Q7 ?_;intro v178 w178 G178 gr178
            refine hK.out _ _ ⟨G178.cellR (i:=2) rfl,aC t0 G178.bel⟩ (fun Aa=>?_)
            clear hK K G176;try simp only[nrm]
            refine ra 9 fun K hK=>?_
            rw[if_pos Q1];refine G178.row_wp _ _ rfl rfl ax nx cx nm rfl (G178.row hbx) hnp Q7 ?_;intro v180 w180 G180 gr180
            refine hK.out _ _ ⟨G180.cellR (i:=2) rfl,aC t0 G180.bel⟩ (fun Aa=>?_)
            clear hK K G178;try simp only[nrm]
            refine ta 10 ?_;try simp only[nrm]
            refine zK2 Q1 ?_ _
            have HG':Hid (Sg w w 0 base (fun x=>Blk x gx 27 [.slice (some an0) n0 c0,.slice a1 n1 c1,.slice a2 n2 c2,.slice (some ⟨b,o,none⟩) n3 c3]/\Blk x gp 55 [.slice p0 v0 d0,.bool true,.slice (some ⟨b',o',none⟩) v2 d2,.slice p3 v3 d3,.slice p4 v4 d4]) w180 (TP++aO [32,44] ((x.params.map saP).take (k+1))) v180):=by
             have:=G180
             exact U44
            clear G180;exact U16
         .
          have:v2=k:=Q0
          subst this
          rw[zD3 (by rw[zB2,F2.out];exact zB0 _)]at Gp
          go_wp2_with (at_builtin;refine Sg.str_list Gp rfl _ _ rfl rfl ⟨#[32,41,32,59,10]⟩ rfl Q24 ?_)
          intro v_181 w181 G181 _;replace G181:=G181.cast (M:=TP++aO [32,44] (x.params.map saP)++[32,41,32,59,10]) Q51;clear Gp;clear r2
          obtain⟨TQ,hTQ⟩:∃t,t=TP++aO [32,44] (x.params.map saP)++[32,41,32,59,10]:=⟨_,rfl⟩
          have HTQ:Hid (TQ=TP++aO [32,44] (x.params.map saP)++[32,41,32,59,10]):=hTQ
          rw[<-hTQ]at G181
          have hTQl:TQ.length+(x.locals.flatMap aT).length+(prB x.body).length<=500000000:=by rw[hTQ];(try simp only[ll]);omega
          clear hTQ
          have HG:Hid (Sg w w 0 base (fun x=>Blk x gx 27 [.slice (some an0) n0 c0,.slice a1 n1 c1,.slice a2 n2 c2,.slice (some ⟨b,o,none⟩) n3 c3]/\Blk x gp 55 [.slice p0 v0 d0,.bool true,.slice p2 v2 d2,.slice p3 v3 d3,.slice p4 v4 d4]) w181 (TQ++(x.locals.take 0).flatMap aT) v_181):=by
           have:=G181
           show Sg _ _ _ _ _ _ _ _
           simpa using this
          clear G181;go_wp2_with fail
          go_loopw [3,9] (fun bb i wr=>∃k:Nat,k<=v3/\i=.int .i64 k/\Hid (Sg w w 0 base (fun x=>Blk x gx 27 [.slice (some an0) n0 c0,.slice a1 n1 c1,.slice a2 n2 c2,.slice (some ⟨b,o,none⟩) n3 c3]/\Blk x gp 55 [.slice p0 v0 d0,.bool true,.slice p2 v2 d2,.slice p3 v3 d3,.slice p4 v4 d4]) wr (TQ++(x.locals.take k).flatMap aT) bb)) (fun _ i _=>v3-(intOf i).toNat)
          case atStart=>exact⟨0,zD1 _,rfl,HG⟩
          case round=>
           obtain⟨k,hk,rfl,hGq⟩:=hrel;have Gq:=hGq.out;clear HG hGq;have r3:=Gq.cellR (i:=3) rfl
           by_cases hl3:k<v3
           .
            obtain⟨b',o',rfl⟩:=bQ.addr HP3.out (by rw[j3];omega)
            obtain⟨y,hy⟩:∃y,x.locals[k]?=some y:=⟨x.locals[k]'(by rw[F3.out];exact hl3),zA0 _⟩
            have hyj:(dC x.locals)[k]?=some [.b y]:=by unfold dC;rw[zA2,hy];rfl
            obtain⟨us,Ai,Ab⟩:=(bQ.el HP3.out hyj).vals;obtain⟨z0,_,rfl,⟨ax,cx,rfl,hbx,_⟩,rfl⟩:=Ai;refine M945 ?_;clear Ab hy hyj hbx;intro hnx HNX2 hf2 nx hnp hbx hnx2 t0 hkn;go_upto_region 33 with fail;clear r3;have G182:=Gq.drew
            refine zK1 (S:=fun wx=>wx.cell? ⟨gp,3,none⟩=some (.slice (some ⟨b',o',none⟩) v3 d3)/\wx.cell? ⟨b',o'+k,none⟩=some (.slice ax nx cx)) Q1 ⟨G182.cellR (i:=3) rfl,aC t0 G182.bel⟩ (fun Aa=>?_)
            generalize wr.drew=w182 at *;clear Gq;refine M927 ?_;refine M960 ?_
            refine ra 1 fun K hK=>?_
            rw[if_pos Q1];refine G182.str_wp _ _ rfl rfl ⟨#[86,65,82,32]⟩ rfl Q38 ?_;intro v184 w184 G184 gr184
            replace G184:Sg w w 0 base _ w184 (TQ++(x.locals.take k).flatMap aT++[86,65,82,32]) v184:=G184
            refine hK.out _ _ ⟨G184.cellR (i:=3) rfl,aC t0 G184.bel⟩ (fun Aa=>?_)
            clear hK K G182;try simp only[nrm]
            refine ra 7 fun K hK=>?_
            rw[if_pos Q1];refine G184.row_wp _ _ rfl rfl ax nx cx y rfl (G184.row hbx) hnp Q7 ?_;intro v186 w186 G186 gr186
            refine hK.out _ _ ⟨G186.cellR (i:=3) rfl,aC t0 G186.bel⟩ (fun Aa=>?_)
            clear hK K G184;try simp only[nrm]
            refine ra 8 fun K hK=>?_
            rw[if_pos Q1];refine G186.str_wp _ _ rfl rfl ⟨#[32,59,10]⟩ rfl Q12 ?_;intro v188 w188 G188 gr188
            replace G188:Sg w w 0 base _ w188 (TQ++(x.locals.take k).flatMap aT++[86,65,82,32]++y++[32,59,10]) v188:=G188
            refine hK.out _ _ ⟨G188.cellR (i:=3) rfl,aC t0 G188.bel⟩ (fun Aa=>?_)
            clear hK K G186;try simp only[nrm]
            refine ta 9 ?_;try simp only[nrm]
            refine zK2 Q1 ?_ _
            have HG':Hid (Sg w w 0 base (fun x=>Blk x gx 27 [.slice (some an0) n0 c0,.slice a1 n1 c1,.slice a2 n2 c2,.slice (some ⟨b,o,none⟩) n3 c3]/\Blk x gp 55 [.slice p0 v0 d0,.bool true,.slice p2 v2 d2,.slice (some ⟨b',o',none⟩) v3 d3,.slice p4 v4 d4]) w188 (TQ++(x.locals.take (k+1)).flatMap aT) v188):=by
             have:=G188
             show Sg _ _ _ _ _ _ _ _
             rw[HNX2.out,aT]
             simpa [zD0] using this
            clear G188;exact U16
           .
            have:v3=k:=Q0
            subst this
            rw[zD3 (by rw[F3.out];exact zB0 _)]at Gq
            go_upto_region 34 with fail;clear r3;have G189:=Gq.drew
            refine zK1 (S:=fun wx=>wx.cell? ⟨gp,4,none⟩=some (.slice p4 v4 d4)) Q1 (G189.cellR (i:=4) rfl) (fun Aa=>?_)
            generalize wr.drew=w189 at *;clear Gq;refine M927 ?_
            refine ra 1 fun K hK=>?_
            rw[if_pos Q1];refine G189.str_wp _ _ rfl rfl ⟨#[66,69,71,73,78,10]⟩ rfl Q31 ?_;intro v191 w191 G191 gr191
            replace G191:Sg w w 0 base _ w191 (TQ++x.locals.flatMap aT++[66,69,71,73,78,10]) v191:=G191
            refine hK.out _ _ (G191.cellR (i:=4) rfl) (fun Aa=>?_)
            clear hK K G189;try simp only[nrm]
            refine ra 4 fun K hK=>?_
            go_simp;have HC:=aR6 x.body w w191 _ _ base (TQ++x.locals.flatMap aT++[66,69,71,73,78,10]) v191 HP4.out G191.bel G191.h0 G191.le G191.own HBOK.out Q7 s4;rw[F4.out]at HC;refine HC.mono ?_;rintro e w192 ⟨v_192,rfl,ho192,hw192⟩;have G192:=G191.step hw192 ho192;clear HC ho192 hw192;go_wp2_with fail
            refine hK.out _ _ (G192.cellR (i:=4) rfl) (fun Aa=>?_)
            clear hK K G191;try simp only[nrm]
            refine ra 5 fun K hK=>?_
            rw[if_pos Q1];refine G192.str_wp _ _ rfl rfl ⟨#[69,78,68,32,59,10]⟩ rfl Q31 ?_;intro v195 w195 G195 gr195
            replace G195:Sg w w 0 base _ w195 (TQ++x.locals.flatMap aT++[66,69,71,73,78,10]++prB x.body++[69,78,68,32,59,10]) v195:=G195
            refine hK.out _ _ (G195.cellR (i:=4) rfl) (fun Aa=>?_)
            clear hK K G192;try simp only[nrm]
            refine ta 6 ?_;try simp only[nrm]
            refine zK2 Q1 ?_ _
            have HG':Hid (Sg w w 0 base (fun x=>Blk x gx 27 [.slice (some an0) n0 c0,.slice a1 n1 c1,.slice a2 n2 c2,.slice (some ⟨b,o,none⟩) n3 c3]) w195 (T2++(m.procs.take (j+1)).flatMap cJ) v195):=by
             have:=G195.less (dB Q5)
             exact U88
            clear G195;exact U8
      .
       have:n3=j:=Q0
       subst this
       rw[zD3 (by rw[E3.out];exact zB0 _)]at Gr
       go_wp2_with (at_builtin;refine Sg.str_list Gr rfl _ _ rfl rfl ⟨#[69,78,68,32,46,10]⟩ rfl Q31 ?_)
       intro v9 w9 G9 _
       replace G9:Sg w w 0 base (fun x=>Blk x gx 27 [.slice (some an0) n0 c0,.slice a1 n1 c1,.slice a2 n2 c2,.slice a3 n3 c3]) w9 (prM m) v9:=by
        rw[HF.out];rw[HT2.out,HT1.out,HPM.out]at G9
        simpa [show sI ⟨#[69,78,68,32,46,10]⟩=[69,78,68,32,46,10] from rfl,zD0] using G9
       go_wp2;go_ret
       exact⟨_,rfl,G9.own,aW (by have:=G9.bel;exact this) none⟩
end Go.Proofs.YtffphdacgblaoaaGreatDoor

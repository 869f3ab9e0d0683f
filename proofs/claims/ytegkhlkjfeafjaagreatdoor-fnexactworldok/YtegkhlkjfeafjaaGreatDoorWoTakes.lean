import Derived.Test.YtegkhlkjfeafjaaGreatDoorPackD
namespace Go.Proofs.YtegkhlkjfeafjaaGreatDoor
set_option maxHeartbeats 16000000
open Go.RowKit
set_option linter.unusedVariables false
set_option linter.unusedSimpArgs false
set_option maxRecDepth 100000
theorem U265{p:Prop}(h:p:=by
 rw[zB2,hfl]at h9
 have h8:=ha.len9
 rw[zB2,hal]at h8
 have x0:=(Blk.new w 33 [mv,.slice (some ⟨bf,off,none⟩) nf cf,sv]).old (o:=.cells #[.int .i64 kd,.int .i64 (tn:Int),.int .i64 pp,.slice aa na ca,.int .i64 nn] 56 (0,0))
 have x1:=Blk.new (w.alloc (.cells #[mv,.slice (some ⟨bf,off,none⟩) nf cf,sv] 33 (0,0))) 56 [.int .i64 kd,.int .i64 (tn:Int),.int .i64 pp,.slice aa na ca,.int .i64 nn]
 have y0:Below w.heap.size w ((w.alloc (.cells #[mv,.slice (some ⟨bf,off,none⟩) nf cf,sv] 33 (0,0))).alloc (.cells #[.int .i64 kd,.int .i64 (tn:Int),.int .i64 pp,.slice aa na ca,.int .i64 nn] 56 (0,0))):=((zD2 _ _).alloc (zB0 _) _).alloc V15 _
 rw[show(w.alloc (.cells #[mv,.slice (some ⟨bf,off,none⟩) nf cf,sv] 33 (0,0))).heap.size=w.heap.size+1 by simp]at x1
 go_enter Tryz.func27,Tryz.ntmps27
 go_upto_region 1 with fail
 simp only[List.toArray]at x0 x1 y0
 generalize (w.alloc (.cells #[mv,.slice (some ⟨bf,off,none⟩) nf cf,sv] 33 (0,0))).alloc (.cells #[.int .i64 kd,.int .i64 (tn:Int),.int .i64 pp,.slice aa na ca,.int .i64 nn] 56 (0,0))=w1 at *
 have HA:Hid (∀{wl:World},Below w1.heap.size w1 wl->aS wl aa ca 2 (ag.map Ag.fl)):=fun hb=>ha.below (y0.trans (hb.mono y0.size))
 have HS:∀{wl:World},Below w1.heap.size w1 wl->(wl.cell? ⟨(w.heap.size),1,none⟩=some (.slice (some ⟨bf,off,none⟩) nf cf)/\wl.cell? ⟨(w.heap.size+1),0,none⟩=some (.int .i64 kd)/\wl.cell? ⟨(w.heap.size+1),1,none⟩=some (.int .i64 (tn:Int))/\wl.cell? ⟨(w.heap.size+1),2,none⟩=some (.int .i64 pp)/\wl.cell? ⟨(w.heap.size+1),3,none⟩=some (.slice aa na ca)/\wl.cell? ⟨(w.heap.size+1),4,none⟩=some (.int .i64 nn)/\wl.cell? ⟨bf,off+tn*2+1,none⟩=some (.slice ap np cp)):=fun hb=>⟨aB (x0.k 1) hb,aB (x1.k 0) hb,aB (x1.k 1) hb,aB (x1.k 2) hb,aB (x1.k 3) hb,aB (x1.k 4) hb,aB (aB hc y0) hb⟩
 have Al:=HS (wl:=w1.drew) (zD2 _ _).drew
 have b0:Below w1.heap.size w1 w1.drew:=(zD2 _ _).drew
 have hwf:IntKind.i64.wrap ((nf:Int)-1)=(nf:Int)-1:=by rw[IntKind.wrap_i64];omega
 clear x0 x1 ha hf hc
 have htn1:(tn:Int)<(nf:Int):=V6
 have hwp:IntKind.i64.wrap ((np:Int)-1)=(np:Int)-1:=by rw[IntKind.wrap_i64];omega
 generalize hga:w.heap.size+1=ga at HS Al ⊢
 generalize Aq:w.heap.size=gw at HS Al ⊢
 clear hga
 refine zK3 (S:=fun wl=>(wl.cell? ⟨gw,1,none⟩=some (.slice (some ⟨bf,off,none⟩) nf cf)/\wl.cell? ⟨ga,0,none⟩=some (.int .i64 kd)/\wl.cell? ⟨ga,1,none⟩=some (.int .i64 (tn:Int))/\wl.cell? ⟨ga,2,none⟩=some (.int .i64 pp)/\wl.cell? ⟨ga,3,none⟩=some (.slice aa na ca)/\wl.cell? ⟨ga,4,none⟩=some (.int .i64 nn)/\wl.cell? ⟨bf,off+tn*2+1,none⟩=some (.slice ap np cp))) V90 Al (fun Aa=>?_)
 generalize w1.drew=w2 at *
 refine ta 0 ?_
 refine ta 1 ?_
 try simp only[nrm]
 refine ra 2 fun K hK=>?_
 go_simp
 (with_reducible refine(aO0 hk _).mono ?_)
 rintro e w3 ⟨rfl,rfl⟩
 go_wp2_with fail
 refine hK.out _ _ (Al) (fun Aa=>?_)
 clear hK K
 try simp only[nrm]
 refine ta 3 ?_
 refine ta 4 ?_
 refine ta 5 ?_
 try simp only[nrm]
 refine ta 6 ?_
 refine ta 7 ?_
 refine ta 8 ?_
 try simp only[nrm]
 refine ta 9 ?_
 refine ta 10 ?_
 refine ta 11 ?_
 try simp only[nrm]
 refine ra 12 fun K hK=>?_
 go_simp
 (with_reducible refine(aPu hg hal (HA.out b0)).mono ?_)
 rintro e w4 ⟨rfl,hg1⟩
 replace b0:=b0.trans ((aA hg1).mono b0.size)
 replace Al:=HS b0
 go_wp2_with fail
 refine hK.out _ _ (Al) (fun Aa=>?_)
 clear hK K
 try simp only[nrm]
 refine ta 13 ?_
 refine ta 14 ?_
 refine ta 15 ?_
 try simp only[nrm]
 refine ta 16 ?_
 try simp only[nrm]
 refine ra 17 fun K hK=>?_
 go_simp
 (with_reducible refine(aRf hi _).mono ?_)
 rintro e w5 ⟨rfl,rfl⟩
 go_wp2_with fail
 refine hK.out _ _ (Al) (fun Aa=>?_)
 clear hK K
 try simp only[nrm]
 refine ta 18 ?_
 refine ta 19 ?_
 refine ta 20 ?_
 try simp only[nrm]
 refine ta 21 ?_
 refine ta 22 ?_
 refine ta 23 ?_
 try simp only[nrm]
 refine ta 24 ?_
 refine ta 25 ?_
 refine ta 26 ?_
 try simp only[nrm]
 refine ta 27 ?_
 refine ta 28 ?_
 refine ta 29 ?_
 try simp only[nrm]
 try simp only[hwf]
 refine ra 30 fun K hK=>?_
 go_simp
 (with_reducible refine(aO0 ht _).mono ?_)
 rintro e w6 ⟨rfl,rfl⟩
 go_wp2_with fail
 refine hK.out _ _ (Al) (fun Aa=>?_)
 clear hK K
 try simp only[nrm]
 refine ta 31 ?_
 refine ta 32 ?_
 refine ta 33 ?_
 try simp only[nrm]
 refine ta 34 ?_
 refine ta 35 ?_
 refine ta 36 ?_
 try simp only[nrm]
 refine ta 37 ?_
 refine ta 38 ?_
 refine ta 39 ?_
 try simp only[nrm]
 refine ta 40 ?_
 refine ta 41 ?_
 refine ta 42 ?_
 try simp only[nrm]
 try simp only[hwp]
 refine ra 43 fun K hK=>?_
 go_simp
 (with_reducible refine(aO0 hp _).mono ?_)
 rintro e w7 ⟨rfl,rfl⟩
 go_wp2_with fail
 refine hK.out _ _ (Al) (fun Aa=>?_)
 clear hK K
 try simp only[nrm]
 refine ta 44 ?_
 refine ta 45 ?_
 refine ta 46 ?_
 try simp only[nrm]
 refine ta 47 ?_
 try simp only[nrm]
 refine zL0 V90 ?_ _
 clear HS Al Aa HA
 go_wp2
 go_ret
 exact⟨rfl,aI (y0.trans (b0.mono y0.size)) none⟩):p:=h
theorem U269{p:Prop}(h:p:=by
 try simp only[nrm]
 refine ta 18 ?_
 refine ta 19 ?_
 try simp only[nrm]
 refine sa 20 ?_
 refine sa 21 ?_
 refine sa 22 ?_
 try simp only[nrm]
 refine sa 23 ?_
 refine sa 24 ?_
 refine sa 25 ?_
 try simp only[nrm]
 refine sa 26 ?_
 refine sa 27 ?_
 refine sa 28 ?_
 try simp only[nrm]
 refine sa 29 ?_
 refine sa 30 ?_
 refine sa 31 ?_
 try simp only[nrm]
 refine sa 32 ?_
 refine sa 33 ?_
 refine sa 34 ?_
 try simp only[nrm]
 refine sa 35 ?_
 refine sa 36 ?_
 refine sa 37 ?_
 try simp only[nrm]
 refine sa 38 ?_
 refine sa 39 ?_
 refine sa 40 ?_
 try simp only[nrm]
 refine sa 41 ?_
 refine sa 42 ?_
 refine sa 43 ?_
 try simp only[nrm]
 refine sa 44 ?_
 refine sa 45 ?_
 try simp only[nrm]
 refine ta 46 ?_
 refine ta 47 ?_
 try simp only[nrm]
 refine zL0 V90 ?_ _
 clear HS Al Aa HA
 go_wp2
 go_ret
 exact⟨rfl,aI (y0.trans (b0.mono y0.size)) none⟩):p:=h
theorem U278{p:Prop}(h:p:=by
 refine ta 47 ?_
 try simp only[nrm]
 refine zL0 V90 ?_ _
 clear HS Al Aa HA
 go_wp2
 go_ret
 exact⟨rfl,aI (y0.trans (b0.mono y0.size)) none⟩):p:=h
theorem M9181{p q:Prop}(k:q)(h:Kx q->p:=by
 intro kQ
 have HA:Hid (∀{wl:World},Below w1.heap.size w1 wl->aS wl aa ca 2 (ag.map Ag.fl)):=fun hb=>ha.below (y0.trans (hb.mono y0.size))
 have HS:∀{wl:World},Below w1.heap.size w1 wl->(wl.cell? ⟨(w.heap.size),1,none⟩=some (.slice af nf cf)/\wl.cell? ⟨(w.heap.size+1),0,none⟩=some (.int .i64 kd)/\wl.cell? ⟨(w.heap.size+1),1,none⟩=some (.int .i64 tt)/\wl.cell? ⟨(w.heap.size+1),2,none⟩=some (.int .i64 pp)/\wl.cell? ⟨(w.heap.size+1),3,none⟩=some (.slice aa na ca)/\wl.cell? ⟨(w.heap.size+1),4,none⟩=some (.int .i64 nn)):=fun hb=>⟨aB (x0.k 1) hb,aB (x1.k 0) hb,aB (x1.k 1) hb,aB (x1.k 2) hb,aB (x1.k 3) hb,aB (x1.k 4) hb⟩
 have Al:=HS (wl:=w1.drew) (zD2 _ _).drew
 have b0:Below w1.heap.size w1 w1.drew:=(zD2 _ _).drew
 have hwf:IntKind.i64.wrap ((nf:Int)-1)=(nf:Int)-1:=by rw[IntKind.wrap_i64];omega
 revert hwf;revert b0;revert Al;revert HS;revert HA
 exact kQ.o):p:=h ⟨k⟩
theorem M910{p q:Prop}(k:q)(h:Kx q->p:=by
 intro kQ
 try simp only[nrm]
 refine ta 3 ?_
 refine ta 4 ?_
 refine ta 5 ?_
 try simp only[nrm]
 refine ta 6 ?_
 refine ta 7 ?_
 refine ta 8 ?_
 try simp only[nrm]
 refine ta 9 ?_
 exact kQ.o):p:=h ⟨k⟩
theorem M9185{p q:Prop}(k:q)(h:Kx q->p:=by
 intro kQ
 have h9:=hf.len9
 rw[zB2,hfl]at h9
 have h8:=ha.len9
 rw[zB2,hal]at h8
 have x0:=(Blk.new w 33 [mv,.slice af nf cf,sv]).old (o:=.cells #[.int .i64 kd,.int .i64 tt,.int .i64 pp,.slice aa na ca,.int .i64 nn] 56 (0,0))
 have x1:=Blk.new (w.alloc (.cells #[mv,.slice af nf cf,sv] 33 (0,0))) 56 [.int .i64 kd,.int .i64 tt,.int .i64 pp,.slice aa na ca,.int .i64 nn]
 have y0:Below w.heap.size w ((w.alloc (.cells #[mv,.slice af nf cf,sv] 33 (0,0))).alloc (.cells #[.int .i64 kd,.int .i64 tt,.int .i64 pp,.slice aa na ca,.int .i64 nn] 56 (0,0))):=((zD2 _ _).alloc (zB0 _) _).alloc V15 _
 revert y0;revert x1;revert x0;revert h8;revert h9
 exact kQ.o):p:=h ⟨k⟩
theorem M946{p q:Prop}(k:q)(h:Kx q->p:=by
 intro kQ
 try simp only[nrm]
 refine ta 18 ?_
 refine ta 19 ?_
 refine ta 20 ?_
 try simp only[nrm]
 refine ta 21 ?_
 refine ta 22 ?_
 refine ta 23 ?_
 try simp only[nrm]
 refine ta 24 ?_
 refine ta 25 ?_
 refine ta 26 ?_
 try simp only[nrm]
 refine ta 27 ?_
 exact kQ.o):p:=h ⟨k⟩
theorem M965{p q:Prop}(k:q)(h:Kx q->p:=by
 intro kQ
 try simp only[nrm]
 refine ta 13 ?_
 refine ta 14 ?_
 refine ta 15 ?_
 try simp only[nrm]
 exact kQ.o):p:=h ⟨k⟩
theorem M989{p q:Prop}(k:q)(h:Kx q->p:=by
 intro kQ
 refine ta 13 ?_
 refine ta 14 ?_
 try simp only[nrm]
 refine sa 15 ?_
 refine sa 16 ?_
 refine sa 17 ?_
 exact kQ.o):p:=h ⟨k⟩
theorem M9131{p q:Prop}(k:q)(h:Kx q->p:=by
 intro kQ
 refine ta 3 ?_
 try simp only[nrm]
 refine sa 4 ?_
 refine sa 5 ?_
 refine sa 6 ?_
 try simp only[nrm]
 exact kQ.o):p:=h ⟨k⟩
theorem M9138{p q:Prop}(k:q)(h:Kx q->p:=by
 intro kQ
 try simp only[nrm]
 refine ta 10 ?_
 refine ta 11 ?_
 try simp only[nrm]
 exact kQ.o):p:=h ⟨k⟩
def rng (n lo hi:Int):Bool:=decide (lo<=n) && decide (n<=hi)
def aOj (fs:List Fa)(x:Ac):Bool:=rng x.kind 0 4 && decide (x.args.length<=4) && x.args.all aOk && aOq x.n && (decide (x.kind ≠ 0) || (rng x.to 0 ((fs.length:Int)-1) && rng x.proc 0 (((fs[x.to.toNat]?.getD ⟨[],[]⟩).procs.length:Int)-1)))
theorem aO0 {n lo hi:Int}{b:Bool}(h:rng n lo hi=b)(w:World):
  Calls Tryz.prog 23 #[.int .i64 n,.int .i64 lo,.int .i64 hi] w fun e w'=>e=.returned (.bool b)/\w'=w:=by subst h;exact gL n lo hi w
theorem aRf {n:Int}{b:Bool}(h:aOq n=b)(w:World):Calls Tryz.prog 55 #[.int .i64 n] w fun e w'=>e=.returned (.bool b)/\w'=w:=by subst h;exact aQk n w
theorem aPu {a:Option Addr}{c:Nat}{l:List Ag}{n:Nat}{w:World}{b:Bool}(hb:l.all aOk=b)(hn:l.length=n)(h:aS w a c 2 (l.map Ag.fl)):
  Calls Tryz.prog 53 #[.slice a n c,.func (.func 54) #[] #[]] w fun e w'=>e=.returned (.bool b)/\w.grownBy w' none:=by subst hb;exact aQ0 a c l n w hn h
theorem aRa (fs:List Fa)(mv sv:Value)(af:Option Addr)(nf cf:Nat)(kd tt pp:Int)(ag:List Ag)(aa:Option Addr)(na ca:Nat)(nn:Int)(w:World)(hf:aS w af cf 2 (fs.map Fa.fl))(hfl:fs.length=nf)(ha:aS w aa ca 2 (ag.map Ag.fl))(hal:ag.length=na)
  (hk:rng kd 0 4=false):
  Calls Tryz.prog 27 #[.agg #[mv,.slice af nf cf,sv],.agg #[.int .i64 kd,.int .i64 tt,.int .i64 pp,.slice aa na ca,.int .i64 nn]] w fun e w'=>e=.returned (.bool false)/\w.grownBy w' none:=by
 refine M9185 ?_;intro h9 h8 x0 x1 y0
 rw[show(w.alloc (.cells #[mv,.slice af nf cf,sv] 33 (0,0))).heap.size=w.heap.size+1 by simp]at x1
 go_enter Tryz.func27,Tryz.ntmps27;go_upto_region 1 with fail;simp only[List.toArray]at x0 x1 y0;generalize (w.alloc (.cells #[mv,.slice af nf cf,sv] 33 (0,0))).alloc (.cells #[.int .i64 kd,.int .i64 tt,.int .i64 pp,.slice aa na ca,.int .i64 nn] 56 (0,0))=w1 at *;refine M9181 ?_;intro HA HS Al b0 hwf;clear x0 x1 ha hf;generalize hga:w.heap.size+1=ga at HS Al ⊢;generalize Aq:w.heap.size=gw at HS Al ⊢;clear hga
 refine zK3 (S:=fun wl=>(wl.cell? ⟨gw,1,none⟩=some (.slice af nf cf)/\wl.cell? ⟨ga,0,none⟩=some (.int .i64 kd)/\wl.cell? ⟨ga,1,none⟩=some (.int .i64 tt)/\wl.cell? ⟨ga,2,none⟩=some (.int .i64 pp)/\wl.cell? ⟨ga,3,none⟩=some (.slice aa na ca)/\wl.cell? ⟨ga,4,none⟩=some (.int .i64 nn))) V90 Al (fun Aa=>?_)
 generalize w1.drew=w2 at *;refine ta 0 ?_;refine ta 1 ?_;try simp only[nrm]
 refine ra 2 fun K hK=>?_
 go_simp
 (with_reducible refine(aO0 hk _).mono ?_)
 rintro e w3 ⟨rfl,rfl⟩;go_wp2_with fail
 refine hK.out _ _ (Al) (fun Aa=>?_)
 clear hK K;try simp only[nrm]
 refine M9131 ?_;refine sa 7 ?_;try simp only[nrm]
 refine ta 8 ?_;refine ta 9 ?_;try simp only[nrm]
 refine sa 10 ?_;refine sa 11 ?_;refine sa 12 ?_;try simp only[nrm]
 refine M989 ?_;exact U269
theorem aQ9 (fs:List Fa)(mv sv:Value)(af:Option Addr)(nf cf:Nat)(kd tt pp:Int)(ag:List Ag)(aa:Option Addr)(na ca:Nat)(nn:Int)(w:World)(hf:aS w af cf 2 (fs.map Fa.fl))(hfl:fs.length=nf)(ha:aS w aa ca 2 (ag.map Ag.fl))(hal:ag.length=na)
  (hk:rng kd 0 4=true) (hl:decide ((na:Int)<=4)=false):
  Calls Tryz.prog 27 #[.agg #[mv,.slice af nf cf,sv],.agg #[.int .i64 kd,.int .i64 tt,.int .i64 pp,.slice aa na ca,.int .i64 nn]] w fun e w'=>e=.returned (.bool false)/\w.grownBy w' none:=by
 refine M9185 ?_;intro h9 h8 x0 x1 y0
 rw[show(w.alloc (.cells #[mv,.slice af nf cf,sv] 33 (0,0))).heap.size=w.heap.size+1 by simp]at x1
 go_enter Tryz.func27,Tryz.ntmps27;go_upto_region 1 with fail;simp only[List.toArray]at x0 x1 y0;generalize (w.alloc (.cells #[mv,.slice af nf cf,sv] 33 (0,0))).alloc (.cells #[.int .i64 kd,.int .i64 tt,.int .i64 pp,.slice aa na ca,.int .i64 nn] 56 (0,0))=w1 at *;refine M9181 ?_;intro HA HS Al b0 hwf;clear x0 x1 ha hf;generalize hga:w.heap.size+1=ga at HS Al ⊢;generalize Aq:w.heap.size=gw at HS Al ⊢;clear hga
 refine zK3 (S:=fun wl=>(wl.cell? ⟨gw,1,none⟩=some (.slice af nf cf)/\wl.cell? ⟨ga,0,none⟩=some (.int .i64 kd)/\wl.cell? ⟨ga,1,none⟩=some (.int .i64 tt)/\wl.cell? ⟨ga,2,none⟩=some (.int .i64 pp)/\wl.cell? ⟨ga,3,none⟩=some (.slice aa na ca)/\wl.cell? ⟨ga,4,none⟩=some (.int .i64 nn))) V90 Al (fun Aa=>?_)
 generalize w1.drew=w2 at *;refine ta 0 ?_;refine ta 1 ?_;try simp only[nrm]
 refine ra 2 fun K hK=>?_
 go_simp
 (with_reducible refine(aO0 hk _).mono ?_)
 rintro e w3 ⟨rfl,rfl⟩;go_wp2_with fail
 refine hK.out _ _ (Al) (fun Aa=>?_)
 clear hK K;refine M910 ?_;try simp only[nrm]
 refine sa 10 ?_;refine sa 11 ?_;refine sa 12 ?_;try simp only[nrm]
 refine M989 ?_;exact U269
theorem aQa (fs:List Fa)(mv sv:Value)(af:Option Addr)(nf cf:Nat)(kd tt pp:Int)(ag:List Ag)(aa:Option Addr)(na ca:Nat)(nn:Int)(w:World)(hf:aS w af cf 2 (fs.map Fa.fl))(hfl:fs.length=nf)(ha:aS w aa ca 2 (ag.map Ag.fl))(hal:ag.length=na)
  (hk:rng kd 0 4=true) (hl:decide ((na:Int)<=4)=true) (hg:ag.all aOk=false):
  Calls Tryz.prog 27 #[.agg #[mv,.slice af nf cf,sv],.agg #[.int .i64 kd,.int .i64 tt,.int .i64 pp,.slice aa na ca,.int .i64 nn]] w fun e w'=>e=.returned (.bool false)/\w.grownBy w' none:=by
 refine M9185 ?_;intro h9 h8 x0 x1 y0
 rw[show(w.alloc (.cells #[mv,.slice af nf cf,sv] 33 (0,0))).heap.size=w.heap.size+1 by simp]at x1
 go_enter Tryz.func27,Tryz.ntmps27;go_upto_region 1 with fail;simp only[List.toArray]at x0 x1 y0;generalize (w.alloc (.cells #[mv,.slice af nf cf,sv] 33 (0,0))).alloc (.cells #[.int .i64 kd,.int .i64 tt,.int .i64 pp,.slice aa na ca,.int .i64 nn] 56 (0,0))=w1 at *;refine M9181 ?_;intro HA HS Al b0 hwf;clear x0 x1 ha hf;generalize hga:w.heap.size+1=ga at HS Al ⊢;generalize Aq:w.heap.size=gw at HS Al ⊢;clear hga
 refine zK3 (S:=fun wl=>(wl.cell? ⟨gw,1,none⟩=some (.slice af nf cf)/\wl.cell? ⟨ga,0,none⟩=some (.int .i64 kd)/\wl.cell? ⟨ga,1,none⟩=some (.int .i64 tt)/\wl.cell? ⟨ga,2,none⟩=some (.int .i64 pp)/\wl.cell? ⟨ga,3,none⟩=some (.slice aa na ca)/\wl.cell? ⟨ga,4,none⟩=some (.int .i64 nn))) V90 Al (fun Aa=>?_)
 generalize w1.drew=w2 at *;refine ta 0 ?_;refine ta 1 ?_;try simp only[nrm]
 refine ra 2 fun K hK=>?_
 go_simp
 (with_reducible refine(aO0 hk _).mono ?_)
 rintro e w3 ⟨rfl,rfl⟩;go_wp2_with fail
 refine hK.out _ _ (Al) (fun Aa=>?_)
 clear hK K;refine M910 ?_;refine M9138 ?_
 refine ra 12 fun K hK=>?_
 go_simp
 (with_reducible refine(aPu hg hal (HA.out b0)).mono ?_)
 rintro e w4 ⟨rfl,hg1⟩;replace b0:=b0.trans ((aA hg1).mono b0.size);replace Al:=HS b0;go_wp2_with fail
 refine hK.out _ _ (Al) (fun Aa=>?_)
 clear hK K;try simp only[nrm]
 refine M989 ?_;exact U269
theorem aQ8 (fs:List Fa)(mv sv:Value)(af:Option Addr)(nf cf:Nat)(kd tt pp:Int)(ag:List Ag)(aa:Option Addr)(na ca:Nat)(nn:Int)(w:World)(hf:aS w af cf 2 (fs.map Fa.fl))(hfl:fs.length=nf)(ha:aS w aa ca 2 (ag.map Ag.fl))(hal:ag.length=na)
  (hk:rng kd 0 4=true) (hl:decide ((na:Int)<=4)=true) (hg:ag.all aOk=true) (hi:aOq nn=false):
  Calls Tryz.prog 27 #[.agg #[mv,.slice af nf cf,sv],.agg #[.int .i64 kd,.int .i64 tt,.int .i64 pp,.slice aa na ca,.int .i64 nn]] w fun e w'=>e=.returned (.bool false)/\w.grownBy w' none:=by
 refine M9185 ?_;intro h9 h8 x0 x1 y0
 rw[show(w.alloc (.cells #[mv,.slice af nf cf,sv] 33 (0,0))).heap.size=w.heap.size+1 by simp]at x1
 go_enter Tryz.func27,Tryz.ntmps27;go_upto_region 1 with fail;simp only[List.toArray]at x0 x1 y0;generalize (w.alloc (.cells #[mv,.slice af nf cf,sv] 33 (0,0))).alloc (.cells #[.int .i64 kd,.int .i64 tt,.int .i64 pp,.slice aa na ca,.int .i64 nn] 56 (0,0))=w1 at *;refine M9181 ?_;intro HA HS Al b0 hwf;clear x0 x1 ha hf;generalize hga:w.heap.size+1=ga at HS Al ⊢;generalize Aq:w.heap.size=gw at HS Al ⊢;clear hga
 refine zK3 (S:=fun wl=>(wl.cell? ⟨gw,1,none⟩=some (.slice af nf cf)/\wl.cell? ⟨ga,0,none⟩=some (.int .i64 kd)/\wl.cell? ⟨ga,1,none⟩=some (.int .i64 tt)/\wl.cell? ⟨ga,2,none⟩=some (.int .i64 pp)/\wl.cell? ⟨ga,3,none⟩=some (.slice aa na ca)/\wl.cell? ⟨ga,4,none⟩=some (.int .i64 nn))) V90 Al (fun Aa=>?_)
 generalize w1.drew=w2 at *;refine ta 0 ?_;refine ta 1 ?_;try simp only[nrm]
 refine ra 2 fun K hK=>?_
 go_simp
 (with_reducible refine(aO0 hk _).mono ?_)
 rintro e w3 ⟨rfl,rfl⟩;go_wp2_with fail
 refine hK.out _ _ (Al) (fun Aa=>?_)
 clear hK K;refine M910 ?_;refine M9138 ?_
 refine ra 12 fun K hK=>?_
 go_simp
 (with_reducible refine(aPu hg hal (HA.out b0)).mono ?_)
 rintro e w4 ⟨rfl,hg1⟩;replace b0:=b0.trans ((aA hg1).mono b0.size);replace Al:=HS b0;go_wp2_with fail
 refine hK.out _ _ (Al) (fun Aa=>?_)
 clear hK K;refine M965 ?_;refine ta 16 ?_;try simp only[nrm]
 refine ra 17 fun K hK=>?_
 go_simp
 (with_reducible refine(aRf hi _).mono ?_)
 rintro e w5 ⟨rfl,rfl⟩;go_wp2_with fail
 refine hK.out _ _ (Al) (fun Aa=>?_)
 clear hK K;exact U269
theorem aQ7 (fs:List Fa)(mv sv:Value)(af:Option Addr)(nf cf:Nat)(kd tt pp:Int)(ag:List Ag)(aa:Option Addr)(na ca:Nat)(nn:Int)(w:World)(hf:aS w af cf 2 (fs.map Fa.fl))(hfl:fs.length=nf)(ha:aS w aa ca 2 (ag.map Ag.fl))(hal:ag.length=na)
  (hk:rng kd 0 4=true) (hl:decide ((na:Int)<=4)=true) (hg:ag.all aOk=true) (hi:aOq nn=true) (hz:(kd != 0)=true):
  Calls Tryz.prog 27 #[.agg #[mv,.slice af nf cf,sv],.agg #[.int .i64 kd,.int .i64 tt,.int .i64 pp,.slice aa na ca,.int .i64 nn]] w fun e w'=>e=.returned (.bool true)/\w.grownBy w' none:=by
 refine M9185 ?_;intro h9 h8 x0 x1 y0
 rw[show(w.alloc (.cells #[mv,.slice af nf cf,sv] 33 (0,0))).heap.size=w.heap.size+1 by simp]at x1
 go_enter Tryz.func27,Tryz.ntmps27;go_upto_region 1 with fail;simp only[List.toArray]at x0 x1 y0;generalize (w.alloc (.cells #[mv,.slice af nf cf,sv] 33 (0,0))).alloc (.cells #[.int .i64 kd,.int .i64 tt,.int .i64 pp,.slice aa na ca,.int .i64 nn] 56 (0,0))=w1 at *;refine M9181 ?_;intro HA HS Al b0 hwf;clear x0 x1 ha hf;generalize hga:w.heap.size+1=ga at HS Al ⊢;generalize Aq:w.heap.size=gw at HS Al ⊢;clear hga
 refine zK3 (S:=fun wl=>(wl.cell? ⟨gw,1,none⟩=some (.slice af nf cf)/\wl.cell? ⟨ga,0,none⟩=some (.int .i64 kd)/\wl.cell? ⟨ga,1,none⟩=some (.int .i64 tt)/\wl.cell? ⟨ga,2,none⟩=some (.int .i64 pp)/\wl.cell? ⟨ga,3,none⟩=some (.slice aa na ca)/\wl.cell? ⟨ga,4,none⟩=some (.int .i64 nn))) V90 Al (fun Aa=>?_)
 generalize w1.drew=w2 at *;refine ta 0 ?_;refine ta 1 ?_;try simp only[nrm]
 refine ra 2 fun K hK=>?_
 go_simp
 (with_reducible refine(aO0 hk _).mono ?_)
 rintro e w3 ⟨rfl,rfl⟩;go_wp2_with fail
 refine hK.out _ _ (Al) (fun Aa=>?_)
 clear hK K;refine M910 ?_;refine M9138 ?_
 refine ra 12 fun K hK=>?_
 go_simp
 (with_reducible refine(aPu hg hal (HA.out b0)).mono ?_)
 rintro e w4 ⟨rfl,hg1⟩;replace b0:=b0.trans ((aA hg1).mono b0.size);replace Al:=HS b0;go_wp2_with fail
 refine hK.out _ _ (Al) (fun Aa=>?_)
 clear hK K;refine M965 ?_;refine ta 16 ?_;try simp only[nrm]
 refine ra 17 fun K hK=>?_
 go_simp
 (with_reducible refine(aRf hi _).mono ?_)
 rintro e w5 ⟨rfl,rfl⟩;go_wp2_with fail
 refine hK.out _ _ (Al) (fun Aa=>?_)
 clear hK K;try simp only[nrm]
 refine ta 18 ?_;refine ta 19 ?_;refine ta 20 ?_;try simp only[nrm]
 refine ta 21 ?_;refine ta 22 ?_;refine ta 23 ?_;try simp only[nrm]
 refine sa 24 ?_;refine sa 25 ?_;refine sa 26 ?_;try simp only[nrm]
 refine sa 27 ?_;refine sa 28 ?_;refine sa 29 ?_;try simp only[nrm]
 refine sa 30 ?_;refine sa 31 ?_;refine sa 32 ?_;try simp only[nrm]
 refine sa 33 ?_;refine sa 34 ?_;refine sa 35 ?_;try simp only[nrm]
 refine sa 36 ?_;refine sa 37 ?_;refine sa 38 ?_;try simp only[nrm]
 refine sa 39 ?_;refine sa 40 ?_;refine sa 41 ?_;try simp only[nrm]
 refine sa 42 ?_;refine sa 43 ?_;refine sa 44 ?_;try simp only[nrm]
 refine ta 45 ?_;refine ta 46 ?_;exact U278
theorem aQ6 (fs:List Fa)(mv sv:Value)(af:Option Addr)(nf cf:Nat)(kd tt pp:Int)(ag:List Ag)(aa:Option Addr)(na ca:Nat)(nn:Int)(w:World)(hf:aS w af cf 2 (fs.map Fa.fl))(hfl:fs.length=nf)(ha:aS w aa ca 2 (ag.map Ag.fl))(hal:ag.length=na)
  (hk:rng kd 0 4=true) (hl:decide ((na:Int)<=4)=true) (hg:ag.all aOk=true) (hi:aOq nn=true) (hz:(kd != 0)=false) (ht:rng tt 0 ((nf:Int)-1)=false):
  Calls Tryz.prog 27 #[.agg #[mv,.slice af nf cf,sv],.agg #[.int .i64 kd,.int .i64 tt,.int .i64 pp,.slice aa na ca,.int .i64 nn]] w fun e w'=>e=.returned (.bool false)/\w.grownBy w' none:=by
 refine M9185 ?_;intro h9 h8 x0 x1 y0
 rw[show(w.alloc (.cells #[mv,.slice af nf cf,sv] 33 (0,0))).heap.size=w.heap.size+1 by simp]at x1
 go_enter Tryz.func27,Tryz.ntmps27;go_upto_region 1 with fail;simp only[List.toArray]at x0 x1 y0;generalize (w.alloc (.cells #[mv,.slice af nf cf,sv] 33 (0,0))).alloc (.cells #[.int .i64 kd,.int .i64 tt,.int .i64 pp,.slice aa na ca,.int .i64 nn] 56 (0,0))=w1 at *;refine M9181 ?_;intro HA HS Al b0 hwf;clear x0 x1 ha hf;generalize hga:w.heap.size+1=ga at HS Al ⊢;generalize Aq:w.heap.size=gw at HS Al ⊢;clear hga
 refine zK3 (S:=fun wl=>(wl.cell? ⟨gw,1,none⟩=some (.slice af nf cf)/\wl.cell? ⟨ga,0,none⟩=some (.int .i64 kd)/\wl.cell? ⟨ga,1,none⟩=some (.int .i64 tt)/\wl.cell? ⟨ga,2,none⟩=some (.int .i64 pp)/\wl.cell? ⟨ga,3,none⟩=some (.slice aa na ca)/\wl.cell? ⟨ga,4,none⟩=some (.int .i64 nn))) V90 Al (fun Aa=>?_)
 generalize w1.drew=w2 at *;refine ta 0 ?_;refine ta 1 ?_;try simp only[nrm]
 refine ra 2 fun K hK=>?_
 go_simp
 (with_reducible refine(aO0 hk _).mono ?_)
 rintro e w3 ⟨rfl,rfl⟩;go_wp2_with fail
 refine hK.out _ _ (Al) (fun Aa=>?_)
 clear hK K;refine M910 ?_;refine M9138 ?_
 refine ra 12 fun K hK=>?_
 go_simp
 (with_reducible refine(aPu hg hal (HA.out b0)).mono ?_)
 rintro e w4 ⟨rfl,hg1⟩;replace b0:=b0.trans ((aA hg1).mono b0.size);replace Al:=HS b0;go_wp2_with fail
 refine hK.out _ _ (Al) (fun Aa=>?_)
 clear hK K;refine M965 ?_;refine ta 16 ?_;try simp only[nrm]
 refine ra 17 fun K hK=>?_
 go_simp
 (with_reducible refine(aRf hi _).mono ?_)
 rintro e w5 ⟨rfl,rfl⟩;go_wp2_with fail
 refine hK.out _ _ (Al) (fun Aa=>?_)
 clear hK K;refine M946 ?_;refine ta 28 ?_;refine ta 29 ?_;try simp only[nrm]
 try simp only[hwf]
 refine ra 30 fun K hK=>?_
 go_simp
 (with_reducible refine(aO0 ht _).mono ?_)
 rintro e w6 ⟨rfl,rfl⟩;go_wp2_with fail
 refine hK.out _ _ (Al) (fun Aa=>?_)
 clear hK K;try simp only[nrm]
 refine ta 31 ?_;try simp only[nrm]
 refine sa 32 ?_;refine sa 33 ?_;refine sa 34 ?_;try simp only[nrm]
 refine sa 35 ?_;refine sa 36 ?_;refine sa 37 ?_;try simp only[nrm]
 refine sa 38 ?_;refine sa 39 ?_;refine sa 40 ?_;try simp only[nrm]
 refine sa 41 ?_;refine sa 42 ?_;refine sa 43 ?_;try simp only[nrm]
 refine ta 44 ?_;refine ta 45 ?_;refine ta 46 ?_;try simp only[nrm]
 exact U278
theorem aQ5 (fs:List Fa)(mv sv:Value)(bf off:Nat)(nf cf:Nat)(kd pp:Int)(tn:Nat)(ag:List Ag)(aa:Option Addr)(na ca:Nat)(nn:Int)(w:World)(hf:aS w (some ⟨bf,off,none⟩) cf 2 (fs.map Fa.fl))(hfl:fs.length=nf)(ha:aS w aa ca 2 (ag.map Ag.fl))(hal:ag.length=na)
  (hk:rng kd 0 4=true) (hl:decide ((na:Int)<=4)=true) (hg:ag.all aOk=true) (hi:aOq nn=true) (hz:(kd != 0)=false) (ht:rng (tn:Int) 0 ((nf:Int)-1)=true) (ap:Option Addr) (np cp:Nat) (hnp:np<=9223372036854775807) (htn:tn<nf) (hc:w.cell? ⟨bf,off+tn*2+1,none⟩=some (.slice ap np cp)) (hp:rng pp 0 ((np:Int)-1)=false):
  Calls Tryz.prog 27 #[.agg #[mv,.slice (some ⟨bf,off,none⟩) nf cf,sv],.agg #[.int .i64 kd,.int .i64 (tn:Int),.int .i64 pp,.slice aa na ca,.int .i64 nn]] w fun e w'=>e=.returned (.bool false)/\w.grownBy w' none:=by
 have h9:=hf.len9;exact U265
theorem aQ4 (fs:List Fa)(mv sv:Value)(bf off:Nat)(nf cf:Nat)(kd pp:Int)(tn:Nat)(ag:List Ag)(aa:Option Addr)(na ca:Nat)(nn:Int)(w:World)(hf:aS w (some ⟨bf,off,none⟩) cf 2 (fs.map Fa.fl))(hfl:fs.length=nf)(ha:aS w aa ca 2 (ag.map Ag.fl))(hal:ag.length=na)
  (hk:rng kd 0 4=true) (hl:decide ((na:Int)<=4)=true) (hg:ag.all aOk=true) (hi:aOq nn=true) (hz:(kd != 0)=false) (ht:rng (tn:Int) 0 ((nf:Int)-1)=true) (ap:Option Addr) (np cp:Nat) (hnp:np<=9223372036854775807) (htn:tn<nf) (hc:w.cell? ⟨bf,off+tn*2+1,none⟩=some (.slice ap np cp)) (hp:rng pp 0 ((np:Int)-1)=true):
  Calls Tryz.prog 27 #[.agg #[mv,.slice (some ⟨bf,off,none⟩) nf cf,sv],.agg #[.int .i64 kd,.int .i64 (tn:Int),.int .i64 pp,.slice aa na ca,.int .i64 nn]] w fun e w'=>e=.returned (.bool true)/\w.grownBy w' none:=by
 have h9:=hf.len9;exact U265
theorem aQo (fs:List Fa)(mv sv:Value)(af:Option Addr)(nf cf:Nat)(x:Ac)(vs:List Value)(w:World)(hf:aS w af cf 2 (fs.map Fa.fl))(hfl:fs.length=nf)(hx:aO w x.fl vs):
  Calls Tryz.prog 27 #[.agg #[mv,.slice af nf cf,sv],.agg vs.toArray] w fun e w'=>e=.returned (.bool (aOj fs x))/\w.grownBy w' none:=by
 obtain⟨kd,tt,pp,ag,nn⟩:=x;obtain⟨y0,_,rfl,rfl,y1,_,rfl,rfl,y2,_,rfl,rfl,y3,_,rfl,h3,y4,_,rfl,rfl,rfl⟩:=hx;obtain⟨aa,ca,rfl,ha⟩:=h3.list;rw[zB2];clear h3
 cases hk:rng kd 0 4
 .
  rw[show aOj fs ⟨kd,tt,pp,ag,nn⟩=false by simp[aOj,hk]]
  exact aRa fs mv sv af nf cf kd tt pp ag aa _ ca nn w hf hfl ha rfl hk
 by_cases hl:ag.length<=4
 case neg=>
  rw[show aOj fs ⟨kd,tt,pp,ag,nn⟩=false by simp[aOj,hl]]
  have hl0:decide ((ag.length:Int)<=4)=false:=zC2 V6
  exact aQ9 fs mv sv af nf cf kd tt pp ag aa _ ca nn w hf hfl ha rfl hk hl0
 have hl':decide ((ag.length:Int)<=4)=true:=zB3 V6
 cases hg:ag.all aOk
 .
  rw[show aOj fs ⟨kd,tt,pp,ag,nn⟩=false by unfold aOj;dsimp only;rw[hg];simp]
  exact aQa fs mv sv af nf cf kd tt pp ag aa _ ca nn w hf hfl ha rfl hk hl' hg
 cases hi:aOq nn
 .
  rw[show aOj fs ⟨kd,tt,pp,ag,nn⟩=false by simp[aOj,hi]]
  exact aQ8 fs mv sv af nf cf kd tt pp ag aa _ ca nn w hf hfl ha rfl hk hl' hg hi
 have e:aOj fs ⟨kd,tt,pp,ag,nn⟩=(decide (kd ≠ 0) || (rng tt 0 ((fs.length:Int)-1) && rng pp 0 (((fs[tt.toNat]?.getD ⟨[],[]⟩).procs.length:Int)-1))):=by unfold aOj;dsimp only;rw[hk,hg,hi,zB3 hl];rfl
 rw[e,hfl]
 by_cases hz:kd=0
 case neg=>
  rw[zB3 hz,Bool.true_or]
  exact aQ7 fs mv sv af nf cf kd tt pp ag aa _ ca nn w hf hfl ha rfl hk hl' hg hi (by simpa using hz)
 rw[show decide (kd ≠ 0)=false by simp[hz],Bool.false_or]
 have hz':(kd != 0)=false:=by simp[hz]
 cases ht:rng tt 0 ((nf:Int)-1)
 .
  rw[Bool.false_and];exact aQ6 fs mv sv af nf cf kd tt pp ag aa _ ca nn w hf hfl ha rfl hk hl' hg hi hz' ht
 rw[Bool.true_and];have ht2:=ht;simp only[rng,zC0,zE3]at ht2;obtain⟨tn,rfl⟩:=Int.eq_ofNat_of_zero_le ht2.1;have htn:tn<nf:=V6
 obtain⟨f,hfx⟩:∃f,fs[tn]?=some f:=⟨_,zA0 (by rw[hfl];exact htn)⟩
 obtain⟨b,off,ys,rfl,hys,Ab⟩:=aS.cellsAt hf (show(fs.map Fa.fl)[tn]?=some f.fl by rw[zA2,hfx];rfl)
 obtain⟨s0,_,rfl,_,s1,_,rfl,hs1,rfl⟩:=hys;obtain⟨aq,cq,rfl,hQ⟩:=hs1.list;have hc:=Ab 1 _ rfl;have h7:=hQ.len9;rw[zB2]at hc h7
 rw[show fs[(tn:Int).toNat]?.getD ⟨[],[]⟩=f by rw[Int.toNat_natCast,hfx];rfl]
 cases hp:rng pp 0 ((f.procs.length:Int)-1)
 .
  exact aQ5 fs mv sv b off nf cf kd pp tn ag aa _ ca nn w hf hfl ha rfl hk hl' hg hi hz' ht aq _ cq h7 htn hc hp
 .
  exact aQ4 fs mv sv b off nf cf kd pp tn ag aa _ ca nn w hf hfl ha rfl hk hl' hg hi hz' ht aq _ cq h7 htn hc hp
end Go.Proofs.YtegkhlkjfeafjaaGreatDoor

import Derived.Test.YtffphdacgblaoaaGreatDoorPackM
namespace Go.Proofs.YtffphdacgblaoaaGreatDoor
set_option maxHeartbeats 4000000
open Go.RowKit
set_option linter.unusedVariables false
set_option linter.unusedSimpArgs false
set_option maxRecDepth 100000
theorem U78{p:Prop}(h:p:=by
 have:=aX (List.mem_map_of_mem (f:=fun x=>[Fl.b x]) hx)
 simp only[aL,Fl.len]at this
 unfold dC at h
 omega):p:=h
theorem M949{p q:Prop}(k:q)(h:Kx q->p:=by
 intro kQ
 have k1:(dC m.uses).length=m.uses.length:=by simp[dC]
 have k2:(m.vars.map Va.fl).length=m.vars.length:=by simp
 have k3:(m.procs.map Pr.fl).length=m.procs.length:=by simp
 revert k3;revert k2;revert k1
 exact kQ.o):p:=h ⟨k⟩
theorem zC {q:Pr}(h:aL q.fl<=1048576):q.name.length<=1073741824/\(∀x ∈ q.params,x.name.length<=1073741824)/\(∀x ∈ q.locals,x.length<=1073741824)/\aH (sts q.body)<=1048576:=by
 have e2:aL q.fl=q.name.length+((q.params.map Pa.fl).length+aH (q.params.map Pa.fl))+((dC q.locals).length+aH (dC q.locals))+((sts q.body).length+aH (sts q.body)):=by simp[Pr.fl,aL,Fl.len] <;> omega
 rw[e2]at h
 refine⟨by omega,fun x hx=>?_,fun x hx=>?_,by omega⟩
 .
  have:=aX (List.mem_map_of_mem (f:=Pa.fl) hx)
  simp only[Pa.fl,aL,Fl.len]at this
  omega
 .
  exact U78
theorem aRc (q:Pr)(vs:List Value)(w:World)(h:cC w q.fl vs)(hs:aL q.fl<=1048576):
  Calls Tryz.prog 102 #[agg vs] w fun e w'=>e=.returned (.bool (kH q))/\w.grownBy w' none:=by
 obtain⟨hs0,hs2,hs3,_⟩:=zC hs;clear hs;obtain⟨y0,_,rfl,⟨a0,c0,rfl,h0,hc0,_⟩,y1,_,rfl,rfl,y2,_,rfl,h2',y3,_,rfl,h3',y4,_,rfl,Be,rfl⟩:=h;obtain⟨a2,c2,rfl,h2⟩:=h2'.list;obtain⟨a3,c3,rfl,h3⟩:=h3'.list;obtain⟨a4,c4,rfl,h4⟩:=Be.list;clear h2' h3' Be
 have k2:(q.params.map Pa.fl).length=q.params.length:=by simp
 have k3:(dC q.locals).length=q.locals.length:=by simp[dC]
 have k4:(sts q.body).length=q.body.length:=by simp[bL]
 have n2:q.params.length<=9223372036854775807:=by have h5:=h2.cap;have h6:=h2.most;unfold maxLen at h6;omega
 have n3:q.locals.length<=9223372036854775807:=by have h5:=h3.cap;have h6:=h3.most;unfold maxLen at h6;omega
 rw[k2,k3,k4];clear h4 k2 k3 k4;simp only[agg];have yy:=aB w (.cells #[.slice a0 q.name.length c0,.bool q.opn,.slice a2 q.params.length c2,.slice a3 q.locals.length c3,.slice a4 q.body.length c4] 55 (0,0)) none;have hb:=aA yy;have x0:=Blk.new w 55 [.slice a0 q.name.length c0,.bool q.opn,.slice a2 q.params.length c2,.slice a3 q.locals.length c3,.slice a4 q.body.length c4]
 have hfe:Hid (kH q=(aK q.name false && decide (q.params.length<=4) && q.params.all aDl && decide (q.locals.length<=8) && q.locals.all jU)):=rfl
 generalize kH q=TG at *;go_enter Tryz.func102,Tryz.ntmps102;go_upto_region 1 with fail;generalize w.alloc (.cells #[.slice a0 q.name.length c0,.bool q.opn,.slice a2 q.params.length c2,.slice a3 q.locals.length c3,.slice a4 q.body.length c4] 55 (0,0))=w1 at *;obtain⟨q0,q1,q2,q3,q4⟩:=x0.c5;have HQ:=eH a0 q.name.length c0 q.name false w1 (h0.below hb) hs0 hc0;generalize aK q.name false=r at *;go_wp2_with fail;refine HQ.mono ?_;rintro e w2 ⟨rfl,hg⟩;clear HQ q0 q1 q2 q3 q4
 replace hg:w1.grownBy w2 none:=by rw[hg];exact aR _ _
 replace x0:=x0.below (aA hg) x0.lt;replace yy:=aD yy hg
 replace hb:Below w.heap.size w w2:=hb.trans ((aA hg).mono hb.size)
 clear hg;obtain⟨q0,q1,q2,q3,q4⟩:=x0.c5;cases r
 .
  have he:Hid (TG=false):=by show _=_;rw[hfe.out];simp
  clear hfe;exact U4
 by_cases hl:q.params.length<=4
 rotate_left
 .
  have he:Hid (TG=false):=by show _=_;rw[hfe.out,zC2 hl];simp
  have hl':¬(q.params.length:Int)<=4:=Q0;clear hfe;exact U4
 have hl':(q.params.length:Int)<=4:=Q0;rw[zB3 hl]at hfe;clear hl;have HQ:=aGp a2 c2 q.params w2 (h2.below hb) hs2;generalize q.params.all aDl=r at *;go_wp2_with fail;refine HQ.mono ?_;rintro e w3 ⟨rfl,hg⟩;clear HQ q0 q1 q2 q3 q4;replace x0:=x0.below (aA hg) x0.lt;replace yy:=aD yy hg
 replace hb:Below w.heap.size w w3:=hb.trans ((aA hg).mono hb.size)
 clear hg;obtain⟨q0,q1,q2,q3,q4⟩:=x0.c5;cases r
 .
  have he:Hid (TG=false):=by show _=_;rw[hfe.out];simp
  clear hfe;exact U4
 by_cases hl:q.locals.length<=8
 rotate_left
 .
  have he:Hid (TG=false):=by show _=_;rw[hfe.out,zC2 hl];simp
  have hl':¬(q.locals.length:Int)<=8:=Q0;clear hfe;exact U4
 have hl':(q.locals.length:Int)<=8:=Q0;rw[zB3 hl]at hfe;clear hl;have HQ:=aGo 126 jU (cQ Tryz.func126 rfl rfl) aNq a3 c3 q.locals w3 (h3.below hb) hs3;generalize q.locals.all jU=r at *;go_wp2_with fail;refine HQ.mono ?_;rintro e w4 ⟨rfl,hg⟩;clear HQ q0 q1 q2 q3 q4;replace x0:=x0.below (aA hg) x0.lt;replace yy:=aD yy hg
 replace hb:Below w.heap.size w w4:=hb.trans ((aA hg).mono hb.size)
 clear hg;obtain⟨q0,q1,q2,q3,q4⟩:=x0.c5;cases r
 .
  have he:Hid (TG=false):=by show _=_;rw[hfe.out];simp
  clear hfe;exact U4
 have he:Hid (TG=true):=by show _=_;rw[hfe.out];simp
 clear hfe;exact U4
theorem aJi (a:Option Addr)(c:Nat)(l:List Pr)(w:World)(h:bQ w a c 5 (l.map Pr.fl))(hs:∀x ∈ l,aL x.fl<=1048576):
  Calls Tryz.prog 42 #[.slice a l.length c,.func (.func 102) #[] #[]] w fun e w'=>e=.returned (.bool (l.all kH))/\w.grownBy w' none:=by
 refine(tN 102 #[] none a l.length c (l.map Pr.fl) (fun j=>kH (l[j]?.getD p0)) (fun _ wr=>w.grownBy wr none) (fun _ _=>True) w ⟨cQ Tryz.func102 rfl rfl,fun j wr hi=>h.below (aA hi), ?_, ?_⟩ Q9 (aR _ _) (fun j w1 w2 h1 h2=>aD h1 h2) Q9 (cQ Tryz.func80 rfl rfl)).mono ?_
 .
  exact U23
 .
  intro j r wr vs hr hi Ai _;rw[zA2]at hr;obtain⟨x,hx,rfl⟩:=zF0.1 hr;rw[hx];refine(aRc x vs wr Ai (hs x (zA3 hx))).mono ?_;exact U27
 .
  rintro e w' ⟨r,rfl,hg,ht⟩;refine⟨aE ?_,hg⟩;rw[gU ht];exact hZ l p0 kH
theorem aJd (q:Pr)(vs:List Value)(w0 w:World)(g n:Nat)(hs:aL q.fl<=1048576)(hT:nF w0)(h:cC w0 q.fl vs)(hb:Below w0.heap.size w0 w)(hg:w0.heap.size<=g)(hc:Cen w g n)(hn:n<=250):
  Calls Tryz.prog 127 #[agg vs,.pointer (some ⟨g,0,none⟩)] w fun e w'=>e=.returned (.bool (cI q.body 1 (250-(n:Int))))/\w.grownBy w' (some g)/\(cI q.body 1 (250-(n:Int))=true->Cen w' g (n+aU q.body)):=by
 obtain⟨_,_,_,hs4⟩:=zC hs;obtain⟨y0,_,rfl,⟨a0,c0,rfl,_⟩,y1,_,rfl,rfl,y2,_,rfl,⟨a2,c2,rfl,_⟩,y3,_,rfl,⟨a3,c3,rfl,_⟩,y4,_,rfl,Be,rfl⟩:=h;obtain⟨a4,c4,rfl,h4⟩:=Be.list;clear Be
 have k4:(sts q.body).length=q.body.length:=by simp[bL]
 rw[k4];generalize (q.params.map Pa.fl).length=m2;generalize (dC q.locals).length=m3;simp only[agg];have yy:=aB w (.cells #[.slice a0 q.name.length c0,.bool q.opn,.slice a2 m2 c2,.slice a3 m3 c3,.slice a4 q.body.length c4] 55 (0,0)) (some g);have x0:=Blk.new w 55 [.slice a0 q.name.length c0,.bool q.opn,.slice a2 m2 c2,.slice a3 m3 c3,.slice a4 q.body.length c4]
 have hb1:Below w0.heap.size w0 (w.alloc (.cells #[.slice a0 q.name.length c0,.bool q.opn,.slice a2 m2 c2,.slice a3 m3 c3,.slice a4 q.body.length c4] 55 (0,0))):=hb.alloc hb.size _
 have H:=yD q.body (aAv q.body hs4) w0 _ a4 c4 g n 1 hT h4 hb1 hg (Blk.old hc) hn Q0 Q0;clear hb1 h4 hc hb;generalize cI q.body 1 (250-(n:Int))=r at *;go_enter Tryz.func127,Tryz.ntmps127;go_upto_region 1 with fail;generalize w.alloc (.cells #[.slice a0 q.name.length c0,.bool q.opn,.slice a2 m2 c2,.slice a3 m3 c3,.slice a4 q.body.length c4] 55 (0,0))=w1 at *;have q4:=x0.k 4;go_wp2_with fail;refine H.mono ?_;rintro e w2 ⟨rfl,hg2,hc2⟩;go_wp2;go_ret;exact⟨rfl,aD yy hg2,hc2⟩
theorem aMs (a:Option Addr)(c:Nat)(l:List Pr)(w:World)(hT:nF w)(h:bQ w a c 5 (l.map Pr.fl))(hs:∀x ∈ l,aL x.fl<=1048576):
  Calls Tryz.prog 103 #[.slice a l.length c] w fun e w'=>e=.returned (.bool (kW l 250))/\w.grownBy w' none:=by
 have y0:=aB w (.cells #[.int .i64 0] 162 (0,0)) none
 have hc:Cen (w.alloc (.cells #[.int .i64 0] 162 (0,0))) w.heap.size 0:=Blk.new w 162 [.int .i64 0]
 have HC:Calls Tryz.prog 42 #[.slice a l.length c,.func (.func 127) #[] #[.pointer (some ⟨w.heap.size,0,none⟩)]] (w.alloc (.cells #[.int .i64 0] 162 (0,0))) fun e w'=>e=.returned (.bool (kW l 250))/\w.grownBy w' none:=by
  have hb:=aA y0;generalize w.alloc (.cells #[.int .i64 0] 162 (0,0))=W at *
  refine(tN 127 _ (some w.heap.size) a l.length c (l.map Pr.fl) (fun j=>cI (l[j]?.getD p0).body 1 (250-(gE (l.take j):Int))) (fun j wr=>Below w.heap.size w wr/\(gE (l.take j):Int)<=250/\Cen wr w.heap.size (gE (l.take j))) (fun _ wr=>Below w.heap.size w wr) W
   ⟨cQ Tryz.func127 rfl rfl,fun j wr hi=>h.below hi.1, ?_, ?_⟩ Q9 ⟨hb,by simp[gE],by simpa [gE] using hc⟩ ?_ Q60 (cQ Tryz.func80 rfl rfl)).mono ?_
  .
   exact U23
  .
   intro j r wr vs hj hi Ai hca;have hj0:=hj;obtain⟨hi1,hi2,hi3⟩:=hi;rw[zA2]at hj;obtain⟨x,hx,rfl⟩:=zF0.1 hj;have hv0:=jM h hi1 hj0 Ai.len hca;rw[hx];simp only[zI1];refine(aJd x vs w wr w.heap.size (gE (l.take j)) (hs x (zA3 hx)) hT hv0 hi1 (zB0 _) hi3 Q0).mono ?_;rintro e w' ⟨rfl,Bf,hcen⟩;have hb':=bZ hi1 Bf (zB0 _)
   refine⟨rfl,Bf,fun h=>?_,fun _=>hb'⟩
   rw[rJ hx];have hle:=eR h
   exact⟨hb',by omega,hcen h⟩
  .
   rintro j w1 w2 ⟨h1,h2,h3⟩ Az;have hbb:=aA Az;exact⟨h1.trans (hbb.mono h1.size),h2,Blk.below h3 hbb (Blk.lt h3)⟩
  .
   rintro e w' ⟨r,rfl,Bf,ht⟩;refine⟨aE (gU ht), ?_⟩
   cases r with
   | false=>
    obtain⟨j,hj,hp,_,hq⟩:=ht.yes rfl;exact aW hq none
   | true=>exact aW (ht.no rfl).2.1 none
 clear h hs hc;go_enter Tryz.func103,Tryz.ntmps103;go_wp2_with fail;refine HC.mono ?_;rintro e w3 ⟨rfl,h1⟩;go_wp2;go_ret;exact⟨rfl,h1⟩
theorem aH9 {m:Mo}(h:aL m.fl<=1048576):m.name.length<=1073741824/\(∀x ∈ m.uses,x.length<=1073741824)/\(∀x ∈ m.vars,x.name.length<=1073741824)/\(∀x ∈ m.procs,aL x.fl<=1048576):=by
 have e:aL m.fl=m.name.length+((dC m.uses).length+aH (dC m.uses))+((m.vars.map Va.fl).length+aH (m.vars.map Va.fl))+((m.procs.map Pr.fl).length+aH (m.procs.map Pr.fl)):=by simp[Mo.fl,aL,Fl.len] <;> omega
 rw[e]at h
 refine⟨by omega,fun x hx=>?_,fun x hx=>?_,fun x hx=>?_⟩
 .
  exact U78
 .
  have:=aX (List.mem_map_of_mem (f:=Va.fl) hx)
  simp only[Va.fl,aL,Fl.len]at this
  omega
 .
  have:=aX (List.mem_map_of_mem (f:=Pr.fl) hx)
  omega
theorem aMd (m:Mo)(vs:List Value)(w:World)(hT:nF w)(h:cC w m.fl vs)(hs:aL m.fl<=1048576):
  Calls Tryz.prog 73 #[agg vs] w fun e w'=>e=.returned (.bool (cH m))/\w.grownBy w' none:=by
 obtain⟨hs0,hs1,hs2,hs3⟩:=aH9 hs;clear hs;obtain⟨y0,_,rfl,⟨a0,c0,rfl,h0,hc0,_⟩,y1,_,rfl,h1',y2,_,rfl,h2',y3,_,rfl,h3',rfl⟩:=h;obtain⟨a1,c1,rfl,h1⟩:=h1'.list;obtain⟨a2,c2,rfl,h2⟩:=h2'.list;obtain⟨a3,c3,rfl,h3⟩:=h3'.list;clear h1' h2' h3';refine M949 ?_;intro k1 k2 k3
 have n1:m.uses.length<=9223372036854775807:=by have h5:=h1.cap;have h6:=h1.most;unfold maxLen at h6;omega
 have n2:m.vars.length<=9223372036854775807:=by have h5:=h2.cap;have h6:=h2.most;unfold maxLen at h6;omega
 have n3:m.procs.length<=9223372036854775807:=by have h5:=h3.cap;have h6:=h3.most;unfold maxLen at h6;omega
 rw[k1,k2,k3];clear k1 k2 k3;simp only[agg];have yy:=aB w (.cells #[.slice a0 m.name.length c0,.slice a1 m.uses.length c1,.slice a2 m.vars.length c2,.slice a3 m.procs.length c3] 27 (0,0)) none;have hb:=aA yy;have x0:=Blk.new w 27 [.slice a0 m.name.length c0,.slice a1 m.uses.length c1,.slice a2 m.vars.length c2,.slice a3 m.procs.length c3]
 have hfe:Hid (cH m=(aK m.name true && decide (m.uses.length<=6) && m.uses.all jJ && decide (m.vars.length<=8) && m.vars.all mD && decide (m.procs.length<=8) && m.procs.all kH && kW m.procs 250)):=rfl
 generalize cH m=TG at *;go_enter Tryz.func73,Tryz.ntmps73;go_upto_region 1 with fail;generalize w.alloc (.cells #[.slice a0 m.name.length c0,.slice a1 m.uses.length c1,.slice a2 m.vars.length c2,.slice a3 m.procs.length c3] 27 (0,0))=w1 at *;obtain⟨q0,q1,q2,q3⟩:=x0.c4;have HQ:=eH a0 m.name.length c0 m.name true w1 (h0.below hb) hs0 hc0;generalize aK m.name true=r at *;go_wp2_with fail;refine HQ.mono ?_;rintro e w2 ⟨rfl,hg⟩;clear HQ q0 q1 q2 q3
 replace hg:w1.grownBy w2 none:=by rw[hg];exact aR _ _
 replace x0:=x0.below (aA hg) x0.lt;replace yy:=aD yy hg
 replace hb:Below w.heap.size w w2:=hb.trans ((aA hg).mono hb.size)
 clear hg;obtain⟨q0,q1,q2,q3⟩:=x0.c4;cases r
 .
  have he:Hid (TG=false):=by show _=_;rw[hfe.out];simp
  clear hfe;exact U4
 by_cases hl:m.uses.length<=6
 rotate_left
 .
  have he:Hid (TG=false):=by show _=_;rw[hfe.out,zC2 hl];simp
  have hl':¬(m.uses.length:Int)<=6:=Q0;clear hfe;exact U4
 have hl':(m.uses.length:Int)<=6:=Q0;rw[zB3 hl]at hfe;clear hl;have HQ:=aGo 100 jJ (cQ Tryz.func100 rfl rfl) aO3 a1 c1 m.uses w2 (h1.below hb) hs1;generalize m.uses.all jJ=r at *;go_wp2_with fail;refine HQ.mono ?_;rintro e w3 ⟨rfl,hg⟩;clear HQ q0 q1 q2 q3;replace x0:=x0.below (aA hg) x0.lt;replace yy:=aD yy hg
 replace hb:Below w.heap.size w w3:=hb.trans ((aA hg).mono hb.size)
 clear hg;obtain⟨q0,q1,q2,q3⟩:=x0.c4;cases r
 .
  have he:Hid (TG=false):=by show _=_;rw[hfe.out];simp
  clear hfe;exact U4
 by_cases hl:m.vars.length<=8
 rotate_left
 .
  have he:Hid (TG=false):=by show _=_;rw[hfe.out,zC2 hl];simp
  have hl':¬(m.vars.length:Int)<=8:=Q0;clear hfe;exact U4
 have hl':(m.vars.length:Int)<=8:=Q0;rw[zB3 hl]at hfe;clear hl;have HQ:=aMv a2 c2 m.vars w3 (h2.below hb) hs2;generalize m.vars.all mD=r at *;go_wp2_with fail;refine HQ.mono ?_;rintro e w4 ⟨rfl,hg⟩;clear HQ q0 q1 q2 q3;replace x0:=x0.below (aA hg) x0.lt;replace yy:=aD yy hg
 replace hb:Below w.heap.size w w4:=hb.trans ((aA hg).mono hb.size)
 clear hg;obtain⟨q0,q1,q2,q3⟩:=x0.c4;cases r
 .
  have he:Hid (TG=false):=by show _=_;rw[hfe.out];simp
  clear hfe;exact U4
 by_cases hl:m.procs.length<=8
 rotate_left
 .
  have he:Hid (TG=false):=by show _=_;rw[hfe.out,zC2 hl];simp
  have hl':¬(m.procs.length:Int)<=8:=Q0;clear hfe;exact U4
 have hl':(m.procs.length:Int)<=8:=Q0;rw[zB3 hl]at hfe;clear hl;have HQ:=aJi a3 c3 m.procs w4 (h3.below hb) hs3;generalize m.procs.all kH=r at *;go_wp2_with fail;refine HQ.mono ?_;rintro e w5 ⟨rfl,hg⟩;clear HQ q0 q1 q2 q3;replace x0:=x0.below (aA hg) x0.lt;replace yy:=aD yy hg
 replace hb:Below w.heap.size w w5:=hb.trans ((aA hg).mono hb.size)
 clear hg;obtain⟨q0,q1,q2,q3⟩:=x0.c4;cases r
 .
  have he:Hid (TG=false):=by show _=_;rw[hfe.out];simp
  clear hfe;exact U4
 have HQ:=aMs a3 c3 m.procs w5 (hT.below hb) (h3.below hb) hs3;generalize kW m.procs 250=r at *;go_wp2_with fail;refine HQ.mono ?_;rintro e w6 ⟨rfl,hg⟩;clear HQ q0 q1 q2 q3;replace x0:=x0.below (aA hg) x0.lt;replace yy:=aD yy hg
 replace hb:Below w.heap.size w w6:=hb.trans ((aA hg).mono hb.size)
 clear hg;obtain⟨q0,q1,q2,q3⟩:=x0.c4;cases r
 .
  have he:Hid (TG=false):=by show _=_;rw[hfe.out];simp
  clear hfe;exact U4
 have he:Hid (TG=true):=by show _=_;rw[hfe.out];simp
 clear hfe;exact U4
end Go.Proofs.YtffphdacgblaoaaGreatDoor

import Derived.Test.YtegkhlkjfeafjaaGreatDoorPackM
namespace Go.Proofs.YtegkhlkjfeafjaaGreatDoor
set_option maxHeartbeats 4000000
open Go.RowKit
set_option linter.unusedVariables false
set_option linter.unusedSimpArgs false
set_option maxRecDepth 100000
theorem U138{p:Prop}(h:p:=by
 have:=bK (List.mem_map_of_mem (f:=fun x=>[Fl.b x]) hx)
 simp only[aH,Fl.len]at this
 unfold bH at h
 omega):p:=h
theorem M986{p q:Prop}(k:q)(h:Kx q->p:=by
 intro kQ
 have k1:(bH m.uses).length=m.uses.length:=by simp[bH]
 have k2:(m.vars.map Va.fl).length=m.vars.length:=by simp
 have k3:(m.procs.map Pr.fl).length=m.procs.length:=by simp
 revert k3;revert k2;revert k1
 exact kQ.o):p:=h ⟨k⟩
theorem vU {q:Pr}(h:aH q.fl<=1048576):q.name.length<=1073741824/\(∀x ∈ q.params,x.name.length<=1073741824)/\(∀x ∈ q.locals,x.length<=1073741824)/\aF (sts q.body)<=1048576:=by
 have e2:aH q.fl=q.name.length+((q.params.map Pa.fl).length+aF (q.params.map Pa.fl))+((bH q.locals).length+aF (bH q.locals))+((sts q.body).length+aF (sts q.body)):=by simp[Pr.fl,aH,Fl.len] <;> omega
 rw[e2]at h
 refine⟨by omega,fun x hx=>?_,fun x hx=>?_,by omega⟩
 .
  have:=bK (List.mem_map_of_mem (f:=Pa.fl) hx)
  simp only[Pa.fl,aH,Fl.len]at this
  omega
 .
  exact U138
theorem aL9 (q:Pr)(vs:List Value)(w:World)(h:aO w q.fl vs)(hs:aH q.fl<=1048576):
  Calls Tryz.prog 197 #[agg vs] w fun e w'=>e=.returned (.bool (jU q))/\w.grownBy w' none:=by
 obtain⟨hs0,hs2,hs3,_⟩:=vU hs;clear hs;obtain⟨y0,_,rfl,⟨a0,c0,rfl,h0,hc0,_⟩,y1,_,rfl,rfl,y2,_,rfl,h2',y3,_,rfl,h3',y4,_,rfl,Bl,rfl⟩:=h;obtain⟨a2,c2,rfl,h2⟩:=h2'.list;obtain⟨a3,c3,rfl,h3⟩:=h3'.list;obtain⟨a4,c4,rfl,h4⟩:=Bl.list;clear h2' h3' Bl
 have k2:(q.params.map Pa.fl).length=q.params.length:=by simp
 have k3:(bH q.locals).length=q.locals.length:=by simp[bH]
 have k4:(sts q.body).length=q.body.length:=by simp[aM]
 have n2:q.params.length<=9223372036854775807:=by have h5:=h2.cap;have h6:=h2.most;unfold maxLen at h6;omega
 have n3:q.locals.length<=9223372036854775807:=by have h5:=h3.cap;have h6:=h3.most;unfold maxLen at h6;omega
 rw[k2,k3,k4];clear h4 k2 k3 k4;simp only[agg];have yy:=aC w (.cells #[.slice a0 q.name.length c0,.bool q.opn,.slice a2 q.params.length c2,.slice a3 q.locals.length c3,.slice a4 q.body.length c4] 95 (0,0)) none;have hb:=aA yy;have x0:=Blk.new w 95 [.slice a0 q.name.length c0,.bool q.opn,.slice a2 q.params.length c2,.slice a3 q.locals.length c3,.slice a4 q.body.length c4]
 have hfe:Hid (jU q=(aK q.name false && decide (q.params.length<=4) && q.params.all aAl && decide (q.locals.length<=8) && q.locals.all iR)):=rfl
 generalize jU q=TG at *;go_enter Tryz.func197,Tryz.ntmps197;go_upto_region 1 with fail;generalize w.alloc (.cells #[.slice a0 q.name.length c0,.bool q.opn,.slice a2 q.params.length c2,.slice a3 q.locals.length c3,.slice a4 q.body.length c4] 95 (0,0))=w1 at *;obtain⟨q0,q1,q2,q3,q4⟩:=x0.c5;have HQ:=dX a0 q.name.length c0 q.name false w1 (h0.below hb) hs0 hc0;generalize aK q.name false=r at *;go_wp2_with fail;refine HQ.mono ?_;rintro e w2 ⟨rfl,hg⟩;clear HQ q0 q1 q2 q3 q4
 replace hg:w1.grownBy w2 none:=by rw[hg];exact aN0 _ _
 replace x0:=x0.below (aA hg) x0.lt;replace yy:=aD yy hg
 replace hb:Below w.heap.size w w2:=hb.trans ((aA hg).mono hb.size)
 clear hg;obtain⟨q0,q1,q2,q3,q4⟩:=x0.c5;cases r
 .
  have he:Hid (TG=false):=by show _=_;rw[hfe.out];simp
  clear hfe;exact U270
 by_cases hl:q.params.length<=4
 rotate_left
 .
  have he:Hid (TG=false):=by show _=_;rw[hfe.out,zC2 hl];simp
  have hl':¬(q.params.length:Int)<=4:=V6;clear hfe;exact U270
 have hl':(q.params.length:Int)<=4:=V6;rw[zB3 hl]at hfe;clear hl;have HQ:=aDj a2 c2 q.params w2 (h2.below hb) hs2;generalize q.params.all aAl=r at *;go_wp2_with fail;refine HQ.mono ?_;rintro e w3 ⟨rfl,hg⟩;clear HQ q0 q1 q2 q3 q4;replace x0:=x0.below (aA hg) x0.lt;replace yy:=aD yy hg
 replace hb:Below w.heap.size w w3:=hb.trans ((aA hg).mono hb.size)
 clear hg;obtain⟨q0,q1,q2,q3,q4⟩:=x0.c5;cases r
 .
  have he:Hid (TG=false):=by show _=_;rw[hfe.out];simp
  clear hfe;exact U270
 by_cases hl:q.locals.length<=8
 rotate_left
 .
  have he:Hid (TG=false):=by show _=_;rw[hfe.out,zC2 hl];simp
  have hl':¬(q.locals.length:Int)<=8:=V6;clear hfe;exact U270
 have hl':(q.locals.length:Int)<=8:=V6;rw[zB3 hl]at hfe;clear hl;have HQ:=aDi 216 iR (cK Tryz.func216 rfl rfl) aJ2 a3 c3 q.locals w3 (h3.below hb) hs3;generalize q.locals.all iR=r at *;go_wp2_with fail;refine HQ.mono ?_;rintro e w4 ⟨rfl,hg⟩;clear HQ q0 q1 q2 q3 q4;replace x0:=x0.below (aA hg) x0.lt;replace yy:=aD yy hg
 replace hb:Below w.heap.size w w4:=hb.trans ((aA hg).mono hb.size)
 clear hg;obtain⟨q0,q1,q2,q3,q4⟩:=x0.c5;cases r
 .
  have he:Hid (TG=false):=by show _=_;rw[hfe.out];simp
  clear hfe;exact U270
 have he:Hid (TG=true):=by show _=_;rw[hfe.out];simp
 clear hfe;exact U270
theorem aFr (a:Option Addr)(c:Nat)(l:List Pr)(w:World)(h:aS w a c 5 (l.map Pr.fl))(hs:∀x ∈ l,aH x.fl<=1048576):
  Calls Tryz.prog 145 #[.slice a l.length c,.func (.func 197) #[] #[]] w fun e w'=>e=.returned (.bool (l.all jU))/\w.grownBy w' none:=by
 refine(rM 197 #[] none a l.length c (l.map Pr.fl) (fun j=>jU (l[j]?.getD p0)) (fun _ wr=>w.grownBy wr none) (fun _ _=>True) w ⟨cK Tryz.func197 rfl rfl,fun j wr hi=>h.below (aA hi), ?_, ?_⟩ V15 (aN0 _ _) (fun j w1 w2 h1 h2=>aD h1 h2) V15 (cK Tryz.func176 rfl rfl)).mono ?_
 .
  exact U288
 .
  intro j r wr vs hr hi Ad _;rw[zA2]at hr;obtain⟨x,hx,rfl⟩:=zF0.1 hr;rw[hx];refine(aL9 x vs wr Ad (hs x (zA3 hx))).mono ?_;exact U57
 .
  rintro e w' ⟨r,rfl,hg,ht⟩;refine⟨aE ?_,hg⟩;rw[fV ht];exact fM l p0 jU
theorem aFn (q:Pr)(vs:List Value)(w0 w:World)(g n:Nat)(hs:aH q.fl<=1048576)(hT:kQ w0)(h:aO w0 q.fl vs)(hb:Below w0.heap.size w0 w)(hg:w0.heap.size<=g)(hc:Cen w g n)(hn:n<=250):
  Calls Tryz.prog 217 #[agg vs,.pointer (some ⟨g,0,none⟩)] w fun e w'=>e=.returned (.bool (bP q.body 1 (250-(n:Int))))/\w.grownBy w' (some g)/\(bP q.body 1 (250-(n:Int))=true->Cen w' g (n+aW q.body)):=by
 obtain⟨_,_,_,hs4⟩:=vU hs;obtain⟨y0,_,rfl,⟨a0,c0,rfl,_⟩,y1,_,rfl,rfl,y2,_,rfl,⟨a2,c2,rfl,_⟩,y3,_,rfl,⟨a3,c3,rfl,_⟩,y4,_,rfl,Bl,rfl⟩:=h;obtain⟨a4,c4,rfl,h4⟩:=Bl.list;clear Bl
 have k4:(sts q.body).length=q.body.length:=by simp[aM]
 rw[k4];generalize (q.params.map Pa.fl).length=m2;generalize (bH q.locals).length=m3;simp only[agg];have yy:=aC w (.cells #[.slice a0 q.name.length c0,.bool q.opn,.slice a2 m2 c2,.slice a3 m3 c3,.slice a4 q.body.length c4] 95 (0,0)) (some g);have x0:=Blk.new w 95 [.slice a0 q.name.length c0,.bool q.opn,.slice a2 m2 c2,.slice a3 m3 c3,.slice a4 q.body.length c4]
 have hb1:Below w0.heap.size w0 (w.alloc (.cells #[.slice a0 q.name.length c0,.bool q.opn,.slice a2 m2 c2,.slice a3 m3 c3,.slice a4 q.body.length c4] 95 (0,0))):=hb.alloc hb.size _
 have H:=vF q.body (wW q.body hs4) w0 _ a4 c4 g n 1 hT h4 hb1 hg (Blk.old hc) hn V6 V6;clear hb1 h4 hc hb;generalize bP q.body 1 (250-(n:Int))=r at *;go_enter Tryz.func217,Tryz.ntmps217;go_upto_region 1 with fail;generalize w.alloc (.cells #[.slice a0 q.name.length c0,.bool q.opn,.slice a2 m2 c2,.slice a3 m3 c3,.slice a4 q.body.length c4] 95 (0,0))=w1 at *;have q4:=x0.k 4;go_wp2_with fail;refine H.mono ?_;rintro e w2 ⟨rfl,Be,hc2⟩;go_wp2;go_ret;exact⟨rfl,aD yy Be,hc2⟩
theorem aI9 (a:Option Addr)(c:Nat)(l:List Pr)(w:World)(hT:kQ w)(h:aS w a c 5 (l.map Pr.fl))(hs:∀x ∈ l,aH x.fl<=1048576):
  Calls Tryz.prog 198 #[.slice a l.length c] w fun e w'=>e=.returned (.bool (jW l 250))/\w.grownBy w' none:=by
 have y0:=aC w (.cells #[.int .i64 0] 256 (0,0)) none
 have hc:Cen (w.alloc (.cells #[.int .i64 0] 256 (0,0))) w.heap.size 0:=Blk.new w 256 [.int .i64 0]
 have HC:Calls Tryz.prog 145 #[.slice a l.length c,.func (.func 217) #[] #[.pointer (some ⟨w.heap.size,0,none⟩)]] (w.alloc (.cells #[.int .i64 0] 256 (0,0))) fun e w'=>e=.returned (.bool (jW l 250))/\w.grownBy w' none:=by
  have hb:=aA y0;generalize w.alloc (.cells #[.int .i64 0] 256 (0,0))=W at *
  refine(rM 217 _ (some w.heap.size) a l.length c (l.map Pr.fl) (fun j=>bP (l[j]?.getD p0).body 1 (250-(eZ (l.take j):Int))) (fun j wr=>Below w.heap.size w wr/\(eZ (l.take j):Int)<=250/\Cen wr w.heap.size (eZ (l.take j))) (fun _ wr=>Below w.heap.size w wr) W
   ⟨cK Tryz.func217 rfl rfl,fun j wr hi=>h.below hi.1, ?_, ?_⟩ V15 ⟨hb,by simp[eZ],by simpa [eZ] using hc⟩ ?_ V74 (cK Tryz.func176 rfl rfl)).mono ?_
  .
   exact U288
  .
   intro j r wr vs hj hi Ad hca;have hj0:=hj;obtain⟨hi1,hi2,hi3⟩:=hi;rw[zA2]at hj;obtain⟨x,hx,rfl⟩:=zF0.1 hj;have hv0:=iM h hi1 hj0 Ad.len hca;rw[hx];simp only[zI3];refine(aFn x vs w wr w.heap.size (eZ (l.take j)) (hs x (zA3 hx)) hT hv0 hi1 (zB0 _) hi3 V6).mono ?_;rintro e w' ⟨rfl,Aq,hcen⟩;have hb':=bZ hi1 Aq (zB0 _)
   refine⟨rfl,Aq,fun h=>?_,fun _=>hb'⟩
   rw[pT hx];have hle:=eP h
   exact⟨hb',by omega,hcen h⟩
  .
   rintro j w1 w2 ⟨h1,h2,h3⟩ Bk;have hbb:=aA Bk;exact⟨h1.trans (hbb.mono h1.size),h2,Blk.below h3 hbb (Blk.lt h3)⟩
  .
   rintro e w' ⟨r,rfl,Aq,ht⟩;refine⟨aE (fV ht), ?_⟩
   cases r with
   | false=>
    obtain⟨j,hj,hp,_,hq⟩:=ht.yes rfl;exact aI hq none
   | true=>exact aI (ht.no rfl).2.1 none
 clear h hs hc;go_enter Tryz.func198,Tryz.ntmps198;go_wp2_with fail;refine HC.mono ?_;rintro e w3 ⟨rfl,h1⟩;go_wp2;go_ret;exact⟨rfl,h1⟩
theorem aEn {m:Mo}(h:aH m.fl<=1048576):m.name.length<=1073741824/\(∀x ∈ m.uses,x.length<=1073741824)/\(∀x ∈ m.vars,x.name.length<=1073741824)/\(∀x ∈ m.procs,aH x.fl<=1048576):=by
 have e:aH m.fl=m.name.length+((bH m.uses).length+aF (bH m.uses))+((m.vars.map Va.fl).length+aF (m.vars.map Va.fl))+((m.procs.map Pr.fl).length+aF (m.procs.map Pr.fl)):=by simp[Mo.fl,aH,Fl.len] <;> omega
 rw[e]at h
 refine⟨by omega,fun x hx=>?_,fun x hx=>?_,fun x hx=>?_⟩
 .
  exact U138
 .
  have:=bK (List.mem_map_of_mem (f:=Va.fl) hx)
  simp only[Va.fl,aH,Fl.len]at this
  omega
 .
  have:=bK (List.mem_map_of_mem (f:=Pr.fl) hx)
  omega
theorem aIs (m:Mo)(vs:List Value)(w:World)(hT:kQ w)(h:aO w m.fl vs)(hs:aH m.fl<=1048576):
  Calls Tryz.prog 171 #[agg vs] w fun e w'=>e=.returned (.bool (bY m))/\w.grownBy w' none:=by
 obtain⟨hs0,hs1,hs2,hs3⟩:=aEn hs;clear hs;obtain⟨y0,_,rfl,⟨a0,c0,rfl,h0,hc0,_⟩,y1,_,rfl,h1',y2,_,rfl,h2',y3,_,rfl,h3',rfl⟩:=h;obtain⟨a1,c1,rfl,h1⟩:=h1'.list;obtain⟨a2,c2,rfl,h2⟩:=h2'.list;obtain⟨a3,c3,rfl,h3⟩:=h3'.list;clear h1' h2' h3';refine M986 ?_;intro k1 k2 k3
 have n1:m.uses.length<=9223372036854775807:=by have h5:=h1.cap;have h6:=h1.most;unfold maxLen at h6;omega
 have n2:m.vars.length<=9223372036854775807:=by have h5:=h2.cap;have h6:=h2.most;unfold maxLen at h6;omega
 have n3:m.procs.length<=9223372036854775807:=by have h5:=h3.cap;have h6:=h3.most;unfold maxLen at h6;omega
 rw[k1,k2,k3];clear k1 k2 k3;simp only[agg];have yy:=aC w (.cells #[.slice a0 m.name.length c0,.slice a1 m.uses.length c1,.slice a2 m.vars.length c2,.slice a3 m.procs.length c3] 48 (0,0)) none;have hb:=aA yy;have x0:=Blk.new w 48 [.slice a0 m.name.length c0,.slice a1 m.uses.length c1,.slice a2 m.vars.length c2,.slice a3 m.procs.length c3]
 have hfe:Hid (bY m=(aK m.name true && decide (m.uses.length<=6) && m.uses.all iK && decide (m.vars.length<=8) && m.vars.all lF && decide (m.procs.length<=8) && m.procs.all jU && jW m.procs 250)):=rfl
 generalize bY m=TG at *;go_enter Tryz.func171,Tryz.ntmps171;go_upto_region 1 with fail;generalize w.alloc (.cells #[.slice a0 m.name.length c0,.slice a1 m.uses.length c1,.slice a2 m.vars.length c2,.slice a3 m.procs.length c3] 48 (0,0))=w1 at *;obtain⟨q0,q1,q2,q3⟩:=x0.c4;have HQ:=dX a0 m.name.length c0 m.name true w1 (h0.below hb) hs0 hc0;generalize aK m.name true=r at *;go_wp2_with fail;refine HQ.mono ?_;rintro e w2 ⟨rfl,hg⟩;clear HQ q0 q1 q2 q3
 replace hg:w1.grownBy w2 none:=by rw[hg];exact aN0 _ _
 replace x0:=x0.below (aA hg) x0.lt;replace yy:=aD yy hg
 replace hb:Below w.heap.size w w2:=hb.trans ((aA hg).mono hb.size)
 clear hg;obtain⟨q0,q1,q2,q3⟩:=x0.c4;cases r
 .
  have he:Hid (TG=false):=by show _=_;rw[hfe.out];simp
  clear hfe;exact U270
 by_cases hl:m.uses.length<=6
 rotate_left
 .
  have he:Hid (TG=false):=by show _=_;rw[hfe.out,zC2 hl];simp
  have hl':¬(m.uses.length:Int)<=6:=V6;clear hfe;exact U270
 have hl':(m.uses.length:Int)<=6:=V6;rw[zB3 hl]at hfe;clear hl;have HQ:=aDi 195 iK (cK Tryz.func195 rfl rfl) aK2 a1 c1 m.uses w2 (h1.below hb) hs1;generalize m.uses.all iK=r at *;go_wp2_with fail;refine HQ.mono ?_;rintro e w3 ⟨rfl,hg⟩;clear HQ q0 q1 q2 q3;replace x0:=x0.below (aA hg) x0.lt;replace yy:=aD yy hg
 replace hb:Below w.heap.size w w3:=hb.trans ((aA hg).mono hb.size)
 clear hg;obtain⟨q0,q1,q2,q3⟩:=x0.c4;cases r
 .
  have he:Hid (TG=false):=by show _=_;rw[hfe.out];simp
  clear hfe;exact U270
 by_cases hl:m.vars.length<=8
 rotate_left
 .
  have he:Hid (TG=false):=by show _=_;rw[hfe.out,zC2 hl];simp
  have hl':¬(m.vars.length:Int)<=8:=V6;clear hfe;exact U270
 have hl':(m.vars.length:Int)<=8:=V6;rw[zB3 hl]at hfe;clear hl;have HQ:=aJb a2 c2 m.vars w3 (h2.below hb) hs2;generalize m.vars.all lF=r at *;go_wp2_with fail;refine HQ.mono ?_;rintro e w4 ⟨rfl,hg⟩;clear HQ q0 q1 q2 q3;replace x0:=x0.below (aA hg) x0.lt;replace yy:=aD yy hg
 replace hb:Below w.heap.size w w4:=hb.trans ((aA hg).mono hb.size)
 clear hg;obtain⟨q0,q1,q2,q3⟩:=x0.c4;cases r
 .
  have he:Hid (TG=false):=by show _=_;rw[hfe.out];simp
  clear hfe;exact U270
 by_cases hl:m.procs.length<=8
 rotate_left
 .
  have he:Hid (TG=false):=by show _=_;rw[hfe.out,zC2 hl];simp
  have hl':¬(m.procs.length:Int)<=8:=V6;clear hfe;exact U270
 have hl':(m.procs.length:Int)<=8:=V6;rw[zB3 hl]at hfe;clear hl;have HQ:=aFr a3 c3 m.procs w4 (h3.below hb) hs3;generalize m.procs.all jU=r at *;go_wp2_with fail;refine HQ.mono ?_;rintro e w5 ⟨rfl,hg⟩;clear HQ q0 q1 q2 q3;replace x0:=x0.below (aA hg) x0.lt;replace yy:=aD yy hg
 replace hb:Below w.heap.size w w5:=hb.trans ((aA hg).mono hb.size)
 clear hg;obtain⟨q0,q1,q2,q3⟩:=x0.c4;cases r
 .
  have he:Hid (TG=false):=by show _=_;rw[hfe.out];simp
  clear hfe;exact U270
 have HQ:=aI9 a3 c3 m.procs w5 (hT.below hb) (h3.below hb) hs3;generalize jW m.procs 250=r at *;go_wp2_with fail;refine HQ.mono ?_;rintro e w6 ⟨rfl,hg⟩;clear HQ q0 q1 q2 q3;replace x0:=x0.below (aA hg) x0.lt;replace yy:=aD yy hg
 replace hb:Below w.heap.size w w6:=hb.trans ((aA hg).mono hb.size)
 clear hg;obtain⟨q0,q1,q2,q3⟩:=x0.c4;cases r
 .
  have he:Hid (TG=false):=by show _=_;rw[hfe.out];simp
  clear hfe;exact U270
 have he:Hid (TG=true):=by show _=_;rw[hfe.out];simp
 clear hfe;exact U270
end Go.Proofs.YtegkhlkjfeafjaaGreatDoor

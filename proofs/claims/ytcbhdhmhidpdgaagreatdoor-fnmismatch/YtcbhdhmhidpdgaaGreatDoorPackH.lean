import Derived.Test.YtcbhdhmhidpdgaaGreatDoorPackG
namespace Go.Proofs.YtcbhdhmhidpdgaaGreatDoor
open Go.RowKit
set_option linter.unusedVariables false
set_option linter.unusedSimpArgs false
set_option maxRecDepth 100000
section
theorem QA22{p:Prop}(h:p:=by
 go_wp2_with fail
 go_quiet (fail)
 go_wp2
 go_roundw
 case rel=>exact⟨j+1,by omega,by go_num,Hb.out.trans ((dN9 _ _).mono Hb.out.size)⟩
 case measure=>simp[intOf];omega):p:=h
theorem QA57{p:Prop}(h:p:=by
 have Sz:=hr
 obtain⟨v0,_,rfl,_,v1,_,rfl,_,v2,_,rfl,_,v3,_,rfl,_,v4,_,rfl,_,rfl⟩:=hr
 exact⟨b,off,v0,v1,v2,v3,v4,e2,Sz,hc 0 _ rfl,hc 1 _ rfl,hc 2 _ rfl,hc 3 _ rfl,hc 4 _ rfl⟩):p:=h
namespace Cp
theorem aPl {E:En}(hE:dX E){W:World}{n:Nat}{v:Value}{xs:List Value}(h:W.ownsRow E.w0.heap.size 42 3 v n xs)(hx:aUi E.τ0 xs){i:Nat}(hl:i<n):
  ∃g c a0 c0 l0 a1 c1 l1 x,v=.slice (some ⟨g,0,none⟩) n c/\aV E.w0 a0 (List.length l0) l0/\aV E.w0 a1 (List.length l1) l1/\W.cell? ⟨g,i*3,none⟩=some (.slice a0 l0.length c0)/\W.cell? ⟨g,i*3+1,none⟩=some (.slice a1 l1.length c1)/\W.cell? ⟨g,i*3+2,none⟩=some (.int .i64 x):=by
 obtain⟨a,c,rfl,_,_,_,ha⟩:=aH h;obtain⟨g,rfl⟩:=ha A0;obtain⟨xss,rfl,hr⟩:=hx;have hk:∀us ∈ xss,us.length=3:=fun us hu=>Eg.RV.length (hr us hu);have hn:xss.length=n:=by
  have h1:=h.1;rw[Eg.flat_len xss hk]at h1;omega
 obtain⟨us,hu⟩:∃us,xss[i]?=some us:=⟨_,zA0 A0⟩
 obtain⟨v0,_,rfl,f0,v1,_,rfl,f1,v2,_,rfl,⟨x,rfl,_⟩,rfl⟩:=hr us (zA3 hu);obtain⟨l0,⟨a0,c0,rfl,b0,_⟩,_⟩:=Eg.rd_b hE.th f0;obtain⟨l1,⟨a1,c1,rfl,b1,_⟩,_⟩:=Eg.rd_b hE.th f1;have hc:=fun j v hv=>dL h _ _ (Eg.flat_get xss i _ j v hk hu hv);exact⟨g,c,a0,c0,l0,a1,c1,l1,x,rfl,b0,b1,hc 0 _ rfl,hc 1 _ rfl,hc 2 _ rfl⟩
section
variable {E:En} {d d1:GD} {w w1 w2:World} {c:Nat} {Q:Ending->World->Prop}
set_option maxHeartbeats 16000000 in
theorem aMc (hE:dX E)(s:St E d w c d1 w1){v0 v1 v4:Value}{am an:Option Addr}{cm cn:Nat}(m nm:List Int)(hm:aV w1 am m.length m)(hn:aV w1 an nm.length nm)(k:∀z w',Below w1.heap.size w1 w'->Q (.returned (.int .i64 z)) w'):
  Calls Tryz.prog 192 #[.pointer (some ⟨E.g,0,none⟩),.agg #[v0,v1,.slice am m.length cm,.slice an nm.length cn,v4]] w1 Q:=by
 have HK:=hid k;have HM:=hid hm;have HN:=hid hn;have y1:Below w1.heap.size w1 (w1.alloc (.cells #[v0,v1,.slice am m.length cm,.slice an nm.length cn,v4] 176 (0,0))):=(zD2 _ _).alloc (zB0 _) _;have x1:=Blk.new w1 176 [v0,v1,.slice am m.length cm,.slice an nm.length cn,v4];have Jb:=s.gs.row 1 A0;obtain⟨ai,qi,ei,_⟩:=aH Jb;obtain⟨ni,Mf⟩:=zx ((d1.r 1).n);rw[<-Mf]at Jb ei;have Pz:=hid s.bel;have HI:∀i,i<ni->_:=fun i hi=>aPl hE Jb s.gs.el.e1 (i:=i) hi;have HLT:=hid s.bel.size;have c13:w1.cell? ⟨E.g,13,none⟩=some (.slice ai ni qi):=s.gs.blk.cell (i:=13) (by rw[<-ei];rfl);have C13:=hid c13;have hq:ni<=maxLen:=by
  obtain⟨_,_,e9,h9,h8,_⟩:=aH Jb;omega
 unfold maxLen at hq;rw[ei]at HI;simp only[List.toArray]at x1;clear k s hE hm hn ei Mf Jb c13;go_enter Tryz.func192,Tryz.ntmps192;go_upto_region 1 with fail;generalize Xn:w1.alloc (.cells #[v0,v1,.slice am m.length cm,.slice an nm.length cn,v4] 176 (0,0))=w2 at *;have Y1:=hid y1;have X1:Hid (w2.cell? ⟨w1.heap.size,2,none⟩=some (.slice am m.length cm)/\w2.cell? ⟨w1.heap.size,3,none⟩=some (.slice an nm.length cn)):=⟨x1.k 2,x1.k 3⟩
 clear x1 y1 Xn;go_wp2_with fail;go_loopw [5] (fun i wr=>∃j:Nat,j<=ni/\i=.int .i64 j/\Hid (Below w2.heap.size w2 wr)) (fun i _=>ni-(intOf i).toNat)
 case atStart=>exact⟨0,zD1 _,rfl,zD2 _ _⟩
 case round=>
  obtain⟨j,hj,rfl,Hb⟩:=hrel;have Bq:=Y1.out.trans (Hb.out.mono Y1.out.size);have q1:=aB C13.out Bq;by_cases Ad:j<ni
  .
   obtain⟨g,c,a0,c0,l0,a1,c1,l1,x,e9,b0,b1,r0,r1,_⟩:=HI j Ad;cases e9;have r0:=aB r0 Bq;have r1:=aB r1 Bq;have p2:=aB X1.out.1 Hb.out;have p3:=aB X1.out.2 Hb.out;have b0':=(b0.below Pz.out).below Bq;have Jm:=(b1.below Pz.out).below Bq;have Xk:=fun d=>aR c0 (b0'.drewN d);have Xj:=fun d=>aR cm (aV.drewN (aV.below HM.out Bq) d);have kc3:=fun d=>aR c1 (Jm.drewN d);have kc4:=fun d=>aR cn (aV.drewN (aV.below HN.out Bq) d);have HG:=hid Bq;have Gs:(j:Int)<(ni:Int):=A0;clear b0 b1 b0' Jm Bq HI;cases hb1:((strOfNums l0).toList == (strOfNums m).toList) with
   | false=>
    exact QA22
   | true=>
    cases hb2:((strOfNums l1).toList == (strOfNums nm).toList) with
    | false=>
     exact QA22
    | true=>
     go_wp2_with fail;go_quiet (fail);go_wp2_with fail;exact HK.out _ _ (HG.out.trans ((dN9 _ _).mono HG.out.size))
  .
   have:ni=j:=A0;subst this;clear HI;go_wp2_with fail;exact HK.out _ _ Bq
theorem lS {W:World}{ks:List Ex}{a:Option Addr}{q i:Nat}{e:Ex}(h:aW W a q 5 (exs ks))(hi:ks[i]?=some e):∃b off v0 v1 v2 v3 v4,a=some ⟨b,off,none⟩/\aL W e.fl [v0,v1,v2,v3,v4]/\W.cell? ⟨b,off+i*5,none⟩=some v0/\W.cell? ⟨b,off+i*5+1,none⟩=some v1/\W.cell? ⟨b,off+i*5+2,none⟩=some v2/\W.cell? ⟨b,off+i*5+3,none⟩=some v3/\W.cell? ⟨b,off+i*5+4,none⟩=some v4:=by
 have e1:exs ks=ks.map Ex.fl:=by
  clear h hi;induction ks with
  | nil=>rfl| cons x l ih=>rw[exs,zH2,ih]
 rw[e1]at h;obtain⟨b,off,vs,e2,hr,hc⟩:=h.cellsAt (show(ks.map Ex.fl)[i]?=some e.fl by rw[zA2,hi];rfl);cases e with
 | mk k n mod name kk=>
  exact QA57
def XC (e:Ex):Prop:=∀(E:En) (d:GD) (w:World) (Q:Ending->World->Prop) (t:Int) (v0 v1 v2 v3 v4:Value),dX E->GS E d w->d.sl=0->d.s4=0->(d.r 0).n+20*cQ e<=1000000->qA E.m E.fs d.p e=true->aL E.w0 e.fl [v0,v1,v2,v3,v4]->(∀d' w',St E d w (20*cQ e) d' w'->Q (.returned (.tuple #[])) w') →
 Calls Tryz.prog 173 #[.pointer (some ⟨E.g,0,none⟩),.agg #[v0,v1,v2,v3,v4],.int .i64 t] w Q
theorem nP {e:Ex}(X:XC e)(hE:dX E)(s:St E d w c d1 w1)(hn:(d.r 0).n+c+20*cQ e<=1000000)(hg:qA E.m E.fs d.p e=true){t:Int}{v0 v1 v2 v3 v4:Value}(hv:aL E.w0 e.fl [v0,v1,v2,v3,v4])(k:∀d' w',St E d w (c+20*cQ e) d' w'->Q (.returned (.tuple #[])) w'):
  Calls Tryz.prog 173 #[.pointer (some ⟨E.g,0,none⟩),.agg #[v0,v1,v2,v3,v4],.int .i64 t] w1 Q:=
 X E d1 w1 Q t v0 v1 v2 v3 v4 hE s.gs s.sl s.s4 A84 (by rw[s.up.p.1];exact hg) hv fun d' w' s'=>k d' w' (s.trans s')
end
end Cp
end
theorem QA111{p:Prop}(h:p:=by
 show _<=_
 rw[<-bR he,<-List.take_append_drop (j+1) ks,jW,List.take_append_drop]
 omega):p:=h
namespace Cp
theorem M96{p q:Prop}(k:q)(h:Kx q->p:=by
 intro kQz
 have Ay:(exs ks).length=ks.length:=by rw[aX,zB2]
 rw[Ay]
 obtain⟨nk,hnk⟩:=zx (ks.length)
 have Am:Hid (ks.length=nk):=hnk.symm
 rw[<-hnk]
 have HL:Hid (aW E.w0 ak ck 5 (exs ks)):=hL
 have HM:Hid (aV E.w0 am mod.length mod):=Es
 have HN:Hid (aV E.w0 an name.length name):=Be
 revert HN;revert HM;revert HL;revert Am;revert hnk;revert nk;revert Ay
 exact kQz.o):p:=h ⟨k⟩
theorem M99{p q:Prop}(k:q)(h:Kx q->p:=by
 intro kQz
 refine la 0 ?_
 refine la 1 ?_
 refine la 2 ?_
 try simp only[nrm]
 refine la 3 ?_
 refine la 4 ?_
 refine la 5 ?_
 try simp only[nrm]
 refine la 6 ?_
 refine la 7 ?_
 refine la 8 ?_
 try simp only[nrm]
 refine la 9 ?_
 exact kQz.o):p:=h ⟨k⟩
theorem M965{p q:Prop}(k:q)(h:Kx q->p:=by
 intro kQz
 obtain⟨gx,Ar⟩:=zx (w.heap.size)
 have S0:=(St.start (hG.on hE hy) h1 h2)
 revert S0;revert Ar;revert gx
 exact kQz.o):p:=h ⟨k⟩
theorem M938{p q:Prop}(k:q)(h:Kx q->p:=by
 intro kQz
 have HE:Hid (dX E):=hE
 have Ks:Hid (∀e ∈ ks,XC e):=IH
 revert Ks;revert HE
 exact kQz.o):p:=h ⟨k⟩
theorem M945{p q:Prop}(k:q)(h:Kx q->p:=by
 intro kQz
 have r0:=aB r0 Bf
 have r1:=aB r1 Bf
 have r2:=aB r2 Bf
 have r3:=aB r3 Bf
 have r4:=aB r4 Bf
 revert r4;revert r3;revert r2;revert r1;revert r0
 exact kQz.o):p:=h ⟨k⟩
theorem M950{p q:Prop}(k:q)(h:Kx q->p:=by
 intro kQz
 have HK:Hid (∀d' w',St E d (w.alloc (.cells #[.int .i64 6,.int .i64 n,.slice am mod.length cm,.slice an name.length cn,.slice ak nk ck] 176 (0,0))) (20*(1+aD ks)) d' w'->Q (.returned (.tuple #[])) w'):=fun d' w' s=>k d' w' ⟨s.gs,s.up,(Kt.below hy).trans s.kt,s.sl,s.s4⟩
 have Li:(d.r 0).n+20*(1+aD ks)<=1000000:=hn
 revert Li;revert HK
 exact kQz.o):p:=h ⟨k⟩
theorem M953{p q:Prop}(k:q)(h:Kx q->p:=by
 intro kQz
 have hy:Below w.heap.size w (w.alloc (.cells #[.int .i64 6,.int .i64 n,.slice am mod.length cm,.slice an name.length cn,.slice ak nk ck] 176 (0,0))):=(zD2 _ _).alloc (zB0 _) _
 have x1:=Blk.new w 176 [.int .i64 6,.int .i64 n,.slice am mod.length cm,.slice an name.length cn,.slice ak nk ck]
 revert x1;revert hy
 exact kQz.o):p:=h ⟨k⟩
theorem El.fix {E:En}{d:GD}(h:El E d)(hs:d.sl=0)(h4:d.s4=0){v:Value}{n:Nat}(hn:(d.r 0).n=n):El E ((d.at 1 1).put 3 ⟨v,(d.r 3).n+1,(d.r 3).xs++[.int .i64 n]⟩):=
 ⟨h.e0,h.e1,h.e2,h.n2,fun u hu=>by
  rcases List.mem_append.1 hu with hu|hu
  .
   obtain⟨x,e,hx⟩:=h.e3 u hu;exact⟨x,e,by show x<(d.r 0).n+1;omega⟩
  .
   exact⟨n,List.mem_singleton.1 hu,by show n<(d.r 0).n+1;omega⟩,by have:=h.m3;show(d.r 3).n+1<=(d.r 0).n+1;omega,h.e4,by have:=h.n4;show((d.r 4).n:Int)+1=((d.r 3).n+1:Nat);omega,h.rp,h.hl⟩
theorem Up.fix (d:GD)(v u:Value):Up d ((d.at 1 1).put 3 ⟨v,(d.r 3).n+1,(d.r 3).xs++[u]⟩) 0:=
 ⟨⟨rfl,rfl⟩,rfl,rfl,rfl,zB0 _,zB0 _,Nat.le_succ _,⟨[u],rfl⟩,⟨[],by simp[GD.put,GD.at]⟩⟩
theorem El.to {E:En}{d:GD}(h:El E d)(hs:d.sl=1)(h4:d.s4=1){v:Value}{i:Nat}(hi:i<E.m.procs.length):El E ((d.at 1 0).put 4 ⟨v,(d.r 4).n+1,(d.r 4).xs++[.int .i64 i]⟩):=
 ⟨h.e0,h.e1,h.e2,h.n2,fun u hu=>by
  obtain⟨x,e,hx⟩:=h.e3 u hu;exact⟨x,e,by show x<(d.r 0).n+1;omega⟩,by have:=h.m3;show(d.r 3).n<=(d.r 0).n+1;omega,fun u hu=>by
  rcases List.mem_append.1 hu with hu|hu
  .
   exact h.e4 u hu
  .
   exact⟨i,List.mem_singleton.1 hu,hi⟩,by have:=h.n4;show(((d.r 4).n+1:Nat):Int)+0=(d.r 3).n;omega,h.rp,h.hl⟩
theorem Up.to (d:GD)(v u:Value):Up d ((d.at 1 0).put 4 ⟨v,(d.r 4).n+1,(d.r 4).xs++[u]⟩) 0:=
 ⟨⟨rfl,rfl⟩,rfl,rfl,rfl,zB0 _,zB0 _,zB0 _,⟨[],by simp[GD.put,GD.at]⟩,⟨[u],rfl⟩⟩
set_option maxHeartbeats 40000000 in
theorem aTd (n:Int)(mod name:List Int)(ks:List Ex)(IH:∀e ∈ ks,XC e){E:En}{d:GD}{w:World}{Q:Ending->World->Prop}(t:Int)(v0 v1 v2 v3 v4:Value)(hE:dX E)(hG:GS E d w)(h1:d.sl=0)(h2:d.s4=0)(hn:(d.r 0).n+20*cQ (.mk 6 n mod name ks)<=1000000)(hg:qA E.m E.fs d.p (.mk 6 n mod name ks)=true)(hv:aL E.w0 (Ex.fl (.mk 6 n mod name ks)) [v0,v1,v2,v3,v4])(k:∀d' w',St E d w (20*cQ (.mk 6 n mod name ks)) d' w'->Q (.returned (.tuple #[])) w'):
  Calls Tryz.prog 185 #[.pointer (some ⟨E.g,0,none⟩),.agg #[v0,v1,v2,v3,v4],.int .i64 t] w Q:=by
 refine M938 ?_;intro HE Ks;obtain⟨_,_,e0,rfl,_,_,e1,rfl,_,_,e2,⟨am,cm,rfl,Es,_⟩,_,_,e3,⟨an,cn,rfl,Be,_⟩,_,_,e4,hl,e5⟩:=hv;cases e0;cases e1;cases e2;cases e3;cases e4;obtain⟨ak,ck,rfl,hL⟩:=hl.list;refine M96 ?_;intro Ay nk hnk Am HL HM HN;have hnd:cQ (.mk 6 n mod name ks)=1+aD ks:=by simp[cQ]
 rw[hnd]at hn k;simp only[qA,zC0,zE3]at hg;obtain⟨⟨⟨⟨⟨⟨_,_⟩,Bm⟩,_⟩,Az⟩,_⟩,Dx⟩:=hg;rw[<-hnk]at Bm;have Tq:Hid (aJt E.m E.fs mod name=true):=by show _=true;simpa using Az
 have Do:Hid (fJ E.m E.fs d.p ks=true):=Dx;refine M953 ?_;intro hy x1;simp only[List.toArray]at x1;refine M965 ?_;intro gx Ar S0;refine M950 ?_;intro HK Li;clear k hE Az Dx Es Be hL hl hnd Ay IH hG hn hy hnk;go_enter Tryz.func185,Tryz.ntmps185;go_upto_region 1 with fail;generalize w.alloc (.cells #[.int .i64 6,.int .i64 n,.slice am mod.length cm,.slice an name.length cn,.slice ak nk ck] 176 (0,0))=wb at *;rw[<-Ar]at x1 ⊢;have HX:Hid (Blk wb gx 176 [.int .i64 6,.int .i64 n,.slice am mod.length cm,.slice an name.length cn,.slice ak nk ck]):=x1;have x4:=x1.k 4;clear x1 Ar;go_wp2_with fail;clear x4;go_loopw [7] (fun i wr=>∃(j:Nat) (d':GD),j<=nk/\i=.int .i64 j/\Hid (St E d wb (20*aD (ks.take j)+j) d' wr)) (fun i _=>nk-(intOf i).toNat)
 case atStart=>exact⟨0,d,zD1 _,rfl,by show St _ _ _ _ _ _;simpa [aD] using S0⟩
 case round=>
  obtain⟨j,d2,hj,rfl,Hs⟩:=hrel;have hj9:(j:Int)<=4:=A0;by_cases Ad:j<nk
  .
   obtain⟨e,he⟩:∃e,ks[j]?=some e:=⟨_,zA0 A27⟩
   have Ax:Hid (aD (ks.take (j+1))=aD (ks.take j)+cQ e):=bR he;have Lw:Hid (aD (ks.take j)+cQ e<=aD ks):=by
    exact QA111
   have HME:Hid (e ∈ ks):=zA3 he;obtain⟨b,off,s0,s1,s2,s3,s4,rfl,Sx,r0,r1,r2,r3,r4⟩:=lS HL.out he;have HV:Hid (aL E.w0 e.fl [s0,s1,s2,s3,s4]):=Sx;have Bf:=Hs.out.bel;refine M945 ?_;intro r0 r1 r2 r3 r4;have x4:=(Hs.out.b HX.out).k 4;have Gs:(j:Int)<(nk:Int):=A0;clear Sx Bf he;go_wp2_with fail;refine nP (Ks.out e HME.out) HE.out Hs.out (by have:=Lw.out;omega) (dG Do.out e HME.out) HV.out (fun d3 w3 q3=>?_);clear r0 r1 r2 r3 r4 x4;go_wp2_with fail;refine vQ HE.out q3 (fun x d4 w4 q4=>?_);clear q3;go_wp2_with fail;refine eO HE.out q4 (by have:=Lw.out;omega) (fun d5 w5 q5=>?_);clear q4;go_wp2;go_roundw
   case rel=>exact⟨j+1,d5,by omega,by go_num,by show St _ _ _ _ _ _;rw[Ax.out];exact q5.wide A0⟩
   case measure=>simp[intOf];omega
  .
   have:nk=j:=A0;subst this;have q0:St E d wb (20*aD ks+nk) d2 wr:=by have:=Hs.out;rwa [zD3 A18]at this
   clear Hs S0;by_cases Fv:0<mod.length
   .
    have hm':(0:Int)<(mod.length:Int):=A0;have x2:=(q0.b HX.out).k 2;go_wp2_with fail;clear x2;go_loopw [8] (fun i wr=>∃(j:Nat) (d':GD),j<=nk/\i=.int .i64 j/\Hid (St E d wb (20*aD ks+nk+j) d' wr)) (fun i _=>nk-(intOf i).toNat)
    case atStart=>exact⟨0,d2,zD1 _,rfl,q0⟩
    case round=>
     obtain⟨j,d3,hj,rfl,Hs⟩:=hrel;have hj9:(j:Int)<=4:=A0;by_cases Ad:j<nk
     .
      have Gs:(j:Int)<(nk:Int):=A0;go_wp2_with fail;refine vQ HE.out Hs.out (fun x d4 w4 q4=>?_);go_wp2_with fail;refine eO HE.out q4 A0 (fun d5 w5 q5=>?_);clear q4;go_wp2;go_roundw
      case rel=>exact⟨j+1,d5,by omega,by go_num,q5.wide A0⟩
      case measure=>simp[intOf];omega
     .
      have:nk=j:=A0;subst this;have q1:=Hs.out;have x0:=(q1.b HX.out).k 0;have x1:=(q1.b HX.out).k 1;have x2:=(q1.b HX.out).k 2;have x3:=(q1.b HX.out).k 3;have x4:=(q1.b HX.out).k 4;clear q0;go_wp2_with fail;refine aMc HE.out q1 mod name (HM.out.below q1.bel) (HN.out.below q1.bel) (fun z w6 Wq=>?_);have q6:=q1.on HE.out Wq;clear x0 x1 x2 x3 x4 q1 Hs Wq;go_wp2_with fail;refine eO HE.out q6 A0 (fun d7 w7 q7=>?_);clear q6;have Pu:=q7.gs.blk.cell (i:=11) (v:=.int .i64 d7.fr) rfl;go_wp2_with fail;clear Pu;refine eO HE.out q7 A0 (fun d8 w8 q8=>?_);go_wp2_with fail;exact aKr Tryz.results185 (HK.out _ _ (q8.wide A0))
   .
    have Cq:mod.length=0:=A0;have x2:=(q0.b HX.out).k 2;rw[Cq]at x2;have Pu:=q0.gs.blk.cell (i:=11) (v:=.int .i64 d2.fr) rfl;obtain⟨fr,Og⟩:=zx (d2.fr);rw[<-Og]at Pu;clear Og;go_wp2_with fail;clear x2 Pu;refine eO HE.out q0 A0 (fun d3 w3 q3=>?_);clear q0;go_wp2_with fail;go_loopw [10] (fun i wr=>∃(j:Nat) (d':GD),j<=nk/\i=.int .i64 j/\Hid (St E d wb (20*aD ks+nk+1+2*j) d' wr)) (fun i _=>nk-(intOf i).toNat)
    case atStart=>exact⟨0,d3,zD1 _,rfl,q3⟩
    case round=>
     obtain⟨j,d4,hj,rfl,Hs⟩:=hrel;have hj9:(j:Int)<=4:=A0;by_cases Ad:j<nk
     .
      have Gs:(j:Int)<(nk:Int):=A0;clear q3;go_wp2_with fail;refine vQ HE.out Hs.out (fun x d5 w5 q5=>?_);go_wp2_with fail;refine eO HE.out q5 A0 (fun d6 w6 q6=>?_);clear q5;go_wp2_with fail;refine eO HE.out q6 A0 (fun d7 w7 q7=>?_);clear q6;go_wp2;go_roundw
      case rel=>exact⟨j+1,d7,by omega,by go_num,q7.wide A0⟩
      case measure=>simp[intOf];omega
     .
      have:nk=j:=A0;subst this;have q4:=Hs.out;clear q3 Hs;obtain⟨ca,cn4,cq,_,_,_,_,Fo⟩:=q4.code;go_wp2_with fail;clear Fo;refine eO HE.out q4 A0 (fun d5 w5 q5=>?_);clear q4;go_wp2_with fail;refine eO HE.out q5 A0 (fun d6 w6 q6=>?_);clear q5;go_wp2_with fail;refine eO HE.out q6 A0 (fun d7 w7 q7=>?_);clear q6;go_wp2_with fail;refine eO HE.out q7 A0 (fun d8 w8 q8=>?_);clear q7;go_wp2_with fail;refine eO HE.out q8 A0 (fun d9 w9 q9=>?_);clear q8;obtain⟨ca',Mh,cq',_,en,_,_,Fo⟩:=q9.code;have HU:Hid (aCj [.int .i64 (Mh:Int)]):=fun u hu=>⟨_,List.mem_singleton.1 hu⟩;obtain⟨fv,Un⟩:=zx ((d9.r 3).v);have HFV:Hid ((d9.r 3).v=fv):=Un.symm;have c15:w9.cell? ⟨E.g,15,none⟩=some fv:=q9.gs.blk.cell (i:=15) (by rw[Un];rfl);have HG9:Hid (GS E d9 w9):=q9.gs;have HEN:Hid ((d9.r 0).n=Mh):=en;have Q9:Hid (St E d wb (20*aD ks+nk+1+2*nk+1+1+1+1+1) d9 w9):=q9;have HR3:Hid ((d9.r 3).n<=1000000/\(d9.r 4).n<=1000000):=by
       have:=q9.up.n1;have:=q9.gs.el.m3;have:=q9.gs.el.n4;have:=q9.sl;have:=q9.s4;exact⟨by omega,by omega⟩
      clear q9 Un en;go_wp2_with fail;have Bi:∀wl,Below w9.heap.size w9 wl->wl.cell? ⟨E.g,15,none⟩=some fv/\wl.cell? ⟨E.g,10,none⟩=some (.slice ca' Mh cq'):=fun wl hb=>⟨aB c15 hb,aB Fo hb⟩;have Br:=Bi w9.drew (zD2 _ _).drew;refine rl 14 (S:=fun wl=>wl.cell? ⟨E.g,15,none⟩=some fv/\wl.cell? ⟨E.g,10,none⟩=some (.slice ca' Mh cq')) A1 Br (fun Aa=>?_);refine M99 ?_;try simp only[nrm]
      have xC:Blk (w9.alloc (.cells #[.int .i64 (Mh:Int)] 3 (0,0))).drew w9.heap.size 3 [.int .i64 (Mh:Int)]:=Blk.new w9 3 [.int .i64 (Mh:Int)];have bc:Below w9.heap.size w9 (w9.alloc (.cells #[.int .i64 (Mh:Int)] 3 (0,0))).drew:=((zD2 w9.heap.size w9).alloc (zB0 _) _).drew;have Fy:=Bi _ bc;refine da 10 fun K hK=>?_;go_simp;refine hK.out _ _ (Fy) (fun Aa=>?_);clear hK K;try simp only[nrm]
      have Et:Hid (GS E d9 (w9.alloc (.cells #[.int .i64 (Mh:Int)] 3 (0,0))).drew):=HG9.out.on HE.out bc;have HK2:Hid (Kt w9 (w9.alloc (.cells #[.int .i64 (Mh:Int)] 3 (0,0))).drew):=Kt.below bc;generalize (w9.alloc (.cells #[.int .i64 (Mh:Int)] 3 (0,0))).drew=wc at *;generalize w9.heap.size=gy at *;have Au:wc.ownsRow E.w0.heap.size 3 1 fv (d9.r 3).n (d9.r 3).xs:=by have:=Et.out.row 3 A0;rw[HFV.out]at this;exact this
      refine da 11 fun K hK=>?_;rw[if_pos A1];refine mI aHm Tryz.underlying32 rfl A6 A6 _ _ rfl (v:=fv) rfl Au rfl xC rfl (wR HU.out) HR3.out.1 Et.out.bel.size ?_;intro g' c' we ho Al hl;have Ch:wc.grownBy we (d9.r 3).v.ownBlock:=by rw[HFV.out];exact Al
      have HF:Hid (GS E ((d9.at 1 1).put 3 ⟨.slice (some ⟨g',0,none⟩) ((d9.r 3).n+1) c',(d9.r 3).n+1,(d9.r 3).xs++[.int .i64 (Mh:Int)]⟩) (we.setCell ⟨E.g,15,none⟩ (.slice (some ⟨g',0,none⟩) ((d9.r 3).n+1) c'))):=
       Et.out.put HE.out (i:=3) A0 (q:=(⟨.slice (some ⟨g',0,none⟩) ((d9.r 3).n+1) c',(d9.r 3).n+1,(d9.r 3).xs++[Value.int .i64 (Mh:Int)]⟩:RD)) Ch ho (fun b hb=>by
        have hb:some g'=some b:=hb;rw[HFV.out];cases hb;exact hl.imp id (fun e=>Nat.le_of_eq e.symm)) 1 1 (Et.out.el.fix Q9.out.sl Q9.out.s4 HEN.out)
      have Yp:Hid (Kt w9 (we.setCell ⟨E.g,15,none⟩ (.slice (some ⟨g',0,none⟩) ((d9.r 3).n+1) c'))):=HK2.out.trans (Et.out.kt (i:=3) A0 Ch _);have Ew:we.heap[E.g]?=wc.heap[E.g]?:=Ch.block E.g Et.out.lt (fun e=>Et.out.ng 3 E.g A0 e.symm rfl);have b3:Blk we E.g 143 (cells E d9):=Ew.trans Et.out.blk;have Ts:we.cell? ⟨E.g,15,none⟩=some fv:=b3.cell (i:=15) (by rw[<-HFV.out];rfl);have f15:=b3.free 15;have Hx:we.cell? ⟨E.g,10,none⟩=some (.slice ca' Mh cq'):=by
       have:=Fy.2;unfold World.cell? at this ⊢;rw[Ew];exact this
      have h9:we.cell? ⟨E.g,15,none⟩=some fv/\we.cell? ⟨E.g,10,none⟩=some (.slice ca' Mh cq'):=⟨Ts,Hx⟩
      refine hK.out _ _ (h9) (fun Aa=>?_);clear hK K;try simp only[nrm]
      refine da 12 fun K hK=>?_;go_simp;refine hK.out _ _ (h9) (fun Aa=>?_);clear hK K;try simp only[nrm]
      refine la 13 ?_;try simp only[nrm]
      refine ea fun K hK=>?_;go_simp;refine hK.out _ _ ?_;clear hK K Aa h9 Hx Ts f15 b3 Ew Au Ch ho Al hl xC bc Fy Br Bi c15 Fo;generalize hD:(d9.at 1 1).put 3 ⟨.slice (some ⟨g',0,none⟩) ((d9.r 3).n+1) c',(d9.r 3).n+1,(d9.r 3).xs++[.int .i64 (Mh:Int)]⟩=Fz at *;generalize we.setCell ⟨E.g,15,none⟩ (.slice (some ⟨g',0,none⟩) ((d9.r 3).n+1) c')=wa at *;have UA:Hid (Up d9 Fz 0/\Fz.sl=1/\Fz.s4=1/\(Fz.r 4).n=(d9.r 4).n/\Fz.p=d9.p):=by rw[<-hD];exact⟨Up.fix _ _ _,rfl,rfl,rfl,rfl⟩
      clear hD Et HK2 HFV;obtain⟨i9,Wl⟩:∃i,ix (E.m.procs.map Pr.name) name=some i:=by
       have h1:=Tq.out;unfold aJt at h1;rw[if_pos (zE0 Cq)]at h1;exact Option.isSome_iff_exists.1 h1
      have HI9:Hid (i9<E.m.procs.length):=by
       have:=(zC1.1 (wO Wl).1).1;rwa [zB2]at this
      have x3:=((Q9.out.b HX.out |> Yp.out.b (hm:=by decide))).k 3;have Tn:=aDu E.m E.ms wa.drew (aL.below HE.out.rm HF.out.bel.drew) an name.length cn name (HN.out.below HF.out.bel.drew);rw[cJ Wl]at Tn;simp only[En.ms,agg,List.toArray]at Tn;obtain⟨tv,htv⟩:=zx ((Fz.r 4).v);have HTV:Hid ((Fz.r 4).v=tv):=htv.symm;have HU4:Hid (aCj [.int .i64 (i9:Int)]):=fun u hu=>⟨_,List.mem_singleton.1 hu⟩;have c16:wa.cell? ⟨E.g,16,none⟩=some tv:=HF.out.blk.cell (i:=16) (by rw[htv];rfl);have Bi:∀wl,Below wa.heap.size wa wl->wl.cell? ⟨E.g,16,none⟩=some tv/\wl.cell? ⟨E.g,0,none⟩=some E.m0/\wl.cell? ⟨E.g,1,none⟩=some E.m1/\wl.cell? ⟨E.g,2,none⟩=some E.m2/\wl.cell? ⟨E.g,3,none⟩=some E.m3/\wl.cell? ⟨gx,3,none⟩=some (.slice an name.length cn):=fun wl hb=>⟨aB c16 hb,aB (HF.out.blk.k 0) hb,aB (HF.out.blk.k 1) hb,aB (HF.out.blk.k 2) hb,aB (HF.out.blk.k 3) hb,aB x3 hb⟩;have HR4:Hid ((Fz.r 4).n<=1000000):=by rw[UA.out.2.2.2.1];exact HR3.out.2
      clear htv Wl;go_wp2_with fail;have Br:=Bi wa.drew (zD2 _ _).drew;refine rl 16 (S:=fun wl=>wl.cell? ⟨E.g,16,none⟩=some tv/\wl.cell? ⟨E.g,0,none⟩=some E.m0/\wl.cell? ⟨E.g,1,none⟩=some E.m1/\wl.cell? ⟨E.g,2,none⟩=some E.m2/\wl.cell? ⟨E.g,3,none⟩=some E.m3/\wl.cell? ⟨gx,3,none⟩=some (.slice an name.length cn)) A1 Br (fun Aa=>?_);refine M99 ?_;refine la 10 ?_;try simp only[nrm]
      refine da 11 fun K hK=>?_;go_simp
      (with_reducible refine Tn.mono ?_)
      rintro e wp ⟨rfl,Uk⟩;have bp:Below wa.heap.size wa wp:=(zD2 wa.heap.size wa).drew.trans (aA Uk);have Nd:=Bi wp bp;clear Tn Uk;go_wp2_with fail;refine hK.out _ _ (Nd) (fun Aa=>?_);clear hK K;try simp only[nrm]
      have xC:Blk (wp.alloc (.cells #[.int .i64 (i9:Int)] 3 (0,0))) wp.heap.size 3 [.int .i64 (i9:Int)]:=Blk.new wp 3 [.int .i64 (i9:Int)];have bc:Below wa.heap.size wa (wp.alloc (.cells #[.int .i64 (i9:Int)] 3 (0,0))):=bp.alloc bp.size _;have Fy:=Bi _ bc;refine da 12 fun K hK=>?_;go_simp;refine hK.out _ _ (Fy) (fun Aa=>?_);clear hK K;try simp only[nrm]
      have Et:Hid (GS E Fz (wp.alloc (.cells #[.int .i64 (i9:Int)] 3 (0,0)))):=HF.out.on HE.out bc;have HK2:Hid (Kt wa (wp.alloc (.cells #[.int .i64 (i9:Int)] 3 (0,0)))):=Kt.below bc;generalize (wp.alloc (.cells #[.int .i64 (i9:Int)] 3 (0,0)))=wd at *;generalize wp.heap.size=gz at *;have Au:wd.ownsRow E.w0.heap.size 3 1 tv (Fz.r 4).n (Fz.r 4).xs:=by have:=Et.out.row 4 A0;rw[HTV.out]at this;exact this
      refine da 13 fun K hK=>?_;rw[if_pos A1];refine mI aHm Tryz.underlying32 rfl A6 A6 _ _ rfl (v:=tv) rfl Au rfl xC rfl (wR HU4.out) HR4.out Et.out.bel.size ?_;intro g2 c2 wf ho Al hl;have Ch:wd.grownBy wf (Fz.r 4).v.ownBlock:=by rw[HTV.out];exact Al
      have Ke:Hid (GS E ((Fz.at 1 0).put 4 ⟨.slice (some ⟨g2,0,none⟩) ((Fz.r 4).n+1) c2,(Fz.r 4).n+1,(Fz.r 4).xs++[.int .i64 (i9:Int)]⟩) (wf.setCell ⟨E.g,16,none⟩ (.slice (some ⟨g2,0,none⟩) ((Fz.r 4).n+1) c2))):=
       Et.out.put HE.out (i:=4) A0 (q:=(⟨.slice (some ⟨g2,0,none⟩) ((Fz.r 4).n+1) c2,(Fz.r 4).n+1,(Fz.r 4).xs++[Value.int .i64 (i9:Int)]⟩:RD)) Ch ho (fun b hb=>by
        have hb:some g2=some b:=hb;rw[HTV.out];cases hb;exact hl.imp id (fun e=>Nat.le_of_eq e.symm)) 1 0 (Et.out.el.to UA.out.2.1 UA.out.2.2.1 HI9.out)
      have HKF2:Hid (Kt wa (wf.setCell ⟨E.g,16,none⟩ (.slice (some ⟨g2,0,none⟩) ((Fz.r 4).n+1) c2))):=HK2.out.trans (Et.out.kt (i:=4) A0 Ch _);have Ew:wf.heap[E.g]?=wd.heap[E.g]?:=Ch.block E.g Et.out.lt (fun e=>Et.out.ng 4 E.g A0 e.symm rfl);have b3:Blk wf E.g 143 (cells E Fz):=Ew.trans Et.out.blk;have f16:=b3.free 16;have Ar:wf.cell? ⟨gx,3,none⟩=some (.slice an name.length cn):=by
       have e9:=HX.out;have hxw:=HK2.out.b (T:=176) A6 (Yp.out.b A6 (Q9.out.b HX.out));have hkf:wf.heap[gx]?=wd.heap[gx]?:=(Kt.grown (w:=wd) Ch fun b eb cs T fl hb=>by
        obtain⟨Qt,e'⟩:=iU (Et.out.row 4 A0) eb;rw[e']at hb;cases hb;exact mL (i:=4)).blk gx _ _ _ hxw A6
       exact Blk.cell (i:=3) (T:=176) (hkf.trans hxw) rfl
      have h9:wf.cell? ⟨E.g,16,none⟩=some tv/\wf.cell? ⟨E.g,0,none⟩=some E.m0/\wf.cell? ⟨E.g,1,none⟩=some E.m1/\wf.cell? ⟨E.g,2,none⟩=some E.m2/\wf.cell? ⟨E.g,3,none⟩=some E.m3/\wf.cell? ⟨gx,3,none⟩=some (.slice an name.length cn):=⟨b3.cell (i:=16) (by rw[<-HTV.out];rfl),b3.k 0,b3.k 1,b3.k 2,b3.k 3,Ar⟩
      refine hK.out _ _ (h9) (fun Aa=>?_);clear hK K;try simp only[nrm]
      refine da 14 fun K hK=>?_;go_simp;refine hK.out _ _ (h9) (fun Aa=>?_);clear hK K;try simp only[nrm]
      refine la 15 ?_;try simp only[nrm]
      refine ea fun K hK=>?_;go_simp;refine hK.out _ _ ?_;clear hK K Aa h9 Ar f16 b3 Ew Au Ch ho Al hl xC bc Fy Nd bp Br Bi c16 x3 Et HTV;have UB:Hid (Up Fz ((Fz.at 1 0).put 4 ⟨.slice (some ⟨g2,0,none⟩) ((Fz.r 4).n+1) c2,(Fz.r 4).n+1,(Fz.r 4).xs++[.int .i64 (i9:Int)]⟩) 0):=Up.to _ _ _;have Dr:Hid ((Fz.r 0).n<=1000000-1):=by
       have:=UA.out.1.n1;have:=Q9.out.up.n1;show _<=_
       omega
      go_wp2_with fail;refine(aRw HE.out Ke.out (zB0 1) (by have:=Dr.out;show(Fz.r 0).n<=1000000;omega) _ _ _ _ _ _).mono ?_;rintro e w8 ⟨rfl,d8,a1,a2,a3,a4,a5,_⟩;have HZ:Hid (St E d wb (20*(1+aD ks)) d8 w8):=(St.wide (c:=20*aD ks+nk+1+2*nk+1+1+1+1+1+(0+0+1)) ⟨a1,Q9.out.up.trans ((UA.out.1.trans UB.out).trans a2),Q9.out.kt.trans (Yp.out.trans (HKF2.out.trans a3)),a4,a5⟩ A0)
      clear a1 a2 a3 a4 a5;go_wp2_with fail;exact nY Tryz.results185 (HK.out _ _ HZ.out)
end Cp
end Go.Proofs.YtcbhdhmhidpdgaaGreatDoor

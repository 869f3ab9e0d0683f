import Derived.Test.YtcbhdhmhidpdgaaGreatDoorPackE
import Derived.Deep.Cut
import Derived.Deep.CutRange
namespace Go.Proofs.YtcbhdhmhidpdgaaGreatDoor
open Go.RowKit
set_option linter.unusedVariables false
set_option linter.unusedSimpArgs false
set_option maxRecDepth 100000
set_option maxHeartbeats 4000000
theorem aS5 (a1:Option Addr)(n1 c1:Nat)(l1:List Int)(p q:Int)(g:Nat)(a2:Option Addr)(n2 c2:Nat)(l2:List Int)(y z:Value)(w:World)(h1:aV w a1 n1 l1)(h2:aV w a2 n2 l2)(hg:B3 w g 69 (.slice a2 n2 c2) y z):
  Calls Tryz.prog 67 #[.agg #[.slice a1 n1 c1,.int .i64 p,.int .i64 q],.pointer (some ⟨g,0,none⟩)] w fun e w'=>e=.returned (.bool (decide (l1=l2)))/\Below w.heap.size w w':=by
 have x0:=B3.new w 69 (.slice a1 n1 c1) (.int .i64 p) (.int .i64 q);have x1:=hg.old (o:=.cells #[.slice a1 n1 c1,.int .i64 p,.int .i64 q] 69 (0,0));have y0:Below w.heap.size w (w.alloc (.cells #[.slice a1 n1 c1,.int .i64 p,.int .i64 q] 69 (0,0))):=(zD2 _ _).alloc (zB0 _) _;have H:=jJ a1 n1 c1 l1 a2 n2 c2 l2 _ (h1.below y0) (h2.below y0);clear h1 h2 hg;go_enter Tryz.func67,Tryz.ntmps67;go_upto_region 1 with fail;generalize w.alloc (.cells #[.slice a1 n1 c1,.int .i64 p,.int .i64 q] 69 (0,0))=w1 at *;obtain⟨q0,_,_,_,_,_⟩:=x0.facts;obtain⟨p0,_,_,_,_,_⟩:=x1.facts;go_wp2_with fail;refine H.mono ?_;rintro e w2 ⟨rfl,rfl⟩;go_wp2;go_ret;exact⟨rfl,y0⟩
set_option maxHeartbeats 4000000 in
theorem aHn (a:Option Addr)(n c:Nat)(ds:List D3)(g:Nat)(a2:Option Addr)(n2 c2:Nat)(l2:List Int)(y z:Value)(w:World)(h:iZ w a n ds)(hn:n<=8)(hd:∀d ∈ ds,isE d)(h2:aV w a2 n2 l2)(hg:B3 w g 69 (.slice a2 n2 c2) y z):
  Calls Tryz.prog 70 #[.slice a n c,.func (.func 67) #[] #[.pointer (some ⟨g,0,none⟩)]] w fun e w'=>∃r:Int,e=.returned (.int .i64 r)/\decide (0<=r)=dup ds l2/\Below w.heap.size w w':=by
 have Hd:Hid (ds.length=n):=h.1;rcases zG0 n with h0|Dq
 .
  subst h0;have e0:ds=[]:=zE0 Hd.out;subst e0;clear h h2 hg hd;go_enter Tryz.func70,Tryz.ntmps70;go_wp2_with fail;refine zH1 1 ?_;rw[zE2];go_wp2;go_ret;exact⟨_,rfl,rfl,zD2 _ _⟩
 .
  obtain⟨b,off,rfl⟩:=h.addr Dq;have H:Hid (iZ w (some ⟨b,off,none⟩) n ds):=h;have HD:Hid (∀d ∈ ds,isE d):=hd;have H2:Hid (aV w a2 n2 l2):=h2;have HG:=hid hg;clear h hd h2 hg;go_enter Tryz.func70,Tryz.ntmps70;go_wp2_with fail;go_loopw [5,8] (fun _ i wr=>∃j:Nat,j<=n/\i=.int .i64 j/\Hid (dup (ds.take j) l2=false)/\Below w.heap.size w wr) (fun _ i _=>n-(intOf i).toNat)
  case atStart=>exact⟨0,zD1 _,rfl,by show _=_;simp[dup],zD2 _ _⟩
  case round=>
   obtain⟨j,hj,rfl,Ai,Cv⟩:=hrel;by_cases Ad:j<n
   .
    obtain⟨⟨rx,ry,rz⟩,d,Hj,hR,q0,q1,q2⟩:=iZ.el (iZ.below (show iZ w (some ⟨b,off,none⟩) n ds from H.out) Cv) Ad;obtain⟨ll,p,q,rfl⟩:=HD.out d (zA3 Hj);obtain⟨⟨ax,cx,rfl,Cb,hxc,hxm,_⟩,rfl,rfl⟩:=hR;have HN:Hid (dup (ds.take (j+1)) l2=(dup (ds.take j) l2 || decide (ll=l2))):=aAj Hj;have HK:Hid (ds[j]?=some ⟨.b ll,.n p,.n q⟩):=Hj;have HC:=aS5 ax ll.length cx ll p q g a2 n2 c2 l2 y z wr Cb (aV.below H2.out Cv) (B3.below HG.out Cv (B3.lt HG.out));clear Hj;go_wp2_with fail;refine HC.mono ?_;rintro e w2 ⟨rfl,hb2⟩;have Fh:Below w.heap.size w w2:=Cv.trans (hb2.mono Cv.size);clear q0 q1 q2 hb2 HC;by_cases he:ll=l2
    .
     have hT:decide (ll=l2)=true:=zB3 he;have HS:Hid (dup ds l2=true):=sN HK.out he;clear he;rw[hT];go_wp2;go_ret;exact⟨_,rfl,by rw[HS.out];simp,Fh⟩
    .
     have hT:decide (ll=l2)=false:=zC2 he;have HS:Hid (dup (ds.take (j+1)) l2=false):=by show _=_;rw[HN.out,Ai.out,hT];rfl
     clear he;rw[hT];go_wp2;go_roundw
     case rel=>exact⟨j+1,by omega,by go_num,HS,Fh⟩
     case measure=>simp[intOf];omega
   .
    have:j=n:=by omega
    subst this;have HS:Hid (dup ds l2=false):=by
     have:=Ai.out;rwa [zD3 (by rw[Hd.out];exact zB0 _)]at this
    go_wp2;go_ret;exact⟨_,rfl,by rw[HS.out];rfl,Cv⟩
theorem xR (a:Option Addr)(n c:Nat)(ds:List D3)(g:Nat)(a2:Option Addr)(n2 c2:Nat)(l2:List Int)(y z:Value)(w:World)(h:iZ w a n ds)(hn:n<=8)(hd:∀d ∈ ds,isE d)(h2:aV w a2 n2 l2)(hg:B3 w g 69 (.slice a2 n2 c2) y z):
  Calls Tryz.prog 66 #[.slice a n c,.func (.func 67) #[] #[.pointer (some ⟨g,0,none⟩)]] w fun e w'=>e=.returned (.bool (dup ds l2))/\Below w.heap.size w w':=by
 have H:=aHn a n c ds g a2 n2 c2 l2 y z w h hn hd h2 hg;clear h hd h2 hg;go_enter Tryz.func66,Tryz.ntmps66;go_wp2_with fail;refine H.mono ?_;rintro e w2 ⟨r,rfl,hr,hb⟩;go_wp2;go_ret;exact⟨rfl,hb⟩
theorem A71{p:Prop}(h:p:=by rw[Hd.out];omega):p:=h
theorem QA33{p:Prop}(h:p:=by
 rintro e w1 ⟨rfl,rfl⟩
 go_wp2
 go_ret
 exact⟨aF HF.out.symm,Fh⟩):p:=h
theorem QA68{p:Prop}(h:p:=by
 go_wp2
 go_ret
 exact⟨aF HD.out.symm,zD2 _ _⟩):p:=h
theorem uJ (a:Option Addr)(n c:Nat)(ds:List D3)(w:World)(h:iZ w a n ds)(hd:∀d ∈ ds,∃l l2 p,d=(⟨.b l,.b l2,.n p⟩:D3)/\l.length<=1048576/\l2.length<=1048576)(hn:n<=1048576):
  Calls Tryz.prog 34 #[.slice a n c] w fun e w'=>e=.returned (.bool (eU ds))/\Below w.heap.size w w':=by
 have Hd:=hid h.1;by_cases h8:8<n
 .
  have HD:Hid (eU ds=false):=qP (by rw[Hd.out];exact h8);clear h hd;go_enter Tryz.func34,Tryz.ntmps34;exact QA68
 rcases zG0 n with h0|Dq
 .
  subst h0;have HD:Hid (eU ds=true):=pF A71 (by rw[Hd.out];intro j hj;omega);clear h hd;go_enter Tryz.func34,Tryz.ntmps34;go_wp2_with fail;refine zH1 1 ?_;rw[zE2];exact QA68
 obtain⟨b,off,rfl⟩:=h.addr Dq;have H:=hid h;have HD:=hid hd;clear h hd;go_enter Tryz.func34,Tryz.ntmps34;go_wp2_with fail;go_loopw [4,10] (fun _ i wr=>∃j:Nat,j<=n/\i=.int .i64 j/\Hid (∀m<j,aHs ds m=true)/\Below w.heap.size w wr) (fun _ i _=>n-(intOf i).toNat)
 case atStart=>exact⟨0,zD1 _,rfl,by intro m hm;omega,zD2 _ _⟩
 case round=>
  obtain⟨j,hj,rfl,Bj,Cv⟩:=hrel;by_cases Ad:j<n
  .
   obtain⟨⟨rx,ry,rz⟩,d,Hj,hR,q0,q1,q2⟩:=iZ.el (iZ.below (show iZ w (some ⟨b,off,none⟩) n ds from H.out) Cv) Ad;obtain⟨ll,Qb,p,rfl,hll,hll2⟩:=HD.out d (zA3 Hj);obtain⟨⟨ax,cx,rfl,Cb,hxc,hxm,_⟩,⟨ay,cy,rfl,Bv,hyc,hym,_⟩,rfl⟩:=hR;have HA:=hid (pH Hj);have HJ:Hid (j<ds.length):=by show j<ds.length;rw[Hd.out];exact Ad
   clear Hj hxm hym;go_upto_region 6 with fail;have x0:=B3.new wr 42 (.slice ax ll.length cx) (.slice ay Qb.length cy) (.int .i64 p);have y0:Below wr.heap.size wr (wr.alloc (.cells #[.slice ax ll.length cx,.slice ay Qb.length cy,.int .i64 p] 42 (0,0))):=(zD2 _ _).alloc (zB0 _) _;generalize wr.alloc (.cells #[.slice ax ll.length cx,.slice ay Qb.length cy,.int .i64 p] 42 (0,0))=w1 at *;have Fh:=Cv.trans (y0.mono Cv.size);have H1:=kQ ax ll.length cx ll true w1 (Cb.below y0) A0 hxc;have H2:=kQ ay Qb.length cy Qb false w1 (Bv.below y0) A0 hyc;have H3:=iI p 0 2147483647 w1;obtain⟨k0,k1,k2,_,_,_⟩:=x0.facts;clear q0 q1 q2 x0 y0 Cb Bv Cv;cases v1:aN ll true
   .
    have HF:Hid (eU ds=false):=kP HJ.out (by rw[HA.out,v1];rfl);rw[v1]at H1;go_wp2_with fail;refine H1.mono ?_;exact QA33
   rw[v1]at H1;cases v2:aN Qb false
   .
    have HF:Hid (eU ds=false):=kP HJ.out (by rw[HA.out,v1,v2];rfl);rw[v2]at H2;go_wp2_with fail;refine H1.mono ?_;rintro e w1 ⟨rfl,rfl⟩;go_wp2_with fail;refine H2.mono ?_;exact QA33
   rw[v2]at H2;cases v3:(decide ((0:Int)<=p) && decide (p<=2147483647))
   .
    have HF:Hid (eU ds=false):=kP HJ.out (by rw[HA.out,v1,v2];unfold jL;rw[v3];rfl);rw[v3]at H3;go_wp2_with fail;refine H1.mono ?_;rintro e w1 ⟨rfl,rfl⟩;go_wp2_with fail;refine H2.mono ?_;rintro e w1 ⟨rfl,rfl⟩;go_wp2_with fail;refine H3.mono ?_;exact QA33
   have HF:Hid (aHs ds j=true):=by show _=_;rw[HA.out,v1,v2];unfold jL;rw[v3];rfl
   rw[v3]at H3;go_wp2_with fail;refine H1.mono ?_;rintro e w1 ⟨rfl,rfl⟩;go_wp2_with fail;refine H2.mono ?_;rintro e w1 ⟨rfl,rfl⟩;go_wp2_with fail;refine H3.mono ?_;rintro e w1 ⟨rfl,rfl⟩;go_wp2;go_roundw
   case rel=>exact⟨j+1,by omega,by go_num,dV Bj.out HF.out,Fh⟩
   case measure=>simp[intOf];omega
  .
   have:j=n:=A0;subst this;go_wp2;go_ret;exact⟨aF (pF A71 (by rw[Hd.out];exact Bj.out)).symm,Cv⟩
theorem uK (a:Option Addr)(n c:Nat)(ds:List D3)(w:World)(h:iZ w a n ds)(Fu:n<=c)(hd:∀d ∈ ds,∃l p q,d=(⟨.b l,.n p,.n q⟩:D3)/\l.length<=1048576)(hn:n<=1048576):
  Calls Tryz.prog 33 #[.slice a n c] w fun e w'=>e=.returned (.bool (iQ ds))/\Below w.heap.size w w':=by
 have Hd:=hid h.1;by_cases h8:8<n
 .
  have HD:Hid (iQ ds=false):=qU (by rw[Hd.out];exact h8);clear h hd;go_enter Tryz.func33,Tryz.ntmps33;exact QA68
 rcases zG0 n with h0|Dq
 .
  subst h0;have HD:Hid (iQ ds=true):=pP A71 (by rw[Hd.out];intro j hj;omega);clear h hd;go_enter Tryz.func33,Tryz.ntmps33;go_wp2_with fail;refine zH1 1 ?_;rw[zE2];exact QA68
 obtain⟨b,off,rfl⟩:=h.addr Dq;have H:=hid h;have HD:=hid hd;clear h hd;have hmf:∀(fn:Fn) (first cap:Array Value) (w:World),(Instr.makeFunc fn first cap).run Tryz.prog w=.ok (.func fn first cap) w:=fun _ _ _ _=>rfl;go_enter Tryz.func33,Tryz.ntmps33;go_wp2_with fail;go_loopw [3,4,10] (fun _ _ i wr=>∃j:Nat,j<=n/\i=.int .i64 j/\Hid (∀m<j,aCa ds m=true)/\Below w.heap.size w wr) (fun _ _ i _=>n-(intOf i).toNat)
 case atStart=>exact⟨0,zD1 _,rfl,by intro m hm;omega,zD2 _ _⟩
 case round=>
  obtain⟨j,hj,rfl,Bj,Cv⟩:=hrel;by_cases Ad:j<n
  .
   obtain⟨⟨rx,ry,rz⟩,d,Hj,hR,q0,q1,q2⟩:=iZ.el (iZ.below (show iZ w (some ⟨b,off,none⟩) n ds from H.out) Cv) Ad;obtain⟨ll,p,q,rfl,hll⟩:=HD.out d (zA3 Hj);obtain⟨⟨ax,cx,rfl,Cb,hxc,hxm,_⟩,rfl,rfl⟩:=hR;have HA:=hid (sL Hj);have HJ:Hid (j<ds.length):=by show j<ds.length;rw[Hd.out];exact Ad
   clear Hj hxm;go_upto_region 6 with fail;have x0:=B3.new wr 69 (.slice ax ll.length cx) (.int .i64 p) (.int .i64 q);have y0:Below wr.heap.size wr (wr.alloc (.cells #[.slice ax ll.length cx,.int .i64 p,.int .i64 q] 69 (0,0))):=(zD2 _ _).alloc (zB0 _) _;generalize wr.alloc (.cells #[.slice ax ll.length cx,.int .i64 p,.int .i64 q] 69 (0,0))=w1 at *;have Fh:=Cv.trans (y0.mono Cv.size);have H1:=kQ ax ll.length cx ll false w1 (Cb.below y0) A0 hxc;have H2:=iI p 0 2147483647 w1;have H3:=iI q 0 4000 w1;have H4:=xR (some ⟨b,off,none⟩) j c (ds.take j) wr.heap.size ax ll.length cx ll (.int .i64 p) (.int .i64 q) w1 (iZ.take (iZ.below (show iZ w (some ⟨b,off,none⟩) n ds from H.out) Fh) hj) A0 (fun d hd=>by obtain⟨l,p,q,e,_⟩:=HD.out d (List.mem_of_mem_take hd);exact⟨l,p,q,e⟩) (Cb.below y0) x0;obtain⟨k0,k1,k2,_,_,_⟩:=x0.facts;clear q0 q1 q2 x0 y0 Cb Cv;cases v1:aN ll false
   .
    have HF:Hid (iQ ds=false):=gE HJ.out (by rw[HA.out,v1];rfl);rw[v1]at H1;go_wp2_with fail;refine H1.mono ?_;exact QA33
   rw[v1]at H1;cases v2:(decide ((0:Int)<=p) && decide (p<=2147483647))
   .
    have HF:Hid (iQ ds=false):=gE HJ.out (by rw[HA.out,v1];unfold jL;rw[v2];rfl);rw[v2]at H2;go_wp2_with fail;refine H1.mono ?_;rintro e w1 ⟨rfl,rfl⟩;go_wp2_with fail;refine H2.mono ?_;exact QA33
   rw[v2]at H2;cases v3:(decide ((0:Int)<=q) && decide (q<=4000))
   .
    have HF:Hid (iQ ds=false):=gE HJ.out (by rw[HA.out,v1];unfold jL;rw[v2,v3];rfl);rw[v3]at H3;go_wp2_with fail;refine H1.mono ?_;rintro e w1 ⟨rfl,rfl⟩;go_wp2_with fail;refine H2.mono ?_;rintro e w1 ⟨rfl,rfl⟩;go_wp2_with fail;refine H3.mono ?_;exact QA33
   rw[v3]at H3;have HA':Hid (aCa ds j = !dup (ds.take j) ll):=by show _=_;rw[HA.out,v1];unfold jL;rw[v2,v3];rfl
   clear v1 v2 v3 HA;go_wp2_with fail;refine H1.mono ?_;rintro e w1 ⟨rfl,rfl⟩;go_wp2_with fail;refine H2.mono ?_;rintro e w1 ⟨rfl,rfl⟩;go_wp2_with fail;refine H3.mono ?_;rintro e w1 ⟨rfl,rfl⟩;clear H1 H2 H3;go_wp2_with fail;refine H4.mono ?_;rintro e w2 ⟨rfl,hb2⟩;have hbw2:=Fh.trans (hb2.mono Fh.size);clear hb2 Fh k0 k1 k2 H4;cases v4:dup (ds.take j) ll
   .
    have HF:Hid (aCa ds j=true):=by show _=_;rw[HA'.out,v4];rfl
    clear v4;go_wp2;go_roundw
    case rel=>exact⟨j+1,by omega,by go_num,dV Bj.out HF.out,hbw2⟩
    case measure=>simp[intOf];omega
   .
    have HF:Hid (iQ ds=false):=gE HJ.out (by rw[HA'.out,v4];rfl);clear v4;go_wp2;go_ret;exact⟨aF HF.out.symm,hbw2⟩
  .
   have:j=n:=A0;subst this;go_wp2;go_ret;exact⟨aF (pP A71 (by rw[Hd.out];exact Bj.out)).symm,Cv⟩
set_option maxHeartbeats 4000000 in
theorem sA (o:O5)(b:ObL)(w:World)(h:vI w o b)(hs:osz b<=1048576):
  Calls Tryz.prog 14 #[.agg #[o.x,o.e,o.i,o.d,o.c]] w fun e w'=>e=.returned (.bool (cU b))/\Below w.heap.size w w':=by
 obtain⟨x,xe,xi,xd,xc⟩:=o;have EX:=aJa hs h.exs;have IM:=aI9 hs h.ims;obtain⟨nm,ex,im,dt,cd,_,_⟩:=h;simp only at nm ex im dt cd;obtain⟨a1,c1,rfl,r1,v1,_⟩:=nm;obtain⟨a2,c2,rfl,r2,v2,_⟩:=ex;obtain⟨a3,c3,rfl,r3,_⟩:=im;obtain⟨a4,c4,rfl,r4,_⟩:=cd;subst dt;clear r4;unfold osz at hs;have x0:=B5.new w 39 ⟨.slice a1 b.name.length c1,.slice a2 b.ex.length c2,.slice a3 b.im.length c3,.int .i64 b.data,.slice a4 b.code.length c4⟩;have y0:Below w.heap.size w (w.alloc (.cells #[.slice a1 b.name.length c1,.slice a2 b.ex.length c2,.slice a3 b.im.length c3,.int .i64 b.data,.slice a4 b.code.length c4] 39 (0,0))):=(zD2 _ _).alloc (zB0 _) _;simp only at x0;have HO:Hid (cU b=(aN b.name true && iQ b.ex && eU b.im && jL b.data 0 200 && decide (b.code.length<=9000))):=rfl;go_enter Tryz.func14,Tryz.ntmps14;go_upto_region 1 with fail;generalize w.alloc (.cells #[.slice a1 b.name.length c1,.slice a2 b.ex.length c2,.slice a3 b.im.length c3,.int .i64 b.data,.slice a4 b.code.length c4] 39 (0,0))=w0 at *;have H1:=kQ a1 b.name.length c1 b.name true w0 (r1.below y0) A0 v1;have H2:=uK a2 b.ex.length c2 b.ex w0 (r2.below y0) v2 EX A0;obtain⟨k0,k1,_,_,_⟩:=x0.facts;clear r1 r2;cases e1:aN b.name true
 .
  have HF:Hid (cU b=false):=by show _=_;rw[HO.out,e1];rfl
  rw[e1]at H1;go_wp2_with fail;refine H1.mono ?_;rintro e w0 ⟨rfl,rfl⟩;go_wp2;go_ret;exact⟨aF HF.out.symm,y0⟩
 rw[e1]at H1;have Pw:Hid (cU b=(iQ b.ex && eU b.im && jL b.data 0 200 && decide (b.code.length<=9000))):=by show _=_;rw[HO.out,e1];rfl
 clear e1 HO;go_wp2_with fail;refine H1.mono ?_;rintro e w0 ⟨rfl,rfl⟩;go_wp2_with fail;refine H2.mono ?_;rintro e w1 ⟨rfl,hb1⟩;have x1:=x0.below hb1 x0.lt;have y1:=y0.trans (hb1.mono y0.size);have H3:=uJ a3 b.im.length c3 b.im w1 (r3.below y1) IM A0;clear x0 y0 hb1 H1 H2 k0 k1 r3;obtain⟨_,_,k2,_,_⟩:=x1.facts;cases e1:iQ b.ex
 .
  have HF:Hid (cU b=false):=by show _=_;rw[Pw.out,e1];rfl
  go_wp2;go_ret;exact⟨aF HF.out.symm,y1⟩
 have Jc:Hid (cU b=(eU b.im && jL b.data 0 200 && decide (b.code.length<=9000))):=by show _=_;rw[Pw.out,e1];rfl
 clear e1 Pw;go_wp2_with fail;refine H3.mono ?_;rintro e w2 ⟨rfl,hb2⟩;have x2:=x1.below hb2 x1.lt;have y2:=y1.trans (hb2.mono y1.size);have H4:=iI b.data 0 200 w2;clear x1 y1 hb2 H3 k2;obtain⟨_,_,_,k3,k4⟩:=x2.facts;cases e1:eU b.im
 .
  have HF:Hid (cU b=false):=by show _=_;rw[Jc.out,e1];rfl
  go_wp2;go_ret;exact⟨aF HF.out.symm,y2⟩
 have Qy:Hid (cU b=(jL b.data 0 200 && decide (b.code.length<=9000))):=by show _=_;rw[Jc.out,e1];rfl
 clear e1 Jc;go_wp2_with fail;refine H4.mono ?_;rintro e w2 ⟨rfl,rfl⟩;have HB:Hid (jL b.data 0 200=(decide (0<=b.data) && decide (b.data<=200))):=rfl;cases e1:(decide (0<=b.data) && decide (b.data<=200))
 .
  have HF:Hid (cU b=false):=by show _=_;rw[Qy.out,HB.out,e1];rfl
  clear e1 H4;go_wp2;go_ret;exact⟨aF HF.out.symm,y2⟩
 have HF:Hid (cU b=decide (b.code.length<=9000)):=by show _=_;rw[Qy.out,HB.out,e1];rfl
 clear e1 H4;go_wp2;go_ret;exact⟨aF (by rw[HF.out];apply decide_eq_decide.2;omega),y2⟩
end Go.Proofs.YtcbhdhmhidpdgaaGreatDoor

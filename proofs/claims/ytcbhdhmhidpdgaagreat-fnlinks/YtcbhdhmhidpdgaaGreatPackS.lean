import Derived.Test.YtcbhdhmhidpdgaaGreatPackE
import Derived.Deep.Cut
import Derived.Deep.CutRange
namespace Go.Proofs.YtcbhdhmhidpdgaaGreat
open Go.RowKit
set_option linter.unusedVariables false
set_option linter.unusedSimpArgs false
set_option maxRecDepth 100000
set_option maxHeartbeats 4000000
theorem aT7 (a1:Option Addr)(n1 c1:Nat)(l1:List Int)(p q:Int)(g:Nat)(a2:Option Addr)(n2 c2:Nat)(l2:List Int)(y z:Value)(w:World)(h1:aV w a1 n1 l1)(h2:aV w a2 n2 l2)(hg:B3 w g 68 (.slice a2 n2 c2) y z):
  Calls Tryz.prog 60 #[.agg #[.slice a1 n1 c1,.int .i64 p,.int .i64 q],.pointer (some ⟨g,0,none⟩)] w fun e w'=>e=.returned (.bool (decide (l1=l2)))/\Below w.heap.size w w':=by
 have x0:=B3.new w 68 (.slice a1 n1 c1) (.int .i64 p) (.int .i64 q);have x1:=hg.old (o:=.cells #[.slice a1 n1 c1,.int .i64 p,.int .i64 q] 68 (0,0));have y0:Below w.heap.size w (w.alloc (.cells #[.slice a1 n1 c1,.int .i64 p,.int .i64 q] 68 (0,0))):=(zD2 _ _).alloc (zB0 _) _;have H:=jS a1 n1 c1 l1 a2 n2 c2 l2 _ (h1.below y0) (h2.below y0);clear h1 h2 hg;go_enter Tryz.func60,Tryz.ntmps60;go_upto_region 1 with fail;generalize w.alloc (.cells #[.slice a1 n1 c1,.int .i64 p,.int .i64 q] 68 (0,0))=w1 at *;obtain⟨q0,_,_,_,_,_⟩:=x0.facts;obtain⟨p0,_,_,_,_,_⟩:=x1.facts;go_wp2_with fail;refine H.mono ?_;rintro e w2 ⟨rfl,rfl⟩;go_wp2;go_ret;exact⟨rfl,y0⟩
set_option maxHeartbeats 4000000 in
theorem aH5 (a:Option Addr)(n c:Nat)(ds:List D3)(g:Nat)(a2:Option Addr)(n2 c2:Nat)(l2:List Int)(y z:Value)(w:World)(h:jH w a n ds)(hn:n<=8)(hd:∀d ∈ ds,isE d)(h2:aV w a2 n2 l2)(hg:B3 w g 68 (.slice a2 n2 c2) y z):
  Calls Tryz.prog 63 #[.slice a n c,.func (.func 60) #[] #[.pointer (some ⟨g,0,none⟩)]] w fun e w'=>∃r:Int,e=.returned (.int .i64 r)/\decide (0<=r)=dup ds l2/\Below w.heap.size w w':=by
 have Hd:Hid (ds.length=n):=h.1;rcases zG0 n with h0|Dj
 .
  subst h0;have e0:ds=[]:=zE0 Hd.out;subst e0;clear h h2 hg hd;go_enter Tryz.func63,Tryz.ntmps63;go_wp2_with fail;refine zH1 1 ?_;rw[zE2];go_wp2;go_ret;exact⟨_,rfl,rfl,zD2 _ _⟩
 .
  obtain⟨b,off,rfl⟩:=h.addr Dj;have H:Hid (jH w (some ⟨b,off,none⟩) n ds):=h;have HD:Hid (∀d ∈ ds,isE d):=hd;have H2:Hid (aV w a2 n2 l2):=h2;have HG:Hid (B3 w g 68 (.slice a2 n2 c2) y z):=hg;clear h hd h2 hg;go_enter Tryz.func63,Tryz.ntmps63;go_wp2_with fail;go_loopw [5,8] (fun _ i wr=>∃j:Nat,j<=n/\i=.int .i64 j/\Hid (dup (ds.take j) l2=false)/\Below w.heap.size w wr) (fun _ i _=>n-(intOf i).toNat)
  case atStart=>exact⟨0,zD1 _,rfl,by show _=_;simp[dup],zD2 _ _⟩
  case round=>
   obtain⟨j,hj,rfl,Aj,Cg⟩:=hrel;by_cases Ad:j<n
   .
    obtain⟨⟨rx,ry,rz⟩,d,Hp,hR,q0,q1,q2⟩:=jH.el (jH.below (show jH w (some ⟨b,off,none⟩) n ds from H.out) Cg) Ad;obtain⟨ll,p,q,rfl⟩:=HD.out d (zA3 Hp);obtain⟨⟨ax,cx,rfl,Ce,hxc,hxm,_⟩,rfl,rfl⟩:=hR;have HN:Hid (dup (ds.take (j+1)) l2=(dup (ds.take j) l2 || decide (ll=l2))):=aAv Hp;have HK:Hid (ds[j]?=some ⟨.b ll,.n p,.n q⟩):=Hp;have HC:=aT7 ax ll.length cx ll p q g a2 n2 c2 l2 y z wr Ce (aV.below H2.out Cg) (B3.below HG.out Cg (B3.lt HG.out));clear Hp;go_wp2_with fail;refine HC.mono ?_;rintro e w2 ⟨rfl,hb2⟩;have Fi:Below w.heap.size w w2:=Cg.trans (hb2.mono Cg.size);clear q0 q1 q2 hb2 HC;by_cases he:ll=l2
    .
     have hT:decide (ll=l2)=true:=zB3 he;have HS:Hid (dup ds l2=true):=sU HK.out he;clear he;rw[hT];go_wp2;go_ret;exact⟨_,rfl,by rw[HS.out];simp,Fi⟩
    .
     have hT:decide (ll=l2)=false:=zC2 he;have HS:Hid (dup (ds.take (j+1)) l2=false):=by show _=_;rw[HN.out,Aj.out,hT];rfl
     clear he;rw[hT];go_wp2;go_roundw
     case rel=>exact⟨j+1,by omega,by go_num,HS,Fi⟩
     case measure=>simp[intOf];omega
   .
    have:j=n:=by omega
    subst this;have HS:Hid (dup ds l2=false):=by
     have:=Aj.out;rwa [zD3 (by rw[Hd.out];exact zB0 _)]at this
    go_wp2;go_ret;exact⟨_,rfl,by rw[HS.out];rfl,Cg⟩
theorem yC (a:Option Addr)(n c:Nat)(ds:List D3)(g:Nat)(a2:Option Addr)(n2 c2:Nat)(l2:List Int)(y z:Value)(w:World)(h:jH w a n ds)(hn:n<=8)(hd:∀d ∈ ds,isE d)(h2:aV w a2 n2 l2)(hg:B3 w g 68 (.slice a2 n2 c2) y z):
  Calls Tryz.prog 59 #[.slice a n c,.func (.func 60) #[] #[.pointer (some ⟨g,0,none⟩)]] w fun e w'=>e=.returned (.bool (dup ds l2))/\Below w.heap.size w w':=by
 have H:=aH5 a n c ds g a2 n2 c2 l2 y z w h hn hd h2 hg;clear h hd h2 hg;go_enter Tryz.func59,Tryz.ntmps59;go_wp2_with fail;refine H.mono ?_;rintro e w2 ⟨r,rfl,hr,hb⟩;go_wp2;go_ret;exact⟨rfl,hb⟩
theorem A74{p:Prop}(h:p:=by rw[Hd.out];omega):p:=h
theorem QA33{p:Prop}(h:p:=by
 rintro e w1 ⟨rfl,rfl⟩
 go_wp2
 go_ret
 exact⟨aF HF.out.symm,Fi⟩):p:=h
theorem QA68{p:Prop}(h:p:=by
 go_wp2
 go_ret
 exact⟨aF HD.out.symm,zD2 _ _⟩):p:=h
theorem uT (a:Option Addr)(n c:Nat)(ds:List D3)(w:World)(h:jH w a n ds)(hd:∀d ∈ ds,∃l l2 p,d=(⟨.b l,.b l2,.n p⟩:D3)/\l.length<=1048576/\l2.length<=1048576)(hn:n<=1048576):
  Calls Tryz.prog 31 #[.slice a n c] w fun e w'=>e=.returned (.bool (iE ds))/\Below w.heap.size w w':=by
 have Hd:=hid h.1;by_cases h8:8<n
 .
  have HD:Hid (iE ds=false):=qZ (by rw[Hd.out];exact h8);clear h hd;go_enter Tryz.func31,Tryz.ntmps31;exact QA68
 rcases zG0 n with h0|Dj
 .
  subst h0;have HD:Hid (iE ds=true):=pP A74 (by rw[Hd.out];intro j hj;omega);clear h hd;go_enter Tryz.func31,Tryz.ntmps31;go_wp2_with fail;refine zH1 1 ?_;rw[zE2];exact QA68
 obtain⟨b,off,rfl⟩:=h.addr Dj;have H:=hid h;have HD:=hid hd;clear h hd;go_enter Tryz.func31,Tryz.ntmps31;go_wp2_with fail;go_loopw [4,10] (fun _ i wr=>∃j:Nat,j<=n/\i=.int .i64 j/\Hid (∀m<j,aIb ds m=true)/\Below w.heap.size w wr) (fun _ i _=>n-(intOf i).toNat)
 case atStart=>exact⟨0,zD1 _,rfl,by intro m hm;omega,zD2 _ _⟩
 case round=>
  obtain⟨j,hj,rfl,Bl,Cg⟩:=hrel;by_cases Ad:j<n
  .
   obtain⟨⟨rx,ry,rz⟩,d,Hp,hR,q0,q1,q2⟩:=jH.el (jH.below (show jH w (some ⟨b,off,none⟩) n ds from H.out) Cg) Ad;obtain⟨ll,Qp,p,rfl,hll,hll2⟩:=HD.out d (zA3 Hp);obtain⟨⟨ax,cx,rfl,Ce,hxc,hxm,_⟩,⟨ay,cy,rfl,Bu,hyc,hym,_⟩,rfl⟩:=hR;have HA:=hid (aEp Hp);have HJ:Hid (j<ds.length):=by show j<ds.length;rw[Hd.out];exact Ad
   clear Hp hxm hym;go_upto_region 6 with fail;have x0:=B3.new wr 87 (.slice ax ll.length cx) (.slice ay Qp.length cy) (.int .i64 p);have y0:Below wr.heap.size wr (wr.alloc (.cells #[.slice ax ll.length cx,.slice ay Qp.length cy,.int .i64 p] 87 (0,0))):=(zD2 _ _).alloc (zB0 _) _;generalize wr.alloc (.cells #[.slice ax ll.length cx,.slice ay Qp.length cy,.int .i64 p] 87 (0,0))=w1 at *;have Fi:=Cg.trans (y0.mono Cg.size);have H1:=lA ax ll.length cx ll true w1 (Ce.below y0) A0 hxc;have H2:=lA ay Qp.length cy Qp false w1 (Bu.below y0) A0 hyc;have H3:=iO p 0 2147483647 w1;obtain⟨k0,k1,k2,_,_,_⟩:=x0.facts;clear q0 q1 q2 x0 y0 Ce Bu Cg;cases v1:aO ll true
   .
    have HF:Hid (iE ds=false):=kZ HJ.out (by rw[HA.out,v1];rfl);rw[v1]at H1;go_wp2_with fail;refine H1.mono ?_;exact QA33
   rw[v1]at H1;cases v2:aO Qp false
   .
    have HF:Hid (iE ds=false):=kZ HJ.out (by rw[HA.out,v1,v2];rfl);rw[v2]at H2;go_wp2_with fail;refine H1.mono ?_;rintro e w1 ⟨rfl,rfl⟩;go_wp2_with fail;refine H2.mono ?_;exact QA33
   rw[v2]at H2;cases v3:(decide ((0:Int)<=p) && decide (p<=2147483647))
   .
    have HF:Hid (iE ds=false):=kZ HJ.out (by rw[HA.out,v1,v2];unfold jY;rw[v3];rfl);rw[v3]at H3;go_wp2_with fail;refine H1.mono ?_;rintro e w1 ⟨rfl,rfl⟩;go_wp2_with fail;refine H2.mono ?_;rintro e w1 ⟨rfl,rfl⟩;go_wp2_with fail;refine H3.mono ?_;exact QA33
   have HF:Hid (aIb ds j=true):=by show _=_;rw[HA.out,v1,v2];unfold jY;rw[v3];rfl
   rw[v3]at H3;go_wp2_with fail;refine H1.mono ?_;rintro e w1 ⟨rfl,rfl⟩;go_wp2_with fail;refine H2.mono ?_;rintro e w1 ⟨rfl,rfl⟩;go_wp2_with fail;refine H3.mono ?_;rintro e w1 ⟨rfl,rfl⟩;go_wp2;go_roundw
   case rel=>exact⟨j+1,by omega,by go_num,dY Bl.out HF.out,Fi⟩
   case measure=>simp[intOf];omega
  .
   have:j=n:=A0;subst this;go_wp2;go_ret;exact⟨aF (pP A74 (by rw[Hd.out];exact Bl.out)).symm,Cg⟩
theorem uU (a:Option Addr)(n c:Nat)(ds:List D3)(w:World)(h:jH w a n ds)(Fu:n<=c)(hd:∀d ∈ ds,∃l p q,d=(⟨.b l,.n p,.n q⟩:D3)/\l.length<=1048576)(hn:n<=1048576):
  Calls Tryz.prog 30 #[.slice a n c] w fun e w'=>e=.returned (.bool (jA ds))/\Below w.heap.size w w':=by
 have Hd:=hid h.1;by_cases h8:8<n
 .
  have HD:Hid (jA ds=false):=rD (by rw[Hd.out];exact h8);clear h hd;go_enter Tryz.func30,Tryz.ntmps30;exact QA68
 rcases zG0 n with h0|Dj
 .
  subst h0;have HD:Hid (jA ds=true):=pW A74 (by rw[Hd.out];intro j hj;omega);clear h hd;go_enter Tryz.func30,Tryz.ntmps30;go_wp2_with fail;refine zH1 1 ?_;rw[zE2];exact QA68
 obtain⟨b,off,rfl⟩:=h.addr Dj;have H:=hid h;have HD:=hid hd;clear h hd;have hmf:∀(fn:Fn) (first cap:Array Value) (w:World),(Instr.makeFunc fn first cap).run Tryz.prog w=.ok (.func fn first cap) w:=fun _ _ _ _=>rfl;go_enter Tryz.func30,Tryz.ntmps30;go_wp2_with fail;go_loopw [3,4,10] (fun _ _ i wr=>∃j:Nat,j<=n/\i=.int .i64 j/\Hid (∀m<j,aCm ds m=true)/\Below w.heap.size w wr) (fun _ _ i _=>n-(intOf i).toNat)
 case atStart=>exact⟨0,zD1 _,rfl,by intro m hm;omega,zD2 _ _⟩
 case round=>
  obtain⟨j,hj,rfl,Bl,Cg⟩:=hrel;by_cases Ad:j<n
  .
   obtain⟨⟨rx,ry,rz⟩,d,Hp,hR,q0,q1,q2⟩:=jH.el (jH.below (show jH w (some ⟨b,off,none⟩) n ds from H.out) Cg) Ad;obtain⟨ll,p,q,rfl,hll⟩:=HD.out d (zA3 Hp);obtain⟨⟨ax,cx,rfl,Ce,hxc,hxm,_⟩,rfl,rfl⟩:=hR;have HA:=hid (sS Hp);have HJ:Hid (j<ds.length):=by show j<ds.length;rw[Hd.out];exact Ad
   clear Hp hxm;go_upto_region 6 with fail;have x0:=B3.new wr 68 (.slice ax ll.length cx) (.int .i64 p) (.int .i64 q);have y0:Below wr.heap.size wr (wr.alloc (.cells #[.slice ax ll.length cx,.int .i64 p,.int .i64 q] 68 (0,0))):=(zD2 _ _).alloc (zB0 _) _;generalize wr.alloc (.cells #[.slice ax ll.length cx,.int .i64 p,.int .i64 q] 68 (0,0))=w1 at *;have Fi:=Cg.trans (y0.mono Cg.size);have H1:=lA ax ll.length cx ll false w1 (Ce.below y0) A0 hxc;have H2:=iO p 0 2147483647 w1;have H3:=iO q 0 4000 w1;have H4:=yC (some ⟨b,off,none⟩) j c (ds.take j) wr.heap.size ax ll.length cx ll (.int .i64 p) (.int .i64 q) w1 (jH.take (jH.below (show jH w (some ⟨b,off,none⟩) n ds from H.out) Fi) hj) A0 (fun d hd=>by obtain⟨l,p,q,e,_⟩:=HD.out d (List.mem_of_mem_take hd);exact⟨l,p,q,e⟩) (Ce.below y0) x0;obtain⟨k0,k1,k2,_,_,_⟩:=x0.facts;clear q0 q1 q2 x0 y0 Ce Cg;cases v1:aO ll false
   .
    have HF:Hid (jA ds=false):=gJ HJ.out (by rw[HA.out,v1];rfl);rw[v1]at H1;go_wp2_with fail;refine H1.mono ?_;exact QA33
   rw[v1]at H1;cases v2:(decide ((0:Int)<=p) && decide (p<=2147483647))
   .
    have HF:Hid (jA ds=false):=gJ HJ.out (by rw[HA.out,v1];unfold jY;rw[v2];rfl);rw[v2]at H2;go_wp2_with fail;refine H1.mono ?_;rintro e w1 ⟨rfl,rfl⟩;go_wp2_with fail;refine H2.mono ?_;exact QA33
   rw[v2]at H2;cases v3:(decide ((0:Int)<=q) && decide (q<=4000))
   .
    have HF:Hid (jA ds=false):=gJ HJ.out (by rw[HA.out,v1];unfold jY;rw[v2,v3];rfl);rw[v3]at H3;go_wp2_with fail;refine H1.mono ?_;rintro e w1 ⟨rfl,rfl⟩;go_wp2_with fail;refine H2.mono ?_;rintro e w1 ⟨rfl,rfl⟩;go_wp2_with fail;refine H3.mono ?_;exact QA33
   rw[v3]at H3;have HA':Hid (aCm ds j = !dup (ds.take j) ll):=by show _=_;rw[HA.out,v1];unfold jY;rw[v2,v3];rfl
   clear v1 v2 v3 HA;go_wp2_with fail;refine H1.mono ?_;rintro e w1 ⟨rfl,rfl⟩;go_wp2_with fail;refine H2.mono ?_;rintro e w1 ⟨rfl,rfl⟩;go_wp2_with fail;refine H3.mono ?_;rintro e w1 ⟨rfl,rfl⟩;clear H1 H2 H3;go_wp2_with fail;refine H4.mono ?_;rintro e w2 ⟨rfl,hb2⟩;have hbw2:=Fi.trans (hb2.mono Fi.size);clear hb2 Fi k0 k1 k2 H4;cases v4:dup (ds.take j) ll
   .
    have HF:Hid (aCm ds j=true):=by show _=_;rw[HA'.out,v4];rfl
    clear v4;go_wp2;go_roundw
    case rel=>exact⟨j+1,by omega,by go_num,dY Bl.out HF.out,hbw2⟩
    case measure=>simp[intOf];omega
   .
    have HF:Hid (jA ds=false):=gJ HJ.out (by rw[HA'.out,v4];rfl);clear v4;go_wp2;go_ret;exact⟨aF HF.out.symm,hbw2⟩
  .
   have:j=n:=A0;subst this;go_wp2;go_ret;exact⟨aF (pW A74 (by rw[Hd.out];exact Bl.out)).symm,Cg⟩
set_option maxHeartbeats 4000000 in
theorem sJ (o:O5)(b:ObL)(w:World)(h:vV w o b)(hs:osz b<=1048576):
  Calls Tryz.prog 14 #[.agg #[o.x,o.e,o.i,o.d,o.c]] w fun e w'=>e=.returned (.bool (dF b))/\Below w.heap.size w w':=by
 obtain⟨x,xe,xi,xd,xc⟩:=o;have EX:=aJ1 hs h.exs;have IM:=aJ0 hs h.ims;obtain⟨nm,ex,im,dt,cd,_,_⟩:=h;simp only at nm ex im dt cd;obtain⟨a1,c1,rfl,r1,v1,_⟩:=nm;obtain⟨a2,c2,rfl,r2,v2,_⟩:=ex;obtain⟨a3,c3,rfl,r3,_⟩:=im;obtain⟨a4,c4,rfl,r4,_⟩:=cd;subst dt;clear r4;unfold osz at hs;have x0:=B5.new w 36 ⟨.slice a1 b.name.length c1,.slice a2 b.ex.length c2,.slice a3 b.im.length c3,.int .i64 b.data,.slice a4 b.code.length c4⟩;have y0:Below w.heap.size w (w.alloc (.cells #[.slice a1 b.name.length c1,.slice a2 b.ex.length c2,.slice a3 b.im.length c3,.int .i64 b.data,.slice a4 b.code.length c4] 36 (0,0))):=(zD2 _ _).alloc (zB0 _) _;simp only at x0;have HO:Hid (dF b=(aO b.name true && jA b.ex && iE b.im && jY b.data 0 200 && decide (b.code.length<=9000))):=rfl;go_enter Tryz.func14,Tryz.ntmps14;go_upto_region 1 with fail;generalize w.alloc (.cells #[.slice a1 b.name.length c1,.slice a2 b.ex.length c2,.slice a3 b.im.length c3,.int .i64 b.data,.slice a4 b.code.length c4] 36 (0,0))=w0 at *;have H1:=lA a1 b.name.length c1 b.name true w0 (r1.below y0) A0 v1;have H2:=uU a2 b.ex.length c2 b.ex w0 (r2.below y0) v2 EX A0;obtain⟨k0,k1,_,_,_⟩:=x0.facts;clear r1 r2;cases e1:aO b.name true
 .
  have HF:Hid (dF b=false):=by show _=_;rw[HO.out,e1];rfl
  rw[e1]at H1;go_wp2_with fail;refine H1.mono ?_;rintro e w0 ⟨rfl,rfl⟩;go_wp2;go_ret;exact⟨aF HF.out.symm,y0⟩
 rw[e1]at H1;have Ww:Hid (dF b=(jA b.ex && iE b.im && jY b.data 0 200 && decide (b.code.length<=9000))):=by show _=_;rw[HO.out,e1];rfl
 clear e1 HO;go_wp2_with fail;refine H1.mono ?_;rintro e w0 ⟨rfl,rfl⟩;go_wp2_with fail;refine H2.mono ?_;rintro e w1 ⟨rfl,hb1⟩;have x1:=x0.below hb1 x0.lt;have y1:=y0.trans (hb1.mono y0.size);have H3:=uT a3 b.im.length c3 b.im w1 (r3.below y1) IM A0;clear x0 y0 hb1 H1 H2 k0 k1 r3;obtain⟨_,_,k2,_,_⟩:=x1.facts;cases e1:jA b.ex
 .
  have HF:Hid (dF b=false):=by show _=_;rw[Ww.out,e1];rfl
  go_wp2;go_ret;exact⟨aF HF.out.symm,y1⟩
 have Jh:Hid (dF b=(iE b.im && jY b.data 0 200 && decide (b.code.length<=9000))):=by show _=_;rw[Ww.out,e1];rfl
 clear e1 Ww;go_wp2_with fail;refine H3.mono ?_;rintro e w2 ⟨rfl,hb2⟩;have x2:=x1.below hb2 x1.lt;have y2:=y1.trans (hb2.mono y1.size);have H4:=iO b.data 0 200 w2;clear x1 y1 hb2 H3 k2;obtain⟨_,_,_,k3,k4⟩:=x2.facts;cases e1:iE b.im
 .
  have HF:Hid (dF b=false):=by show _=_;rw[Jh.out,e1];rfl
  go_wp2;go_ret;exact⟨aF HF.out.symm,y2⟩
 have Zl:Hid (dF b=(jY b.data 0 200 && decide (b.code.length<=9000))):=by show _=_;rw[Jh.out,e1];rfl
 clear e1 Jh;go_wp2_with fail;refine H4.mono ?_;rintro e w2 ⟨rfl,rfl⟩;have HB:Hid (jY b.data 0 200=(decide (0<=b.data) && decide (b.data<=200))):=rfl;cases e1:(decide (0<=b.data) && decide (b.data<=200))
 .
  have HF:Hid (dF b=false):=by show _=_;rw[Zl.out,HB.out,e1];rfl
  clear e1 H4;go_wp2;go_ret;exact⟨aF HF.out.symm,y2⟩
 have HF:Hid (dF b=decide (b.code.length<=9000)):=by show _=_;rw[Zl.out,HB.out,e1];rfl
 clear e1 H4;go_wp2;go_ret;exact⟨aF (by rw[HF.out];apply decide_eq_decide.2;omega),y2⟩
end Go.Proofs.YtcbhdhmhidpdgaaGreat

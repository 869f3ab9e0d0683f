import Derived.Test.YtcbhdhmhidpdgaaGreatPackE
import Derived.Deep.Cut
import Derived.Deep.CutRange
import Derived.Deep.RegionHeld3
namespace Go.Proofs.YtcbhdhmhidpdgaaGreat
open Go.RowKit
set_option linter.unusedVariables false
set_option linter.unusedSimpArgs false
set_option maxRecDepth 100000
theorem QA44{p:Prop}(h:p:=by
 go_wp2
 go_ret
 exact⟨aF HF.out.symm,y0⟩):p:=h
theorem QA69{p:Prop}(h:p:=by
 rintro e w1 ⟨rfl,rfl⟩
 go_wp2
 go_ret
 exact⟨aF HF.out.symm,hbw1⟩):p:=h
theorem QA77{p:Prop}(h:p:=by
 go_wp2
 go_ret
 exact⟨aF HF.out.symm,Zd⟩):p:=h
theorem aJ7 (x:Int)(w:World):Calls Tryz.prog 85 #[.int .i64 x] w fun e w'=>e=.returned (.bool (jY x 0 2147483647))/\w'=w:=by
 by_cases h1:0<=x
 .
  go_enter Tryz.func85,Tryz.ntmps85;go_wp2;go_ret;exact⟨aF (by simp[jY,h1]),rfl⟩
 .
  go_enter Tryz.func85,Tryz.ntmps85;go_wp2;go_ret;exact⟨aF (by simp[jY];omega),rfl⟩
set_option maxHeartbeats 8000000 in
theorem rP (o:O5)(b:ObL)(w:World)(h:vV w o b)(hs:osz b<=1048576):
  Calls Tryz.prog 51 #[.agg #[o.x,o.e,o.i,o.d,o.c]] w fun e w'=>e=.returned (.bool (dF b))/\Below w.heap.size w w':=by
 obtain⟨x,xe,xi,xd,xc⟩:=o;have EX:=hid (aJ1 hs h.exs);have IM:=hid (aJ0 hs h.ims);obtain⟨nm,ex,im,dt,cd,_,_⟩:=h;simp only at nm ex im dt cd;obtain⟨a1,c1,rfl,r1,_⟩:=nm;obtain⟨a2,c2,rfl,r2,v2,_⟩:=ex;obtain⟨a3,c3,rfl,r3,_⟩:=im;obtain⟨a4,c4,rfl,r4,_⟩:=cd;subst dt;clear r4;unfold osz at hs;have x0:=B5.new w 36 ⟨.slice a1 b.name.length c1,.slice a2 b.ex.length c2,.slice a3 b.im.length c3,.int .i64 b.data,.slice a4 b.code.length c4⟩;have y0:Below w.heap.size w (w.alloc (.cells #[.slice a1 b.name.length c1,.slice a2 b.ex.length c2,.slice a3 b.im.length c3,.int .i64 b.data,.slice a4 b.code.length c4] 36 (0,0))):=(zD2 _ _).alloc (zB0 _) _;simp only at x0;have HO:Hid (dF b=(aO b.name true && jA b.ex && iE b.im && jY b.data 0 200 && decide (b.code.length<=9000))):=rfl;go_enter Tryz.func51,Tryz.ntmps51;go_upto_region 1 with fail;generalize w.alloc (.cells #[.slice a1 b.name.length c1,.slice a2 b.ex.length c2,.slice a3 b.im.length c3,.int .i64 b.data,.slice a4 b.code.length c4] 36 (0,0))=w0 at *;have H1:=aR a1 b.name.length c1 b.name true w0 (r1.below y0) A0;have R2:=hid (r2.below y0);have R3:=hid (r3.below y0);obtain⟨k0,k1,k2,k3,k4⟩:=x0.facts;clear r1 r2 r3;cases e1:aO b.name true
 .
  have HF:Hid (dF b=false):=by show _=_;rw[HO.out,e1];rfl
  rw[e1]at H1;go_wp2_with fail;refine H1.mono ?_;rintro e w0 ⟨rfl,rfl⟩;exact QA44
 rw[e1]at H1;have Ww:Hid (dF b=(jA b.ex && iE b.im && jY b.data 0 200 && decide (b.code.length<=9000))):=by show _=_;rw[HO.out,e1];rfl
 clear e1 HO;go_wp2_with fail;refine H1.mono ?_;rintro e w0 ⟨rfl,rfl⟩;clear H1;by_cases m1:8<b.ex.length
 .
  have HF:Hid (dF b=false):=by show _=_;rw[Ww.out,rD m1];rfl
  exact QA44
 by_cases m2:8<b.im.length
 .
  have HF:Hid (dF b=false):=by show _=_;rw[Ww.out,qZ m2];simp
  exact QA44
 by_cases m3:b.data<0
 .
  have HF:Hid (dF b=false):=by show _=_;rw[Ww.out,show jY b.data 0 200=false by unfold jY;rw[zC2 (by omega:¬0<=b.data)];rfl];simp
  exact QA44
 by_cases m4:200<b.data
 .
  have HF:Hid (dF b=false):=by show _=_;rw[Ww.out,show jY b.data 0 200=false by unfold jY;rw[zC2 (by omega:¬b.data<=200)];simp];simp
  exact QA44
 by_cases m5:9000<b.code.length
 .
  have HF:Hid (dF b=false):=by show _=_;rw[Ww.out,zC2 (by omega:¬b.code.length<=9000)];simp
  exact QA44
 have Jh:Hid (dF b=(jA b.ex && iE b.im)):=by
  show _=_
  rw[Ww.out,show jY b.data 0 200=true by unfold jY;rw[zB3 (by omega:0<=b.data),zB3 (by omega:b.data<=200)];rfl,zB3 (by omega:b.code.length<=9000)];simp
 clear Ww;have X0:=hid x0;have hw0:=x0.lt;clear x0;go_wp2_with fail;clear k0 k1 k2 k3 k4;go_loopw [3,4,5] (fun i _ _ wr=>∃j:Nat,j<=b.ex.length/\i=.int .i64 j/\Hid (∀m<j,aCm b.ex m=true)/\Below w0.heap.size w0 wr) (fun i _ _ _=>b.ex.length-(intOf i).toNat)
 case atStart=>exact⟨0,zD1 _,rfl,by intro m hm;omega,zD2 _ _⟩
 case round=>
  obtain⟨j,hj,rfl,Bl,Cg⟩:=hrel;have xr:=B5.below X0.out Cg hw0;obtain⟨_,k1,k2,_,_⟩:=xr.facts;simp only at k1 k2;by_cases Ad:j<b.ex.length
  .
   obtain⟨bb,off,rfl⟩:=jH.addr R2.out A0;obtain⟨⟨rx,ry,rz⟩,d,Hp,hR,q0,q1,q2⟩:=jH.el (jH.below (show jH w0 (some ⟨bb,off,none⟩) b.ex.length b.ex from R2.out) Cg) Ad;obtain⟨ll,p,q,rfl,hll⟩:=EX.out d (zA3 Hp);obtain⟨⟨ax,cx,rfl,Ce,hxc,hxm,_⟩,rfl,rfl⟩:=hR;have HA:=hid (sS Hp);clear Hp hxm;go_upto_region 7 with fail;have x0:=B3.new wr 68 (.slice ax ll.length cx) (.int .i64 p) (.int .i64 q);have y1:Below wr.heap.size wr (wr.alloc (.cells #[.slice ax ll.length cx,.int .i64 p,.int .i64 q] 68 (0,0))):=(zD2 _ _).alloc (zB0 _) _;generalize wr.alloc (.cells #[.slice ax ll.length cx,.int .i64 p,.int .i64 q] 68 (0,0))=w1 at *;have Fi:=Cg.trans (y1.mono Cg.size);have Zd:=y0.trans (Fi.mono y0.size);have H1:=aR ax ll.length cx ll false w1 (Ce.below y1) A0;have H2:=aJ7 p w1;have HX:=hid (Ce.below y1);obtain⟨g0,g1,g2,_,_,_⟩:=x0.facts;have XB:=hid x0;clear q0 q1 q2 x0 y1 Ce Cg xr k1 k2;generalize wr.heap.size=gb at *;cases v1:aO ll false
   .
    have HF:Hid (dF b=false):=by show _=_;rw[Jh.out,gJ Ad (by rw[HA.out,v1];rfl)];rfl
    rw[v1]at H1;go_wp2_with fail;refine H1.mono ?_;rintro e w1 ⟨rfl,rfl⟩;exact QA77
   rw[v1]at H1;cases v2:jY p 0 2147483647
   .
    have HF:Hid (dF b=false):=by show _=_;rw[Jh.out,gJ Ad (by rw[HA.out,v1,v2];rfl)];rfl
    rw[v2]at H2;go_wp2_with fail;refine H1.mono ?_;rintro e w1 ⟨rfl,rfl⟩;go_wp2_with fail;refine H2.mono ?_;rintro e w1 ⟨rfl,rfl⟩;exact QA77
   rw[v2]at H2;have HA1:Hid (aCm b.ex j=(jY q 0 4000 && !dup (b.ex.take j) ll)):=by show _=_;rw[HA.out,v1,v2];rfl
   clear v1 v2 HA;go_wp2_with fail;refine H1.mono ?_;rintro e w1 ⟨rfl,rfl⟩;go_wp2_with fail;refine H2.mono ?_;rintro e w1 ⟨rfl,rfl⟩;clear H1 H2;by_cases u1:q<0
   .
    have HF:Hid (dF b=false):=by show _=_;rw[Jh.out,gJ Ad (by rw[HA1.out];unfold jY;rw[zC2 (by omega:¬0<=q)];rfl)];rfl
    exact QA77
   by_cases u2:4000<q
   .
    have HF:Hid (dF b=false):=by show _=_;rw[Jh.out,gJ Ad (by rw[HA1.out];unfold jY;rw[zC2 (by omega:¬q<=4000)];simp)];rfl
    exact QA77
   have HA2:Hid (aCm b.ex j = !dup (b.ex.take j) ll):=by show _=_;rw[HA1.out];unfold jY;rw[zB3 (by omega:0<=q),zB3 (by omega:q<=4000)];rfl
   clear HA1;go_wp2_with fail;clear g0 g1 g2;go_loopw [5] (fun i wq=>∃k:Nat,k<=j/\i=.int .i64 k/\Hid (dup (b.ex.take k) ll=false)/\Below w1.heap.size w1 wq) (fun i _=>j-(intOf i).toNat)
   case atStart=>exact⟨0,zD1 _,rfl,by show _=_;simp[dup],zD2 _ _⟩
   case round=>
    obtain⟨k,hk,rfl,Aj,hbq⟩:=hrel;have Ze:=Fi.trans (hbq.mono Fi.size);have xr:=B5.below X0.out Ze hw0;obtain⟨_,k1,_,_,_⟩:=xr.facts;have xb:=B3.below XB.out hbq (B3.lt XB.out);obtain⟨g0,_,_,_,_,_⟩:=xb.facts;simp only at k1;by_cases Ln:k<j
    .
     obtain⟨⟨rx,ry,rz⟩,d,Hp,hR,q0,q1,q2⟩:=jH.el (jH.below (show jH w0 (some ⟨bb,off,none⟩) b.ex.length b.ex from R2.out) Ze) (show k<b.ex.length by omega);obtain⟨lk,p',q',rfl,hlk'⟩:=EX.out d (zA3 Hp);obtain⟨⟨ay,cy,rfl,Bu,_⟩,rfl,rfl⟩:=hR;have Ym:=fun d=>aT cy (Bu.drewN d);have Yl:=fun d=>aT cx (aV.drewN (aV.below HX.out hbq) d);have Ur:(k:Int)<(b.ex.length:Int):=A0;have HE:=hid (jM Bu.2.1 HX.out.2.1);have HN:Hid (dup (b.ex.take (k+1)) ll=(dup (b.ex.take k) ll || decide (lk=ll))):=aAv Hp;have HT:Hid (lk=ll->dup (b.ex.take j) ll=true):=fun e=>sU (d:=⟨.b lk,.n p',.n q'⟩) (show(b.ex.take j)[k]?=some _ by rw[List.getElem?_take,if_pos Ln];exact Hp) e;clear Hp Bu;by_cases he:lk=ll
     .
      have hb:=HE.out.trans (zB3 he);have HF:Hid (dF b=false):=by show _=_;rw[Jh.out,gJ Ad (by rw[HA2.out,HT.out he];rfl)];rfl
      clear he HE HN HT;go_wp2_with fail;go_quiet (fail);go_wp2;go_ret;exact⟨aF HF.out.symm,below_drewN (y0.trans (Ze.mono y0.size)) _⟩
     .
      have hb:=HE.out.trans (zC2 he);have HF:Hid (dup (b.ex.take (k+1)) ll=false):=by show _=_;rw[HN.out,Aj.out,zC2 he];rfl
      clear he HE HN HT;go_wp2_with fail;go_quiet (fail);go_wp2;go_roundw
      case rel=>exact⟨k+1,by omega,by go_num,HF,below_drewN hbq _⟩
      case measure=>simp[intOf];omega
    .
     have:k=j:=A0;subst this;have HF:Hid (aCm b.ex k=true):=by show _=_;rw[HA2.out,Aj.out];rfl
     go_wp2;go_roundw
     case rel=>exact⟨k+1,by omega,by go_num,dY Bl.out HF.out,Ze⟩
     case measure=>simp[intOf];omega
  .
   have:j=b.ex.length:=A0;subst this;have Zl:Hid (dF b=iE b.im):=by show _=_;rw[Jh.out,pW A0 Bl.out];rfl
   have Ge:=Nat.lt_of_lt_of_le hw0 Cg.size;have X1:=hid xr;have R4:=hid (jH.below R3.out Cg);have y1:=y0.trans (Cg.mono y0.size);clear Jh Bl Cg xr R2 R3 X0 EX y0 hw0;go_wp2_with fail;clear k1 k2;generalize wr=w9 at *;go_loopw [6,7] (fun i _ wq=>∃j:Nat,j<=b.im.length/\i=.int .i64 j/\Hid (∀m<j,aIb b.im m=true)/\Below w9.heap.size w9 wq) (fun i _ _=>b.im.length-(intOf i).toNat)
   case atStart=>exact⟨0,zD1 _,rfl,by intro m hm;omega,zD2 _ _⟩
   case round=>
    obtain⟨k,hk,rfl,Bl,hbq⟩:=hrel;have xr:=B5.below X1.out hbq Ge;obtain⟨_,_,k2,_,_⟩:=xr.facts;simp only at k2;have Fi:=y1.trans (hbq.mono y1.size);by_cases Ln:k<b.im.length
    .
     obtain⟨bb,off,rfl⟩:=jH.addr R4.out A0;obtain⟨⟨rx,ry,rz⟩,d,Hp,hR,q0,q1,q2⟩:=jH.el (jH.below (show jH w9 (some ⟨bb,off,none⟩) b.im.length b.im from R4.out) hbq) Ln;obtain⟨ll,Qp,p,rfl,hll,hll2⟩:=IM.out d (zA3 Hp);obtain⟨⟨ax,cx,rfl,Ce,_⟩,⟨ay,cy,rfl,Bu,_⟩,rfl⟩:=hR;have HA:=hid (aEp Hp);clear Hp;go_upto_region 18 with fail;have x0:=B3.new wr 87 (.slice ax ll.length cx) (.slice ay Qp.length cy) (.int .i64 p);have yy:Below wr.heap.size wr (wr.alloc (.cells #[.slice ax ll.length cx,.slice ay Qp.length cy,.int .i64 p] 87 (0,0))):=(zD2 _ _).alloc (zB0 _) _;generalize wr.alloc (.cells #[.slice ax ll.length cx,.slice ay Qp.length cy,.int .i64 p] 87 (0,0))=w1 at *;have hbw1:=Fi.trans (yy.mono Fi.size);have hbq1:=hbq.trans (yy.mono hbq.size);have H1:=aR ax ll.length cx ll true w1 (Ce.below yy) A0;have H2:=aR ay Qp.length cy Qp false w1 (Bu.below yy) A0;have H3:=aJ7 p w1;obtain⟨g0,g1,g2,_,_,_⟩:=x0.facts;clear q0 q1 q2 x0 yy Ce Bu hbq xr k2 Fi;cases v1:aO ll true
     .
      have HF:Hid (dF b=false):=by show _=_;rw[Zl.out,kZ Ln (by rw[HA.out,v1];rfl)]
      rw[v1]at H1;go_wp2_with fail;refine H1.mono ?_;exact QA69
     rw[v1]at H1;cases v2:aO Qp false
     .
      have HF:Hid (dF b=false):=by show _=_;rw[Zl.out,kZ Ln (by rw[HA.out,v1,v2];rfl)]
      rw[v2]at H2;go_wp2_with fail;refine H1.mono ?_;rintro e w1 ⟨rfl,rfl⟩;go_wp2_with fail;refine H2.mono ?_;exact QA69
     rw[v2]at H2;cases v3:jY p 0 2147483647
     .
      have HF:Hid (dF b=false):=by show _=_;rw[Zl.out,kZ Ln (by rw[HA.out,v1,v2,v3];rfl)]
      rw[v3]at H3;go_wp2_with fail;refine H1.mono ?_;rintro e w1 ⟨rfl,rfl⟩;go_wp2_with fail;refine H2.mono ?_;rintro e w1 ⟨rfl,rfl⟩;go_wp2_with fail;refine H3.mono ?_;exact QA69
     rw[v3]at H3;have HF:Hid (aIb b.im k=true):=by show _=_;rw[HA.out,v1,v2,v3];rfl
     clear v1 v2 v3 HA;go_wp2_with fail;refine H1.mono ?_;rintro e w1 ⟨rfl,rfl⟩;go_wp2_with fail;refine H2.mono ?_;rintro e w1 ⟨rfl,rfl⟩;go_wp2_with fail;refine H3.mono ?_;rintro e w1 ⟨rfl,rfl⟩;go_wp2;go_roundw
     case rel=>exact⟨k+1,by omega,by go_num,dY Bl.out HF.out,hbq1⟩
     case measure=>simp[intOf];omega
    .
     have:k=b.im.length:=A0;subst this;have HF:Hid (dF b=true):=by show _=_;rw[Zl.out,pP A0 Bl.out]
     go_wp2;go_ret;exact⟨aF HF.out.symm,Fi⟩
end Go.Proofs.YtcbhdhmhidpdgaaGreat

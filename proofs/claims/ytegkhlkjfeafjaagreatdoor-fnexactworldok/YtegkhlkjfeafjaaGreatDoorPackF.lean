import Derived.Test.YtegkhlkjfeafjaaGreatDoorPackD
import Derived.Test.YtegkhlkjfeafjaaGreatDoorTreeEq
import Derived.Maps.Own
import Derived.Maps.OwnOps
import Derived.Maps.OwnSet
import Derived.Maps.Views
import Derived.StringKeys
namespace Go.Proofs.YtegkhlkjfeafjaaGreatDoor
open Go.RowKit
set_option maxHeartbeats 4000000
set_option linter.unusedVariables false
set_option linter.unusedSimpArgs false
set_option maxRecDepth 100000
theorem V96{p:Prop}(h:p:=by rw[<-HN.out];exact List.mem_range.1 hi):p:=h
theorem V101{p:Prop}(h:p:=by show ∀_,_;omega):p:=h
theorem aR4 (a1:Option Addr)(n1 c1:Nat)(l1:List Int)(a2:Option Addr)(n2 c2:Nat)(l2:List Int)(w:World)(h1:pK w a1 n1 l1)(h2:pK w a2 n2 l2)(hn:n1<=1073741824):
  Calls Tryz.prog 155 #[.slice a1 n1 c1,.slice a2 n2 c2] w fun e w'=>e=.returned (.bool (decide (l1=l2)))/\∃k,w'=w.drewN k:=by
 obtain⟨hl1,hby1,hc1⟩:=h1;obtain⟨hl2,hby2,hc2⟩:=h2;have Hl1:=hid hl1;have Hl2:=hid hl2;clear hl1 hl2
 by_cases hne:n1=n2
 .
  subst hne
  rcases zG0 n1 with h0|Am
  .
   subst h0
   have hd:decide (l1=l2)=true:=by
    have e1:=zE0 Hl1.out;have e2:=zE0 Hl2.out
    simp[e1,e2]
   have HD:=hid hd;clear hd hc1 hc2 hby1 hby2;go_enter Tryz.func155,Tryz.ntmps155;exact U333
  .
   obtain⟨b1,o1,rfl,hd1⟩:=hc1 Am;obtain⟨b2,o2,rfl,hd2⟩:=hc2 Am;clear hc1 hc2;go_enter Tryz.func155,Tryz.ntmps155;go_wp2
   go_loopw [5,13] (fun _ i wr=>∃k:Nat,k<=n1/\i=.int .i64 k/\Hid (l1.take k=l2.take k)/\∃d,wr=w.drewN d) (fun _ i _=>n1-(intOf i).toNat)
   case atStart=>exact⟨0,zD1 _,rfl,by simp[Hid],0,rfl⟩
   case round=>
    obtain⟨k,hk,rfl,heq,d,rfl⟩:=hrel
    by_cases Ai:k<n1
    .
     have hx1:=hd1 k Ai;have hx2:=hd2 k Ai;have hb1:=aGg hby1 k;have Ae:=aGg hby2 k
     have hlt':(k:Int)<(n1:Int):=by omega
     by_cases hxe:l1[k]?.getD 0=l2[k]?.getD 0
     .
      have hneq:(l1[k]?.getD 0 != l2[k]?.getD 0)=false:=by simp[hxe]
      have hnext:Hid (l1.take (k+1)=l2.take (k+1)):=rX heq.out (by rw[Hl1.out];exact Ai) (by rw[Hl2.out];exact Ai) hxe
      have HX:=hid hxe;clear hd1 hd2 hxe;go_wp2
      go_quiet (fail)
      go_wp2;go_roundw
      case rel=>exact⟨k+1,by omega,by go_num,hnext,_,rfl⟩
      case measure=>simp[intOf];omega
     .
      have hneq:(l1[k]?.getD 0 != l2[k]?.getD 0)=true:=by simpa using hxe
      have hd:Hid (decide (l1=l2)=false):=by
       show decide (l1=l2)=false
       rw[zH1];rintro rfl;exact hxe rfl
      clear hd1 hd2 hxe;go_wp2
      go_quiet (fail)
      go_wp2;go_ret;exact⟨aE hd.out.symm,_,World.drewN_drewN ..⟩
    .
     exact U299
 .
  have hd:Hid (decide (l1=l2)=false):=by
   exact U330
  have hneq:((n1:Int) != (n2:Int))=true:=by simp;omega
  clear hne;go_enter Tryz.func155,Tryz.ntmps155;exact U200
def aN4 (p q:Fp):Bool:=decide (p.name=q.name) && decide (p.kinds=q.kinds)
def aN3 (f g:Fa):Bool:=decide (f.name=g.name) && (decide (f.procs.length=g.procs.length) && (List.range f.procs.length).all fun i=>aN4 (f.procs[i]?.getD ⟨[],[]⟩) (g.procs[i]?.getD ⟨[],[]⟩))
theorem aRc (p q:Fp)(vs us:List Value)(w:World)(h:aO w p.fl vs)(k:aO w q.fl us)(hn:p.kinds.length<=1073741824):
  Calls Tryz.prog 109 #[.agg vs.toArray,.agg us.toArray] w fun e w'=>e=.returned (.bool (aN4 p q))/\Below w.heap.size w w':=by
 obtain⟨v0,_,rfl,⟨a0,c0,rfl,h0,_⟩,v1,_,rfl,⟨a1,c1,rfl,h1,_⟩,rfl⟩:=h;obtain⟨u0,_,rfl,⟨b0,d0,rfl,k0,_⟩,u1,_,rfl,⟨b1,d1,rfl,k1,_⟩,rfl⟩:=k;obtain⟨x,y,hb⟩:=gZ w 62 [.slice a0 p.name.length c0,.slice a1 p.kinds.length c1] [.slice b0 q.name.length d0,.slice b1 q.kinds.length d1];go_enter Tryz.func109,Tryz.ntmps109;go_upto_region 1 with fail;simp only[List.toArray]at x y hb;generalize (w.alloc (.cells #[.slice a0 p.name.length c0,.slice a1 p.kinds.length c1] 62 (0,0))).alloc (.cells #[.slice b0 q.name.length d0,.slice b1 q.kinds.length d1] 62 (0,0))=w0 at *;obtain⟨q0,q1⟩:=x.c2;obtain⟨r0,r1⟩:=y.c2;have HE:=iY a0 p.name.length c0 p.name b0 q.name.length d0 q.name w0 (h0.below hb) (k0.below hb);have HK:=aR4 a1 p.kinds.length c1 p.kinds b1 q.kinds.length d1 q.kinds w0 (h1.below hb) (k1.below hb) hn;clear h0 k0 h1 k1 x y
 by_cases he:p.name=q.name
 .
  have HF:Hid (aN4 p q=decide (p.kinds=q.kinds)):=by show _=_;simp[aN4,he]
  rw[zB3 he]at HE;generalize decide (p.kinds=q.kinds)=bk at HF HK;clear he;go_wp2_with fail;refine HE.mono ?_;rintro e w1 ⟨rfl,rfl⟩;go_wp2_with fail;refine HK.mono ?_;rintro e w1 ⟨rfl,d,rfl⟩;clear HE HK q0 q1 r0 r1;go_wp2;go_ret;exact⟨aE HF.out.symm,below_drewN hb d⟩
 .
  have HF:Hid (aN4 p q=false):=by show _=_;simp[aN4,he]
  rw[zC2 he]at HE;clear he HK;go_wp2_with fail;refine HE.mono ?_;rintro e w1 ⟨rfl,rfl⟩;clear HE;go_wp2;go_ret;exact⟨aE HF.out.symm,hb⟩
theorem aR5 (l m:List Fp)(a:Option Addr)(n c:Nat)(b:Option Addr)(k d:Nat)(w:World)(h:aS w a c 2 (l.map Fp.fl))(hl:l.length=n)(h2:aS w b d 2 (m.map Fp.fl))(hm:m.length=k)(hs:∀p ∈ l,p.kinds.length<=1073741824):
  Calls Tryz.prog 108 #[.slice a n c,.slice b k d,.func (.func 109) #[] #[]] w fun e w'=>e=.returned (.bool (decide (l.length=m.length) && (List.range l.length).all fun i=>aN4 (l[i]?.getD ⟨[],[]⟩) (m[i]?.getD ⟨[],[]⟩)))/\w.grownBy w' none:=by
 have h9:=h.len9;have h8:=h2.len9;rw[zB2,hl]at h9;rw[zB2,hm]at h8;have HL:=hid h;have HM:=hid h2;have HN:=hid hl;have HK:=hid hm;have HS:=hid hs;clear h h2 hl hm hs;go_enter Tryz.func108,Tryz.ntmps108
 by_cases hne:n=k
 .
  subst hne;go_wp2_with fail
  go_loopw [7,8,9,17] (fun _ _ _ i wr=>∃j:Nat,j<=n/\i=.int .i64 j/\Hid (∀i,i<j->aN4 (l[i]?.getD ⟨[],[]⟩) (m[i]?.getD ⟨[],[]⟩)=true)/\Hid (w.grownBy wr none)) (fun _ _ _ i _=>n-(intOf i).toNat)
  case atStart=>exact⟨0,zD1 _,rfl,V101,aN0 _ _⟩
  case round=>
   obtain⟨j,hj,rfl,Af,Hg⟩:=hrel;have yw:=Hg.out;have bw:=aA yw
   by_cases Ai:j<n
   .
    obtain⟨x,hx⟩:∃x,l[j]?=some x:=⟨_,zA0 V93⟩
    obtain⟨y,hy⟩:∃y,m[j]?=some y:=⟨_,zA0 (by rw[HK.out];exact Ai)⟩
    have HX:Hid (l[j]?=some x/\m[j]?=some y):=⟨hx,hy⟩
    obtain⟨b1,o1,ys,rfl,hys,Ab⟩:=aS.cellsAt HL.out (show(l.map Fp.fl)[j]?=some x.fl by rw[zA2,hx];rfl)
    obtain⟨b2,o2,zs,rfl,hzs,hcz⟩:=aS.cellsAt HM.out (show(m.map Fp.fl)[j]?=some y.fl by rw[zA2,hy];rfl)
    have hys':=hys;have hzs':=hzs;obtain⟨s0,_,rfl,⟨e0,f0,rfl,_⟩,s1,_,rfl,⟨e1,f1,rfl,_⟩,rfl⟩:=hys';obtain⟨t0,_,rfl,⟨i0,j0,rfl,_⟩,t1,_,rfl,⟨i1,j1,rfl,_⟩,rfl⟩:=hzs';have p0:=aB (Ab 0 _ rfl) bw;have p1:=aB (Ab 1 _ rfl) bw;have q0:=aB (hcz 0 _ rfl) bw;have q1:=aB (hcz 1 _ rfl) bw;rw[zG2]at p0 q0;have HP:=HS.out x (zA3 hx)
    have HC:=fun w2 (hb:Below wr.heap.size wr w2)=>aRc x y _ _ w2 (hys.below (bw.trans (hb.mono bw.size))) (hzs.below (bw.trans (hb.mono bw.size))) HP
    simp only[List.toArray]at HC;clear Ab hcz hx hy hys hzs;generalize x.name.length=n0 at *;generalize x.kinds.length=n1 at *;generalize y.name.length=m0 at *;generalize y.kinds.length=m1 at *
    have hjn:(j:Int)<(n:Int):=by omega
    go_upto_region 6 with fail
    have y1:Below wr.heap.size wr (wr.alloc (.cells #[.slice e0 n0 f0,.slice e1 n1 f1] 62 (0,0))):=(zD2 _ _).alloc (zB0 _) _
    have x1:=Blk.new wr 62 [.slice e0 n0 f0,.slice e1 n1 f1];simp only[List.toArray]at x1;replace q0:=aB q0 y1;replace q1:=aB q1 y1;generalize wr.alloc (.cells #[.slice e0 n0 f0,.slice e1 n1 f1] 62 (0,0))=w1 at *;generalize wr.heap.size=g1 at x1 ⊢;go_upto_region 7 with fail
    have y2:Below w1.heap.size w1 (w1.alloc (.cells #[.slice i0 m0 j0,.slice i1 m1 j1] 62 (0,0))):=(zD2 _ _).alloc (zB0 _) _
    have x2:=Blk.new w1 62 [.slice i0 m0 j0,.slice i1 m1 j1];simp only[List.toArray]at x2;replace x1:=x1.below y2 x1.lt;have y3:=y1.trans (y2.mono y1.size);generalize w1.alloc (.cells #[.slice i0 m0 j0,.slice i1 m1 j1] 62 (0,0))=w2 at *;generalize w1.heap.size=g2 at x2 ⊢;have HC2:=HC w2 y3;obtain⟨c0,c1⟩:=x1.c2;obtain⟨c2,c3⟩:=x2.c2;have yg:=aD yw (aI y3 none);clear HC p0 p1 q0 q1 y1 y2 y3 x1 x2 yw bw Hg
    cases hk:aN4 x y
    .
     have HF:Hid (((List.range l.length).all fun i=>aN4 (l[i]?.getD ⟨[],[]⟩) (m[i]?.getD ⟨[],[]⟩))=false):=by
      show _=_
      rw[zH3]
      exact⟨j,List.mem_range.2 V93,by rw[HX.out.1,HX.out.2];simpa using hk⟩
     rw[hk]at HC2;clear hk;go_wp2_with fail;refine HC2.mono ?_;rintro e w3 ⟨rfl,hb3⟩;clear c0 c1 c2 c3 HC2;go_wp2;go_ret
     exact⟨aE (by rw[HF.out,Bool.and_false]),aD yg (aI hb3 none)⟩
    .
     have HT:Hid (aN4 (l[j]?.getD ⟨[],[]⟩) (m[j]?.getD ⟨[],[]⟩)=true):=by show _=_;rw[HX.out.1,HX.out.2];exact hk
     rw[hk]at HC2;clear hk;go_wp2_with fail;refine HC2.mono ?_;rintro e w3 ⟨rfl,hb3⟩;have HY:=hid (aD yg (aI hb3 none));clear c0 c1 c2 c3 HC2 yg hb3;go_wp2;go_roundw
     case rel=>exact⟨j+1,by omega,by go_num,(show ∀i,i<j+1->_ from fun i hi=>(zK1 i j).elim (fun h=>Af.out i h) (fun h=>(show j=i by omega) ▸ HT.out)),HY⟩
     case measure=>simp[intOf];omega
   .
    have hjn:j=n:=by omega
    subst hjn
    have HT:Hid (((List.range l.length).all fun i=>aN4 (l[i]?.getD ⟨[],[]⟩) (m[i]?.getD ⟨[],[]⟩))=true):=zF3.2 fun i hi=>Af.out i V96
    clear bw Af;go_wp2;go_ret
    exact⟨aE (by rw[HT.out,zB3 (HN.out.trans HK.out.symm)];rfl),yw⟩
 .
  have hne':((n:Int) != (k:Int))=true:=by simp;omega
  go_wp2;go_ret
  exact⟨aE (by rw[zC2 (by rw[HN.out,HK.out];exact hne)];rfl),aN0 _ _⟩
theorem aRd (f g:Fa)(vs us:List Value)(w:World)(h:aO w f.fl vs)(k:aO w g.fl us)(hs:∀p ∈ f.procs,p.kinds.length<=1073741824):
  Calls Tryz.prog 59 #[.agg vs.toArray,.agg us.toArray] w fun e w'=>e=.returned (.bool (aN3 f g))/\w.grownBy w' none:=by
 obtain⟨v0,_,rfl,⟨a0,c0,rfl,h0,_⟩,v1,_,rfl,h1',rfl⟩:=h;obtain⟨u0,_,rfl,⟨b0,d0,rfl,k0,_⟩,u1,_,rfl,k1',rfl⟩:=k;obtain⟨a1,c1,rfl,h1⟩:=h1'.list;obtain⟨b1,d1,rfl,k1⟩:=k1'.list;rw[zB2,zB2];obtain⟨x,y,hb⟩:=gZ w 52 [.slice a0 f.name.length c0,.slice a1 f.procs.length c1] [.slice b0 g.name.length d0,.slice b1 g.procs.length d1];go_enter Tryz.func59,Tryz.ntmps59;go_upto_region 1 with fail;simp only[List.toArray]at x y hb;generalize (w.alloc (.cells #[.slice a0 f.name.length c0,.slice a1 f.procs.length c1] 52 (0,0))).alloc (.cells #[.slice b0 g.name.length d0,.slice b1 g.procs.length d1] 52 (0,0))=w0 at *;obtain⟨q0,q1⟩:=x.c2;obtain⟨r0,r1⟩:=y.c2;have HE:=iY a0 f.name.length c0 f.name b0 g.name.length d0 g.name w0 (h0.below hb) (k0.below hb);have HK:=aR5 f.procs g.procs a1 f.procs.length c1 b1 g.procs.length d1 w0 (h1.below hb) rfl (k1.below hb) rfl hs;have yg:=aI hb none;clear h0 k0 h1 k1 h1' k1' x y hb hs
 by_cases he:f.name=g.name
 .
  have HF:Hid (aN3 f g=(decide (f.procs.length=g.procs.length) && (List.range f.procs.length).all fun i=>aN4 (f.procs[i]?.getD ⟨[],[]⟩) (g.procs[i]?.getD ⟨[],[]⟩))):=by show _=_;unfold aN3;rw[zB3 he,Bool.true_and]
  rw[zB3 he]at HE
  generalize (decide (f.procs.length=g.procs.length) && (List.range f.procs.length).all fun i=>aN4 (f.procs[i]?.getD ⟨[],[]⟩) (g.procs[i]?.getD ⟨[],[]⟩))=bk at HF HK
  clear he;go_wp2_with fail;refine HE.mono ?_;rintro e w1 ⟨rfl,rfl⟩;go_wp2_with fail;refine HK.mono ?_;rintro e w2 ⟨rfl,hg⟩;clear HE HK q0 q1 r0 r1;go_wp2;go_ret;exact⟨aE HF.out.symm,aD yg hg⟩
 .
  have HF:Hid (aN3 f g=false):=by show _=_;unfold aN3;rw[zC2 he,Bool.false_and]
  rw[zC2 he]at HE;clear he HK;go_wp2_with fail;refine HE.mono ?_;rintro e w1 ⟨rfl,rfl⟩;clear HE;exact U318
def jX (fs:List Fa):Bool:=decide (fs.length<=8) && fs.all lA && gC (fs.map Fa.name)
theorem aFs (a:Option Addr)(c:Nat)(l:List Fa)(w:World)(h:aS w a c 2 (l.map Fa.fl))(hs:∀f ∈ l,f.name.length<=1048576/\∀q ∈ f.procs,q.name.length<=1048576):
  Calls Tryz.prog 46 #[.slice a l.length c,.func (.func 47) #[] #[]] w fun e w'=>e=.returned (.bool (l.all lA))/\w.grownBy w' none:=by
 refine(aJd 47 #[] none a l.length c (l.map Fa.fl) (fun j=>lA (l[j]?.getD ⟨[],[]⟩)) (fun _ wr=>w.grownBy wr none) (fun _ _=>True) w ⟨cK Tryz.func47 rfl rfl,fun j wr hi=>h.below (aA hi), ?_, ?_⟩ V15 (aN0 _ _) (fun j w1 w2 h1 h2=>aD h1 h2) V15 (cK Tryz.func87 rfl rfl)).mono ?_
 .
  exact U287
 .
  intro j r wr vs hr hi Ad _;rw[zA2]at hr;obtain⟨x,hx,rfl⟩:=zF0.1 hr;rw[hx];have hxs:=hs x (zA3 hx);obtain⟨y0,us,rfl,⟨a0,c0,rfl,Ar,hc0,_⟩,y1,us2,rfl,h1,rfl⟩:=Ad;obtain⟨a1,c1,rfl,hL1⟩:=h1.list;rw[zB2]
  refine(zP x a0 c0 a1 c1 wr Ar V6 hc0 hL1 (fun q hq=>by have:=hxs.2 q hq;omega)).mono ?_
  rintro e w' ⟨rfl,hg⟩
  exact⟨rfl,hg,fun _=>aD hi hg,fun _=>trivial⟩
 .
  rintro e w' ⟨r,rfl,hg,ht⟩;refine⟨aE ?_,hg⟩;rw[fV ht];exact fM l ⟨[],[]⟩ lA
set_option maxHeartbeats 1000000 in
theorem wS (l:List Fa)(a:Option Addr)(n c:Nat)(w:World)(hn:l.length=n)(h:aS w a c 2 (l.map Fa.fl))(hs:∀f ∈ l,f.name.length<=1048576/\∀q ∈ f.procs,q.name.length<=1048576):
  Calls Tryz.prog 24 #[.slice a n c] w fun e w'=>e=.returned (.bool (jX l))/\w.grownBy w' none:=by
 subst hn;have HK:=aFs a c l w h hs
 have hcn:l.length<=9223372036854775807:=by have h2:=h.most;have h3:=h.cap;simp only[zB2]at h3;unfold maxLen at h2;omega
 have HU:∀w3,w.grownBy w3 none->Calls Tryz.prog 48 #[.slice a l.length c,.func (.func 49) #[] #[]] w3 fun e w'=>e=.returned (.bool (gC (l.map Fa.name)))/\w.grownBy w' none:=by
  intro w3 h3;refine(xJ (cK Tryz.func170 rfl rfl) a c l l.length w3 rfl (h.below (aA h3))).mono ?_;rintro e w' ⟨rfl,hg⟩;exact⟨rfl,aD h3 hg⟩
 have he:Hid (jX l=(decide (l.length<=8) && l.all lA && gC (l.map Fa.name))):=rfl
 clear h hs;generalize gC (l.map Fa.name)=r3 at HU he;generalize l.all lA=r2 at HK he;generalize l.length=n1 at *;generalize hr1:decide (n1<=8)=r1 at he;go_enter Tryz.func24,Tryz.ntmps24
 by_cases h4:n1<=8
 .
  have Bl:(n1:Int)<=8:=V6
  have hr:Hid (r1=true):=by show _=_;rw[<-hr1];exact zB3 h4
  clear hr1;go_wp2_with fail;refine HK.mono ?_;rintro e w3 ⟨rfl,hg⟩;clear HK
  cases r2 with
  | false=>
   clear HU;go_wp2;go_ret;exact⟨aE V46,hg⟩
  | true=>
   have HU3:=HU w3 hg;exact U350
 .
  have Bl:¬(n1:Int)<=8:=V6
  have hr:Hid (r1=false):=by show _=_;rw[<-hr1];exact zC2 h4
  clear hr1 HK HU;go_wp2;go_ret;exact⟨aE V46,aN0 _ _⟩
theorem U352{p:Prop}(h:p:=by
 go_wp2
 go_roundw
 case rel=>exact⟨m+1,by omega,by go_num,HF,hbz⟩
 case measure=>simp[intOf];omega):p:=h
theorem aCs {f:Fa}(h:aK f.name true=false):lA f=false:=by unfold lA;rw[h];rfl
theorem aCt {f:Fa}(h:8<f.procs.length):lA f=false:=by unfold lA;rw[zC2 (by omega:¬f.procs.length<=8)];simp
theorem oT {f:Fa}{j:Nat}{q:Fp}(h:f.procs[j]?=some q)(hq:nT q=false):lA f=false:=by
 have:f.procs.all nT=false:=by rw[zH3];exact⟨q,zA3 h,by simp[hq]⟩
 unfold lA;rw[this];simp
theorem aE9 {f:Fa}{j:Nat}(hj:j<f.procs.length)(h:unl (f.procs.map Fp.name) j=false):lA f=false:=by
 unfold lA;rw[mT V85 h];simp
theorem aE8 {f:Fa}(h0:aK f.name true=true)(h8:f.procs.length<=8)(h:∀j,j<f.procs.length->unl (f.procs.map Fp.name) j=true/\∀q,f.procs[j]?=some q->nT q=true):lA f=true:=by
 have h1:f.procs.all nT=true:=by
  rw[zF3];intro q hq;obtain⟨j,hj,rfl⟩:=List.mem_iff_getElem.1 hq;exact(h j hj).2 _ (zA0 hj)
 unfold lA;rw[h0,h1,zB3 h8,mS fun i hi=>(h i V78).1];rfl
theorem aCm {q:Fp}(h:aK q.name false=false):nT q=false:=by unfold nT;rw[h];rfl
theorem aCn {q:Fp}(h:4<q.kinds.length):nT q=false:=by unfold nT;rw[zC2 (by omega:¬q.kinds.length<=4)];simp
theorem aCo {q:Fp}{k:Nat}(hk:k<q.kinds.length)(h:sT (q.kinds[k]?.getD 0)=false):nT q=false:=by
 have:q.kinds.all sT=false:=by
  rw[zH3];rw[zA0 hk]at h
  exact⟨_,List.getElem_mem hk,by simpa using h⟩
 unfold nT;rw[this];simp
theorem aE4 {q:Fp}(h0:aK q.name false=true)(h4:q.kinds.length<=4)(h:∀k,k<q.kinds.length->sT (q.kinds[k]?.getD 0)=true):nT q=true:=by
 have h1:q.kinds.all sT=true:=by rw[<-fM q.kinds 0 sT,zF3];intro j hj;exact h j V85
 unfold nT;rw[h0,h1,zB3 h4];rfl
set_option maxHeartbeats 8000000 in
theorem yS (f:Fa)(a0:Option Addr)(c0:Nat)(a1:Option Addr)(c1:Nat)(w:World)(h0:bW w a0 f.name.length f.name)(hn0:f.name.length<=1073741824)(h1:aS w a1 c1 2 (f.procs.map Fp.fl))(hs:∀q ∈ f.procs,q.name.length<=1048576):
  Calls Tryz.prog 35 #[.agg #[.slice a0 f.name.length c0,.slice a1 f.procs.length c1]] w fun e w'=>e=.returned (.bool (lA f))/\w.grownBy w' none:=by
 refine M9146 ?_;intro y0 q0 q1;have HN:=bI a0 _ c0 f.name true _ (h0.below (aA y0)) hn0;have HL:=hid h1;have HS:=hid hs
 have hcn:f.procs.length<=9223372036854775807:=by have h2:=h1.most;have h3:=h1.cap;simp only[zB2]at h3;unfold maxLen at h2;omega
 clear h0 h1 hs;generalize hn:f.procs.length=n at q0 q1 hcn y0 HN ⊢;generalize hm:f.name.length=n0 at q0 q1 y0 HN ⊢;clear hm;have Hn:=hid hn;clear hn;go_enter Tryz.func35,Tryz.ntmps35;go_upto_region 1 with fail;generalize w.alloc (.cells #[.slice a0 n0 c0,.slice a1 n c1] 52 (0,0))=w0 at *
 cases e1:aK f.name true
 .
  have HF:=hid (aCs e1);rw[e1]at HN;clear e1;go_wp2_with fail;refine HN.mono ?_;rintro e w1 ⟨rfl,rfl⟩;go_wp2;go_ret;exact⟨aE HF.out.symm,y0⟩
 rw[e1]at HN;have H1:=hid e1;clear e1;go_wp2_with fail;refine HN.mono ?_;rintro e w0 ⟨rfl,rfl⟩;clear HN
 by_cases m1:8<n
 .
  have HF:Hid (lA f=false):=aCt (by rw[Hn.out];exact m1)
  have m1':(8:Int)<(n:Int):=V6;go_wp2;go_ret;exact⟨aE HF.out.symm,y0⟩
 have m1':¬(8:Int)<(n:Int):=V6;have q1':=q1;go_wp2_with fail;clear q0 q1;have W0:=hid y0;have Q1:=hid q1';clear y0 q1'
 go_loopw [3,4,5] (fun i _ _ wr=>∃j:Nat,j<=n/\i=.int .i64 j/\Hid (∀m,m<j->unl (f.procs.map Fp.name) m=true/\∀q,f.procs[m]?=some q->nT q=true)/\w0.grownBy wr none) (fun i _ _ _=>n-(intOf i).toNat)
 case atStart=>exact⟨0,zD1 _,rfl,by show ∀_,_;omega,aN0 _ _⟩
 case round=>
  obtain⟨j,hj,rfl,Af,hbr⟩:=hrel;have k1:=aB Q1.out (aA hbr);have Aq:=aD W0.out hbr
  by_cases Ai:j<n
  .
   obtain⟨b,off,rfl⟩:=aS.addr HL.out (by simp only[zB2];rw[Hn.out];omega)
   obtain⟨x,hx⟩:∃x,f.procs[j]?=some x:=⟨f.procs[j]'(by rw[Hn.out];exact Ai),zA0 _⟩
   have Ak:(f.procs.map Fp.fl)[j]?=some (Fp.fl x):=by rw[zA2,hx];rfl
   obtain⟨vs,Ad,Ab⟩:=((aS.below HL.out (aA Aq)).el Ak).vals;obtain⟨y0,us,rfl,⟨ax,cx,rfl,hbx,_⟩,y1,us2,rfl,⟨ay,cy,rfl,hky,hcy,hmy,_⟩,rfl⟩:=Ad
   have q0:wr.cell? ⟨b,off+j*2,none⟩=some (.slice ax x.name.length cx):=Ab 0 _ rfl
   have q1:wr.cell? ⟨b,off+j*2+1,none⟩=some (.slice ay x.kinds.length cy):=Ab 1 _ rfl
   have hxl:=HS.out x (zA3 hx);have H2:=bI ax x.name.length cx x.name false wr hbx V6;have HX:=hid hbx;have HY:=hid hky
   have hkn:x.kinds.length<=9223372036854775807:=by unfold maxLen at hmy;omega
   have HJ:=hid hx
   have HU:Hid (unl (f.procs.map Fp.name) j = !((f.procs.take j).any fun y=>decide (y.name=x.name))):=by
    show _=_
    unfold unl
    rw[show(f.procs.map Fp.name)[j]?.getD []=x.name by rw[zA2,hx];rfl,<-List.map_take,List.any_map]
    rfl
   clear Ab hx Ak hbx hky hcy hmy;generalize As:x.kinds.length=nk at *;have Hk:=hid As;clear As;generalize hxl:x.name.length=nx at *;clear hxl
   cases v1:aK x.name false
   .
    have HF:=hid (oT HJ.out (aCm v1));rw[v1]at H2;clear v1;go_wp2_with fail;refine H2.mono ?_;rintro e w1 ⟨rfl,rfl⟩;go_wp2;go_ret;exact⟨aE HF.out.symm,Aq⟩
   rw[v1]at H2;have HV:=hid v1;clear v1;go_wp2_with fail;refine H2.mono ?_;rintro e wr ⟨rfl,rfl⟩;clear H2
   by_cases m2:4<nk
   .
    have HF:Hid (lA f=false):=oT HJ.out (aCn (by rw[Hk.out];exact m2))
    have m2':(4:Int)<(nk:Int):=V6;go_wp2;go_ret;exact⟨aE HF.out.symm,Aq⟩
   have m2':¬(4:Int)<(nk:Int):=V6;have k1':=k1;have p0:=q0;have p1:=q1;go_wp2_with fail;have K1:=hid k1';have P0:=hid p0;have P1:=hid p1;clear k1 q0 q1 k1' p0 p1;generalize wr=w5 at *
   go_loopw [4] (fun i wr=>∃k:Nat,k<=j/\i=.int .i64 k/\Hid (((f.procs.take k).any fun y=>decide (y.name=x.name))=false)/\w5.grownBy wr none) (fun i _=>j-(intOf i).toNat)
   case atStart=>exact⟨0,zD1 _,rfl,by show _=_;simp,aN0 _ _⟩
   case round=>
    obtain⟨k,hk,rfl,hno,hbq⟩:=hrel;have hbb:=aA hbq;have k1:=aB K1.out hbb;have p0:=aB P0.out hbb;have hgq:=aD Aq hbq
    by_cases hlk:k<j
    .
     obtain⟨y,hy⟩:∃y,f.procs[k]?=some y:=⟨f.procs[k]'(by rw[Hn.out];omega),zA0 _⟩
     have hyk:(f.procs.map Fp.fl)[k]?=some (Fp.fl y):=by rw[zA2,hy];rfl
     obtain⟨vs,Ad,Ab⟩:=((aS.below HL.out (aA hgq)).el hyk).vals;obtain⟨z0,us,rfl,⟨az,cz,rfl,hbz,_⟩,z1,us2,rfl,_,rfl⟩:=Ad
     have r0:wr.cell? ⟨b,off+k*2,none⟩=some (.slice az y.name.length cz):=Ab 0 _ rfl
     have kc1:=fun d=>aT cz (hbz.drewN d)
     have kc2:=fun d=>aT cx (bW.drewN (bW.below HX.out hbb) d)
     have HE:=hid (iI hbz.2.1 HX.out.2.1)
     have HN2:Hid (((f.procs.take (k+1)).any fun y=>decide (y.name=x.name))=(((f.procs.take k).any fun y=>decide (y.name=x.name)) || decide (y.name=x.name))):=by
      show _=_
      obtain⟨h5,h6⟩:=zC1.1 hy;rw[zF1 h5,h6];simp
     have HT:Hid (y.name=x.name->((f.procs.take j).any fun y=>decide (y.name=x.name))=true):=fun e=>by
      rw[List.any_eq_true]
      exact⟨y,zA3 (show(f.procs.take j)[k]?=some y by rw[List.getElem?_take,if_pos hlk];exact hy),by simp[e]⟩
     have hk':(k:Int)<(n:Int):=V6;have hj':(j:Int)<(n:Int):=V6;clear Ab hy hyk hbz hbb
     by_cases he:y.name=x.name
     .
      have hb:=HE.out.trans (zB3 he)
      have HF:Hid (lA f=false):=aE9 (by rw[Hn.out];exact Ai) (by rw[HU.out,HT.out he];rfl)
      clear he HE HN2 HT;go_wp2_with fail
      go_quiet (fail)
      go_wp2;go_ret;exact⟨aE HF.out.symm,aI (below_drewN (aA hgq) _) _⟩
     .
      have hb:=HE.out.trans (zC2 he)
      have HF:Hid (((f.procs.take (k+1)).any fun y=>decide (y.name=x.name))=false):=by show _=_;rw[HN2.out,hno.out,zC2 he];rfl
      clear he HE HN2 HT;go_wp2_with fail
      go_quiet (fail)
      go_wp2;go_roundw
      case rel=>exact⟨k+1,by omega,by go_num,HF,aI (below_drewN (aA hbq) _) _⟩
      case measure=>simp[intOf];omega
    .
     have:k=j:=V6
     subst this
     have HUY:Hid (unl (f.procs.map Fp.name) k=true):=by show _=_;rw[HU.out,hno.out];rfl
     have K2:=hid k1;have P2:=hid (aB P1.out hbb);have HY2:=hid (pK.below HY.out hbb);have Ar:=aD hbr hbq;clear HX HY K1 P0 P1 p0 hbb hbq hno HU;go_wp2_with fail;clear k1;generalize wr=w9 at *
     go_loopw [5] (fun i wr=>∃m:Nat,m<=nk/\i=.int .i64 m/\Hid (∀z,z<m->sT (x.kinds[z]?.getD 0)=true)/\w9.grownBy wr none) (fun i _=>nk-(intOf i).toNat)
     case atStart=>exact⟨0,zD1 _,rfl,by show ∀_,_;omega,aN0 _ _⟩
     case round=>
      obtain⟨m,hm,rfl,Bc,hbz⟩:=hrel;have hbb:=aA hbz;have k1:=aB K2.out hbb;have p1:=aB P2.out hbb;have hgz:=aD hgq hbz
      by_cases hlm:m<nk
      .
       obtain⟨_,_,hcell⟩:=pK.below HY2.out hbb;obtain⟨bk,ok,rfl,hcl2⟩:=hcell V6;have r0:=hcl2 m hlm;have hk':(k:Int)<(n:Int):=V6;clear hcl2 hcell hbb;generalize hz:x.kinds[m]?.getD 0=z at r0;have HZ:=hid hz;clear hz
       by_cases z0:z=0
       .
        have HF:Hid (∀z,z<m+1->sT (x.kinds[z]?.getD 0)=true):=fun i hi=>(zK1 i m).elim (fun h=>Bc.out i h) (fun h=>(show m=i by omega) ▸ (by rw[HZ.out,z0];rfl))
        subst z0;exact U352
       by_cases z1:z=1
       .
        have HF:Hid (∀z,z<m+1->sT (x.kinds[z]?.getD 0)=true):=fun i hi=>(zK1 i m).elim (fun h=>Bc.out i h) (fun h=>(show m=i by omega) ▸ (by rw[HZ.out,z1];rfl))
        subst z1;exact U352
       .
        have HF:Hid (lA f=false):=oT HJ.out (aCo (k:=m) (by rw[Hk.out];exact hlm) (by rw[HZ.out];unfold sT;simp;omega))
        have z0':(z != 0)=true:=by simpa using z0
        have z1':(z != 1)=true:=by simpa using z1
        go_wp2;go_ret;exact⟨aE HF.out.symm,hgz⟩
      .
       have:m=nk:=V6
       subst this
       have HF:Hid (∀z,z<k+1->unl (f.procs.map Fp.name) z=true/\∀q,f.procs[z]?=some q->nT q=true):=fun i hi=>(zK1 i k).elim (fun h=>Af.out i h) (fun h=>(show k=i by omega) ▸ ⟨HUY.out,fun q hq=>by
        rw[HJ.out]at hq
        obtain rfl:=Option.some.inj hq
        exact aE4 HV.out (by rw[Hk.out];omega) (fun z hz=>Bc.out z (by rw[<-Hk.out];exact hz))⟩)
       go_wp2;go_roundw
       case rel=>exact⟨k+1,by omega,by go_num,HF,aD Ar hbz⟩
       case measure=>simp[intOf];omega
  .
   have:j=n:=V6
   subst this;go_wp2;go_ret
   exact⟨aE (aE8 H1.out (by rw[Hn.out];omega) (fun m hm=>Af.out m (by rw[<-Hn.out];exact hm))).symm,Aq⟩
theorem U326{p:Prop}(h:p:=by
 go_wp2
 go_roundw
 case rel=>exact⟨j+1,by omega,by go_num,HV,HG⟩
 case measure=>simp[intOf];omega):p:=h
def aLh (fs:List Fa)(i:Nat)(f:Fa):Prop:=lA f=true/\ix (fs.map Fa.name) f.name=some i
def aGs (fs:List Fa):Prop:=fs.length<=8/\∀i f,fs[i]?=some f->aLh fs i f
noncomputable def fsB (fs:List Fa):Bool:=@decide (aGs fs) (Classical.propDecidable _)
theorem aCk {fs:List Fa}(h:¬aGs fs):fsB fs=false:=by unfold fsB;exact @zC2 _ (Classical.propDecidable _) h
theorem aGh {fs:List Fa}(h:aGs fs):fsB fs=true:=by unfold fsB;exact @zB3 _ (Classical.propDecidable _) h
theorem aKv {l:List (List Int)}{x:List Int}{j:Nat}(h:¬ix l x=some j):(ixI l x != (j:Int))=true:=by
 have:ixI l x ≠ (j:Int):=fun e=>h (by
  unfold ixI at e
  split at e
  .
   rename_i i hi;rw[hi];congr 1;omega
  .
   omega)
 simpa using this
set_option maxHeartbeats 4000000 in
theorem zF (fs:List Fa)(b:Option Addr)(nf d:Nat)(w:World)(h:aS w b d 2 (fs.map Fa.fl))(hl:fs.length=nf)(hs:∀f ∈ fs,f.name.length<=1048576/\∀q ∈ f.procs,q.name.length<=1048576):
  Calls Tryz.prog 12 #[.slice b nf d] w fun e w'=>e=.returned (.bool (fsB fs))/\w.grownBy w' none:=by
 have h9:=h.len9;rw[zB2,hl]at h9;have HL:=hid h;have HN:=hid hl;have HS:=hid hs;clear h hl hs;go_enter Tryz.func12,Tryz.ntmps12
 by_cases h8:8<nf
 .
  have HF:Hid (fsB fs=false):=aCk (fun hh=>by have:=hh.1;rw[HN.out]at this;omega)
  have h8':(8:Int)<(nf:Int):=V6;go_wp2;go_ret;exact⟨aE HF.out.symm,aN0 _ _⟩
 .
  have h8':¬(8:Int)<(nf:Int):=V6;go_wp2_with fail
  go_loopw [3] (fun i wr=>∃j:Nat,j<=nf/\i=.int .i64 j/\Hid (∀i f,i<j->fs[i]?=some f->aLh fs i f)/\Hid (w.grownBy wr none)) (fun i _=>nf-(intOf i).toNat)
  case atStart=>exact⟨0,zD1 _,rfl,V32,aN0 _ _⟩
  case round=>
   obtain⟨j,hj,rfl,Af,Hg⟩:=hrel;have yw:=Hg.out;have bw:=aA yw
   by_cases Ai:j<nf
   .
    obtain⟨f,hf⟩:∃f,fs[j]?=some f:=⟨_,zA0 (by rw[HN.out];exact Ai)⟩
    have HFJ:=hid hf;have hfs:=HS.out f (zA3 hf)
    obtain⟨bf,off,ys,rfl,hys,Ab⟩:=aS.cellsAt HL.out (show(fs.map Fa.fl)[j]?=some f.fl by rw[zA2,hf];rfl)
    obtain⟨s0,_,rfl,⟨ax,cx,rfl,hbx,_⟩,s1,_,rfl,hs1,rfl⟩:=hys;obtain⟨aq,cq,rfl,hQ⟩:=hs1.list;rw[zB2]at Ab;have HBX:=hid hbx;have HQ:=hid hQ;have HR:=hid Ab;have r0:=aB (Ab 0 _ rfl) bw;have r1:=aB (Ab 1 _ rfl) bw;rw[zG2]at r0;have H1:=yS f ax cx aq cq wr (bW.below HBX.out bw) V6 (aS.below HQ.out bw) hfs.2;clear Ab hf hbx hQ hs1 hfs;generalize hfn:f.name.length=nn at *;generalize hfp:f.procs.length=pp at *
    cases hok:lA f
    .
     have HF:Hid (fsB fs=false):=aCk (fun hh=>by have:=(hh.2 j f HFJ.out).1;rw[hok]at this;cases this)
     rw[hok]at H1;clear hok;go_wp2_with fail;refine H1.mono ?_;rintro r w2 ⟨rfl,hg⟩;have yg:=aD yw hg;clear H1 hg r0 r1 bw yw Hg Af;exact U318
    .
     have HOK:=hid hok;rw[hok]at H1;clear hok;go_wp2_with fail;refine H1.mono ?_;rintro r w2 ⟨rfl,hg⟩;have yg:=aD yw hg;have bg:=aA yg;replace r0:=aB r0 (aA hg);have H2:=oQ fs (some ⟨bf,off,none⟩) nf d w2 (aS.below HL.out bg) HN.out ax nn cx f.name (bW.below HBX.out bg);clear H1 hg r1 bw yw Hg
     by_cases e0:ix (fs.map Fa.name) f.name=some j
     .
      have HE:=hid e0;rw[cJ e0]at H2;clear e0;go_wp2_with fail;refine H2.mono ?_;rintro r w3 ⟨rfl,hg⟩;have HG:=hid (aD yg hg)
      have HV:Hid (∀i f,i<j+1->fs[i]?=some f->aLh fs i f):=fun i v hi hv=>by
       by_cases e:i=j
       .
        subst e;rw[HFJ.out]at hv;cases hv;exact⟨HOK.out,HE.out⟩
       .
        exact Af.out i v V6 hv
      clear H2 hg yg bg r0 Af;exact U326
     .
      have HF:Hid (fsB fs=false):=aCk (fun hh=>e0 (hh.2 j f HFJ.out).2)
      have ne0:=aKv e0;generalize ixI (fs.map Fa.name) f.name=i0 at H2 ne0;clear e0;go_wp2_with fail;refine H2.mono ?_;rintro r w3 ⟨rfl,hg⟩;have yh:=aD yg hg;clear H2 hg yg bg r0 Af;go_wp2;go_ret;exact⟨aE HF.out.symm,yh⟩
   .
    have:nf=j:=V6
    subst this
    have HF:Hid (fsB fs=true):=aGh ⟨by rw[HN.out];omega,fun i f hf=>Af.out i f (by have:=dY hf;rw[HN.out]at this;exact this) hf⟩
    clear Af bw Hg;go_wp2;go_ret;exact⟨aE HF.out.symm,yw⟩
def zM:Value:=.agg #[.int .i64 0,.slice none 0 0]
def Rm (v:Value):Option (DataW Value × List MemPlace):=some (.held v,[])
def aDq (s:List Int):Lit:=.string (strOfNums s).data.toList
def Bt (l:List Int):Prop:=∀x ∈ l,0<=x/\x<=255
theorem wI {s t:List Int}(hs:Bt s)(ht:Bt t)(h:aDq s=aDq t):s=t:=by
 unfold aDq at h;simp only[Lit.string.injEq]at h;refine(aA2 hs ht).1 ?_
 cases hx:strOfNums s
 cases hy:strOfNums t
 rw[hx,hy]at h
 simpa using h
structure NM (w:World) (b k:Nat) (f:List Int->Value):Prop where
 ex:∃D:DataW Value,w.ownsMap Tryz.prog 9 Rm b k D/\Maps.IsMap D/\∀s,Bt s->D.atKey (aDq s) (.held zM)=.held (f s)
def upd (f:List Int->Value)(s:List Int)(v:Value):List Int->Value:=fun t=>if t=s then v else f t
theorem NM.made (w:World):NM (w.alloc (.map #[] 0)) w.heap.size 0 (fun _=>zM):=
 ⟨⟨.map [],World.ownsMap_made w _ _ _,Maps.isMap_empty,fun s _=>rfl⟩⟩
theorem NM.kept {w w':World}{b k:Nat}{f:List Int->Value}{row:Option Nat}(h:NM w b k f)(hg:w.grownBy w' row)(hne:some b ≠ row):NM w' b k f:=by
 obtain⟨D,h1,h2,h3⟩:=h.ex;exact⟨⟨D,h1.kept hg hne,h2,h3⟩⟩
theorem NM.lt {w:World}{b k:Nat}{f:List Int->Value}(h:NM w b k f):b<w.heap.size:=by
 obtain⟨D,h1,_⟩:=h.ex;exact h1.lt
theorem NM.below {w w':World}{b k:Nat}{f:List Int->Value}(h:NM w b k f)(hb:Below w.heap.size w w'):NM w' b k f:=h.kept (row:=none) ⟨hb.os,hb.tape,hb.output,hb.size,fun i hi _=>hb.block i hi⟩ V15
theorem kG {s:List Int}(hs:s.length<=maxLen):keyOf Tryz.prog 9 (.string (strOfNums s))=some (aDq s):=by
 exact WideMaps.keyOf_string_mk Tryz.underlying9 (by rw[strOfNums_size];exact hs)
theorem NM.lookup {w:World}{b k:Nat}{f:List Int->Value}(h:NM w b k f){s:List Int}(hs:Bt s)(hl:s.length<=maxLen):(Instr.lookup 149 (.map (some b)) (.string (strOfNums s)) false).run Tryz.prog w=.ok (f s) w:=by
 obtain⟨D,h1,_,h3⟩:=h.ex;obtain⟨v,ps,hrun,hv⟩:=h1.lookup (t:=149) (e:=196) (Maps.string_keyed Tryz.underlying9) Tryz.underlying149 (z:=zM) (Tryz.zeroValue196 w) (zd:=.held zM) (zp:=[]) rfl (kG hl)
 have e:v=f s:=by
  unfold Rm at hv;simp only[zG3,Prod.mk.injEq]at hv
  have:=hv.1.trans (h3 s hs)
  simpa using this
 rw[e]at hrun;exact hrun
theorem NM.put {w':World}{b k:Nat}{f:List Int->Value}{D:DataW Value}{s:List Int}{v:Value}(h2:Maps.IsMap D)(h3:∀s,Bt s->D.atKey (aDq s) (.held zM)=.held (f s))(hs:Bt s)(h:w'.ownsMap Tryz.prog 9 Rm b k (D.put (aDq s) (.held v))):NM w' b k (upd f s v):=by
 refine⟨⟨_,h,h2.put _ _,fun t ht=>?_⟩⟩
 unfold upd
 by_cases e:t=s
 .
  subst e;rw[if_pos rfl]
  exact Maps.atKey_put_same h2 (by unfold aDq;trivial) _ _
 .
  rw[if_neg e,Maps.atKey_put_other (fun e2=>e (wI ht hs e2))]
  exact h3 t ht
theorem NM.del {w':World}{b k:Nat}{f:List Int->Value}{D:DataW Value}{s:List Int}(h2:Maps.IsMap D)(h3:∀s,Bt s->D.atKey (aDq s) (.held zM)=.held (f s))(hs:Bt s)(h:w'.ownsMap Tryz.prog 9 Rm b k (D.del (aDq s))):NM w' b k (upd f s zM):=by
 refine⟨⟨_,h,h2.del _,fun t ht=>?_⟩⟩
 unfold upd
 by_cases e:t=s
 .
  subst e;rw[if_pos rfl];exact Maps.atKey_del_same _
 .
  rw[if_neg e,Maps.atKey_del_other (fun e2=>e (wI ht hs e2))]
  exact h3 t ht
theorem tP {w:World}{ops:Array Oper}{rest:List Oper}{o:Oper}{a:Act}{Q:Exit->Act->World->Prop}{b k:Nat}{f:List Int->Value}(hgd:o.guard=none)(m x v:Operand)(ho:o.op=.mapUpdate 149 m x v)
  (h:NM w b k f) (hk:k<maxLen) (s:List Int) (val:Value) (hm:a.eval m=.map (some b)) (hx:a.eval x=.string (strOfNums s)) (hv:a.eval v=val) (hs:Bt s) (hl:s.length<=maxLen)
  (hK:∀w',NM w' b (k+1) (upd f s val)->w.grownBy w' (some b)->wpList Tryz.prog ops Q rest (a.put o.dst undef) w'):wpList Tryz.prog ops Q (o :: rest) a w:=by
 obtain⟨D,h1,h2,h3⟩:=h.ex
 exact wpList_mapUpdate_own w hgd m x v 149 ho 9 196 (Maps.string_keyed Tryz.underlying9) Tryz.underlying149 Rm b k D hm h1 hk _ val _ hx hv (kG hl) (.held val) [] rfl (fun w' h' hg=>hK w' (NM.put h2 h3 hs h') hg)
theorem nY {w:World}{ops:Array Oper}{rest:List Oper}{o:Oper}{a:Act}{Q:Exit->Act->World->Prop}{b k:Nat}{f:List Int->Value}(hgd:o.guard=none)(m x:Operand)(ho:o.op=.call { callee:=.builtin .delete,args:=#[m,x],argTypes:=#[149,9] })
  (h:NM w b k f) (s:List Int) (hm:a.eval m=.map (some b)) (hx:a.eval x=.string (strOfNums s)) (hs:Bt s) (hl:s.length<=maxLen)
  (hK:∀w',NM w' b k (upd f s zM)->w.grownBy w' (some b)->wpList Tryz.prog ops Q rest (a.put o.dst (.tuple #[])) w'):wpList Tryz.prog ops Q (o :: rest) a w:=by
 obtain⟨D,h1,h2,h3⟩:=h.ex
 exact wpList_delete_own w hgd m x 149 9 ho 196 (Maps.string_keyed Tryz.underlying9) Tryz.underlying149 Rm b k D hm h1 _ _ hx (kG hl) (fun w' h' hg=>hK w' (NM.del h2 h3 hs h') hg.grown)
theorem sL {w:World}{T base n k g:Nat}{v:Value}{xs:List Value}(h:w.ownsRow base T k v n xs)(hg:v.ownBlock=some g):∃cur,w.heap[g]?=some (.cells cur T (0,0)):=by
 rcases h.2 with⟨e,_⟩|⟨g',cap,cur,hv,_,hh,_⟩
 .
  rw[e]at hg;cases hg
 .
  rw[hv]at hg;simp only[Value.ownBlock,zG3]at hg;subst hg;exact⟨cur,hh⟩
theorem mL {w w':World}{T base n k:Nat}{v:Value}{xs:List Value}(h:w.ownsRow base T k v n xs)(hs:∀g,v.ownBlock=some g->w'.heap[g]?=w.heap[g]?):w'.ownsRow base T k v n xs:=by
 refine⟨h.1, ?_⟩
 rcases h.2 with hn|⟨g,cap,cur,hv,hg,hh,r⟩
 .
  exact .inl hn
 .
  exact .inr ⟨g,cap,cur,hv,hg,by rw[hs g (by rw[hv];rfl)];exact hh,r⟩
theorem oL {w:World}{T base base' n k:Nat}{v:Value}{xs:List Value}(h:w.ownsRow base T k v n xs)(hb:base'<=base):w.ownsRow base' T k v n xs:=by
 refine⟨h.1, ?_⟩
 rcases h.2 with hn|⟨g,cap,cur,hv,hg,r⟩
 .
  exact .inl hn
 .
  exact .inr ⟨g,cap,cur,hv,by omega,r⟩
theorem gN {w:World}{T base n k:Nat}{v:Value}{xs:List Value}(h:w.ownsRow base T k v n xs):∃a c,v=.slice a n c/\n<=c/\c<=maxLen/\(a=none->c=0)/\(0<n->∃g,a=some ⟨g,0,none⟩):=by
 rcases h.2 with⟨rfl,rfl⟩|⟨g,cap,cur,rfl,hg,hh,hnc,hcm,hs,ht⟩
 .
  exact⟨none,0,rfl,by omega,by simp,fun _=>rfl,by omega⟩
 .
  exact⟨_,cap,rfl,hnc,hcm,by simp,fun _=>⟨g,rfl⟩⟩
structure Ob (w:World) (T:TypeId) (lo hi:Nat) (v:Value) (n:Nat) (xs:List Value):Prop where
 own:w.ownsRow lo T 1 v n xs
 lt:∀k,v.ownBlock=some k->k<hi
theorem Ob.stays {w w':World}{T lo hi n:Nat}{v:Value}{xs:List Value}(h:Ob w T lo hi v n xs)(hs:∀g,lo<=g->g<hi->(∃cur,w.heap[g]?=some (.cells cur T (0,0)))->w'.heap[g]?=w.heap[g]?):Ob w' T lo hi v n xs:=
 ⟨mL h.own fun g hg=>hs g (h.own.lt g hg).1 (h.lt g hg) (sL h.own hg),h.lt⟩
theorem Ob.wide {w:World}{T lo hi lo' hi' n:Nat}{v:Value}{xs:List Value}(h:Ob w T lo hi v n xs)(a:lo'<=lo)(b:hi<=hi'):Ob w T lo' hi' v n xs:=
 ⟨oL h.own a,fun k hk=>Nat.lt_of_lt_of_le (h.lt k hk) b⟩
def bV (l:List Int):List Value:=l.map (Value.int .u8)
def iV (l:List Int):List Value:=l.map (Value.int .i64)
def isB (l:List Int):Prop:=∀x ∈ l,0<=x/\x<=255
def isI (l:List Int):Prop:=∀x ∈ l, -9223372036854775808<=x/\x<=9223372036854775807
def Fps (w:World):Nat->Nat->List (Value × Value)->List Fp->Prop
 | lo,hi,[],ds=>ds=[]
 | lo,hi,x :: l,ds=>∃d ds' m1 m2,ds=d :: ds'/\lo<=m1/\m1<=m2/\m2<=hi/\Ob w 5 lo m1 x.1 d.name.length (bV d.name)/\isB d.name/\Ob w 3 m1 m2 x.2 d.kinds.length (iV d.kinds)/\isI d.kinds/\Fps w m2 hi l ds'
def pB (lo hi:Nat)(w w':World):Prop:=∀g,lo<=g->g<hi->((∃cur,w.heap[g]?=some (.cells cur 5 (0,0)))\/(∃cur,w.heap[g]?=some (.cells cur 3 (0,0))))->w'.heap[g]?=w.heap[g]?
theorem pB.mono {lo hi lo' hi':Nat}{w w':World}(h:pB lo hi w w')(a:lo<=lo')(b:hi'<=hi):pB lo' hi' w w':=fun g h1 h2 h3=>h g V6 V6 h3
theorem pB.of {lo hi:Nat}{w w':World}(h:gG lo hi w w'):pB lo hi w w':=fun g h1 h2 _=>h g h1 h2
theorem Fps.stays {w w':World}:∀{l:List (Value × Value)} {lo hi:Nat} {ds:List Fp},Fps w lo hi l ds->pB lo hi w w'->Fps w' lo hi l ds:=by
 intro l
 induction l with
 | nil=>intro lo hi ds h _;exact h
 | cons x l ih=>
  intro lo hi ds h hs;obtain⟨d,ds',m1,m2,rfl,a,b,c,h1,hb,h2,hi',h3⟩:=h
  exact⟨d,ds',m1,m2,rfl,a,b,c,h1.stays (fun g p q r=>hs g p V6 (.inl r)),hb,h2.stays (fun g p q r=>hs g V6 V6 (.inr r)),hi',ih h3 (hs.mono V6 (zB0 _))⟩
theorem Fps.wide {w:World}:∀{l:List (Value × Value)} {lo hi lo' hi':Nat} {ds:List Fp},Fps w lo hi l ds->lo'<=lo->hi<=hi'->Fps w lo' hi' l ds:=by
 intro l
 induction l with
 | nil=>intro lo hi lo' hi' ds h _ _;exact h
 | cons x l ih=>
  intro lo hi lo' hi' ds h p q;obtain⟨d,ds',m1,m2,rfl,a,b,c,h1,hb,h2,hi',h3⟩:=h
  exact⟨d,ds',m1,m2,rfl,by omega,b,by omega,h1.wide p (zB0 _),hb,h2,hi',ih h3 (zB0 _) q⟩
theorem Fps.len {w:World}:∀{l:List (Value × Value)} {lo hi:Nat} {ds:List Fp},Fps w lo hi l ds->l.length=ds.length:=by
 intro l
 induction l with
 | nil=>intro lo hi ds h;rw[show ds=[] from h];rfl
 | cons x l ih=>
  intro lo hi ds h;obtain⟨d,ds',m1,m2,rfl,a,b,c,h1,hb,h2,hi',h3⟩:=h
  simp[ih h3]
theorem Fps.snoc {w:World}:∀{l:List (Value × Value)} {lo mid m1 m2:Nat} {ds:List Fp} {x:Value × Value} {d:Fp},Fps w lo mid l ds->lo<=mid->mid<=m1->m1<=m2->Ob w 5 mid m1 x.1 d.name.length (bV d.name)->isB d.name->Ob w 3 m1 m2 x.2 d.kinds.length (iV d.kinds)->isI d.kinds->Fps w lo m2 (l++[x]) (ds++[d]):=by
 intro l
 induction l with
 | nil=>
  intro lo mid m1 m2 ds x d h p q r h1 hb h2 hi
  rw[show ds=[] from h]
  exact⟨d,[],m1,m2,rfl,by omega,r,zB0 _,h1.wide p (zB0 _),hb,h2,hi,rfl⟩
 | cons y l ih=>
  intro lo mid m1 m2 ds x d h p q r h1 hb h2 hi;obtain⟨d0,ds',k1,k2,rfl,a,b,c,e1,eb,e2,ei,e3⟩:=h
  exact⟨d0,ds'++[d],k1,k2,rfl,a,b,by omega,e1,eb,e2,ei,ih e3 c q r h1 hb h2 hi⟩
def aE6:List (Value × Value)->List Value
 | []=>[]
 | x :: l=>x.1 :: x.2 :: aE6 l
theorem aOy (l m:List (Value × Value)):aE6 (l++m)=aE6 l++aE6 m:=by
 induction l with
 | nil=>rfl
 | cons x l ih=>simp[aE6,ih]
theorem Ob.brow {w:World}{lo hi:Nat}{v:Value}{l:List Int}(h:Ob w 5 lo hi v l.length (bV l))(hb:isB l):(Fl.b l).Rd w v:=by
 obtain⟨a,c,rfl,h1,h2,h3,_⟩:=gN h.own;exact⟨a,c,rfl,Own.row (base:=lo) ⟨h.own,hb⟩,h1,h2,h3⟩
theorem Ob.irow {w:World}{lo hi:Nat}{v:Value}{l:List Int}(h:Ob w 3 lo hi v l.length (iV l))(hb:isI l):(Fl.i l).Rd w v:=by
 have ho:aFx w lo v l.length l:=⟨h.own,hb⟩
 obtain⟨a,c,rfl,h1,h2,h3,_⟩:=gN h.own;obtain⟨a',c',e,_,_,hr,_⟩:=ho.shape;simp only[Value.slice.injEq,true_and]at e;obtain⟨rfl,rfl⟩:=e;exact⟨a,c,rfl,hr,h1,h2,h3⟩
theorem Fps.rows {w:World}{g:Nat}:∀{l:List (Value × Value)} {lo hi off:Nat} {ds:List Fp},Fps w lo hi l ds->(∀i v,(aE6 l)[i]?=some v->w.cell? ⟨g,off+i,none⟩=some v)->fE w g 2 off (ds.map Fp.fl):=by
 intro l
 induction l with
 | nil=>intro lo hi off ds h _;rw[show ds=[] from h];exact trivial
 | cons x l ih=>
  intro lo hi off ds h hc;obtain⟨d,ds',m1,m2,rfl,a,b,c,h1,hb,h2,hi',h3⟩:=h
  refine⟨⟨⟨x.1,hc 0 _ rfl,h1.brow hb⟩,⟨x.2,hc 1 _ rfl,h2.irow hi'⟩,trivial⟩,ih h3 fun i v hv=>?_⟩
  have:=hc (i+2) v (by simpa [aE6] using hv)
  rw[show off+(i+2)=off+2+i by omega]at this
  exact this
structure Fg (w:World) (lo hi:Nat) (nv pv:Value) (l:List (Value × Value)) (f:Fa):Prop where
 name:∃m,lo<=m/\m<=hi/\Ob w 5 lo m nv f.name.length (bV f.name)/\isB f.name/\Fps w m hi l f.procs
 row:w.ownsRow lo 62 2 pv f.procs.length (aE6 l)
 lt:∀k,pv.ownBlock=some k->k<hi
theorem Fg.stays {w w':World}{lo hi:Nat}{nv pv:Value}{l:List (Value × Value)}{f:Fa}(h:Fg w lo hi nv pv l f)(hs:gG lo hi w w'):Fg w' lo hi nv pv l f:=by
 obtain⟨m,a,b,h1,hb,h2⟩:=h.name
 exact⟨⟨m,a,b,h1.stays (fun g p q _=>hs g p V6),hb,h2.stays (pB.of (hs.mono a (zB0 _)))⟩,mL h.row (fun g hg=>hs g (h.row.lt g hg).1 (h.lt g hg)),h.lt⟩
theorem Fg.wide {w:World}{lo hi lo' hi':Nat}{nv pv:Value}{l:List (Value × Value)}{f:Fa}(h:Fg w lo hi nv pv l f)(p:lo'<=lo)(q:hi<=hi'):Fg w lo' hi' nv pv l f:=by
 obtain⟨m,a,b,h1,hb,h2⟩:=h.name
 exact⟨⟨m,by omega,by omega,h1.wide p (zB0 _),hb,h2.wide (zB0 _) q⟩,oL h.row p,fun k hk=>Nat.lt_of_lt_of_le (h.lt k hk) q⟩
theorem yX {w:World}{T base n k g c:Nat}{xs:List Value}(h:w.ownsRow base T k (.slice (some ⟨g,0,none⟩) n c) n xs):∀i v,xs[i]?=some v->w.cell? ⟨g,i,none⟩=some v:=by
 intro i v hv;have hi:=(zC1.1 hv).1
 rw[h.cellAt i (by have:=h.1;omega)]
 exact hv
theorem Fg.rdp {w:World}{lo hi:Nat}{nv pv:Value}{l:List (Value × Value)}{f:Fa}(h:Fg w lo hi nv pv l f):(Fl.l 2 (f.procs.map Fp.fl)).Rd w pv:=by
 obtain⟨m,_,_,_,_,h2⟩:=h.name;have hrow:=h.row;obtain⟨a,c,rfl,h3,h4,h5,h6⟩:=gN hrow
 refine⟨a,c,by simp,by simpa using h3,h4,h5,fun hp=>?_⟩
 obtain⟨g,rfl⟩:=h6 (by simpa using hp)
 exact⟨g,0,rfl,h2.rows fun i v hv=>by rw[zK0];exact yX hrow i v hv⟩
theorem Fg.vals {w:World}{lo hi:Nat}{nv pv:Value}{l:List (Value × Value)}{f:Fa}(h:Fg w lo hi nv pv l f):aO w f.fl [nv,pv]:=by
 obtain⟨m,_,_,h1,hb,_⟩:=h.name;exact⟨nv,_,rfl,h1.brow hb,pv,_,rfl,h.rdp,rfl⟩
theorem Fg.push {w w1 w2 w3 w4:World}{lo hi:Nat}{nv pv pv':Value}{l:List (Value × Value)}{f:Fa}{x y:Value}{d:Fp}(h:Fg w lo hi nv pv l f)(hlo:lo<=hi)(hh:hi<=w.heap.size)
  (b1:Below w.heap.size w w1) (hx:Ob w1 5 w.heap.size w1.heap.size x d.name.length (bV d.name)) (hxb:isB d.name)
  (b2:Below w1.heap.size w1 w2) (hy:Ob w2 3 w1.heap.size w2.heap.size y d.kinds.length (iV d.kinds)) (hyi:isI d.kinds)
  (b3:Below w2.heap.size w2 w3) (hr:w4.ownsRow lo 62 2 pv' (f.procs.length+1) (aE6 l++[x,y])) (hg:w3.grownBy w4 pv.ownBlock):
  Fg w4 lo w4.heap.size nv pv' (l++[(x,y)]) ⟨f.name,f.procs++[d]⟩:=by
 have s1:=b1.size;have s2:=b2.size;have s3:=b3.size;have s4:=hg.size
 have k3:gG lo hi w w3:=fun g p q=>((b3.block g V6).trans (b2.block g V6)).trans (b1.block g V6)
 have h3:=h.stays k3
 have hx3:=hx.stays (w':=w3) (fun g p q _=>(b3.block g V6).trans (b2.block g V6))
 have hy3:=hy.stays (w':=w3) (fun g p q _=>b3.block g V6)
 have kp:∀A B,pB A B w3 w4:=fun A B g p q r=>by
  refine hg.block g ?_ ?_
  .
   rcases r with⟨c,e⟩|⟨c,e⟩ <;> exact(zJ2.1 e).1
  .
   intro e;obtain⟨c,e2⟩:=sL h3.row e.symm
   rcases r with⟨c',e'⟩|⟨c',e'⟩ <;> (rw[e2]at e';simp only[zG3,Obj.cells.injEq]at e';exact absurd e'.2.1 (by decide))
 obtain⟨m,a,b,n1,nb,p1⟩:=h3.name
 refine⟨⟨m,a,by omega,n1.stays (fun g p q r=>kp lo m g p q (.inl r)),nb, ?_⟩, ?_,fun k hk=>(hr.lt k hk).2⟩
 .
  have:=(p1.stays (kp m hi)).wide (zB0 _) hh |>.snoc (x:=(x,y)) (d:=d) V6 s1 s2 (hx3.stays (fun g p q r=>kp _ _ g p q (.inl r))) hxb (hy3.stays (fun g p q r=>kp _ _ g p q (.inr r))) hyi
  exact this.wide (zB0 _) V6
 .
  rw[aOy]
  simpa [aE6] using hr
end Go.Proofs.YtegkhlkjfeafjaaGreatDoor

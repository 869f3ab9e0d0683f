import Derived.Test.YtegkhlkjfeafjaaGreatDoorWoBoth
import Derived.Test.YtegkhlkjfeafjaaGreatDoorTreeOpen
namespace Go.Proofs.YtegkhlkjfeafjaaGreatDoor
open Go.RowKit
set_option linter.unusedVariables false
set_option linter.unusedSimpArgs false
set_option maxRecDepth 100000
theorem aPn {w:World}{lo hi:Nat}{us:List Value}{x:Wd}(h:bJ w lo hi x.fl us):
  ∃g0 m0 g1 m1 g2 m2,us=[.slice (some ⟨g0,0,none⟩) m0 m0,.slice (some ⟨g1,0,none⟩) m1 m1,.slice (some ⟨g2,0,none⟩) m2 m2]:=by
 unfold Wd.fl at h;simp only[bJ,Fl.Has]at h;obtain⟨u0,_,_,rfl,_,_,⟨g0,_,_,rfl,_⟩,u1,_,_,rfl,_,_,⟨g1,_,_,rfl,_⟩,u2,_,_,rfl,_,_,⟨g2,_,_,rfl,_⟩,rfl⟩:=h;exact⟨g0,_,g1,_,g2,_,rfl⟩
set_option maxHeartbeats 4000000 in
theorem aOr (x:Wd)(vs:List Value)(w:World)(hT:WT w)(h:aO w x.fl vs):
  Calls Tryz.prog 3 #[.agg vs.toArray] w fun e w'=>e=.returned (.bool true)/\Below w.heap.size w w':=by
 obtain⟨v0,v1,v2,rfl⟩:∃v0 v1 v2,vs=[v0,v1,v2]:=by
  have hl:=h.len
  match vs,hl with
  | [v0,v1,v2],_=>exact⟨v0,v1,v2,rfl⟩
 have x0:=Blk.new w 26 [v0,v1,v2]
 have y0:Below w.heap.size w (w.alloc (.cells #[v0,v1,v2] 26 (0,0))):=(zD2 _ _).alloc (zB0 _) _
 have Hh:=hid h;clear h;have HT:=hid hT;clear hT;simp only[List.toArray]at x0;go_enter Tryz.func3,Tryz.ntmps3;go_upto_region 2 with fail;generalize w.alloc (.cells #[v0,v1,v2] 26 (0,0))=w0 at *;obtain⟨k0,k1,k2⟩:=x0.c3;have H1:=aR1 x w [v0,v1,v2] Hh.out w0 1048576 y0 V6 V6;simp only[List.toArray]at H1;generalize hN:aH x.fl=Nn at H1
 by_cases hs:(Nn:Int)<=1048576
 .
  rw[aU hs]at H1;have hneg:¬((1048576:Int)-(Nn:Int)<0):=V6
  have Bb:Hid (aH x.fl<=1048576):=by show _<=_;omega
  clear hN;go_wp2_with fail;refine H1.mono ?_;rintro e w1 ⟨rfl,hb⟩;have x1:=x0.below hb x0.lt;have y1:=y0.trans (hb.mono y0.size);clear H1 k0 k1 k2 x0 y0 hb;obtain⟨k0,k1,k2⟩:=x1.c3;have H2:=aRn x Bb.out w [v0,v1,v2] Hh.out w1 y1;simp only[List.toArray]at H2;go_wp2_with fail;refine H2.mono ?_;rintro e w2 ⟨u2,rfl,hl2,hO2,hb⟩;have x2:=x1.below hb x1.lt;have y2:=y1.trans (hb.mono y1.size);have H3:=aPm x w2 u2 hO2.vals Bb.out;clear H2 k0 k1 k2 x1 y1 hb hO2;go_wp2_with fail;refine H3.mono ?_;rintro e w3 ⟨rfl,hb⟩;replace hb:=aA hb;have x3:=x2.below hb x2.lt;have y3:=y2.trans (hb.mono y2.size);clear H3 x2 y2 hb;obtain⟨k0,k1,k2⟩:=x3.c3;have H4:=aRn x Bb.out w [v0,v1,v2] Hh.out w3 y3;simp only[List.toArray]at H4;go_wp2_with fail;refine H4.mono ?_;rintro e w4 ⟨u4,rfl,hl4,hO4,hb⟩;have x4:=x3.below hb x3.lt;have y4:=y3.trans (hb.mono y3.size);have R4:=hO4.vals;obtain⟨g0,m0,g1,m1,g2,m2,hu4⟩:=aPn hO4;subst hu4;clear H4 k0 k1 k2 x3 y3 hb hO4;go_upto_region 7 with fail;have z5:=Blk.new w4 33 [.slice (some ⟨g0,0,none⟩) m0 m0,.slice (some ⟨g1,0,none⟩) m1 m1,.slice (some ⟨g2,0,none⟩) m2 m2]
  have y45:Below w4.heap.size w4 (w4.alloc (.cells #[.slice (some ⟨g0,0,none⟩) m0 m0,.slice (some ⟨g1,0,none⟩) m1 m1,.slice (some ⟨g2,0,none⟩) m2 m2] 33 (0,0))):=(zD2 _ _).alloc (zB0 _) _
  have x5:=x4.old (o:=.cells #[.slice (some ⟨g0,0,none⟩) m0 m0,.slice (some ⟨g1,0,none⟩) m1 m1,.slice (some ⟨g2,0,none⟩) m2 m2] 33 (0,0));simp only[List.toArray]at z5;generalize w4.alloc (.cells #[.slice (some ⟨g0,0,none⟩) m0 m0,.slice (some ⟨g1,0,none⟩) m1 m1,.slice (some ⟨g2,0,none⟩) m2 m2] 33 (0,0))=w5 at *;have y5:=y4.trans (y45.mono y4.size);have R5:=R4.below y45;generalize w4.heap.size=gx at *;clear x4 y4 R4 y45;obtain⟨k0,k1,k2⟩:=z5.c3;have H6:=aPq x w5 _ (HT.out.below (n:=0) y5) R5 Bb.out;simp only[List.toArray]at H6;go_wp2_with fail;refine H6.mono ?_;rintro e w6 ⟨rfl,hb⟩;replace hb:=aA hb;have x6:=x5.below hb x5.lt;have z6:=z5.below hb z5.lt;have y6:=y5.trans (hb.mono y5.size);have R6:=hid (R5.below hb);have hs6:=x6.lt;have hx6:=z6.lt;clear H6 k0 k1 k2 x5 z5 y5 R5 hb;obtain⟨k0,k1,k2⟩:=x6.c3;obtain⟨j0,j1,j2⟩:=z6.c3;generalize aOs x=v
  have hv:(v != v)=false:=by cases v <;> rfl
  go_wp2_with fail
  have HS:∀{wl:World},Below w6.heap.size w6 wl->(wl.cell? ⟨w.heap.size,0,none⟩=some (v0)/\wl.cell? ⟨w.heap.size,1,none⟩=some (v1)/\wl.cell? ⟨w.heap.size,2,none⟩=some (v2))/\(wl.cell? ⟨gx,0,none⟩=some (.slice (some ⟨g0,0,none⟩) m0 m0)/\wl.cell? ⟨gx,1,none⟩=some (.slice (some ⟨g1,0,none⟩) m1 m1)/\wl.cell? ⟨gx,2,none⟩=some (.slice (some ⟨g2,0,none⟩) m2 m2)):=
   fun hb=>⟨⟨aB k0 hb,aB k1 hb,aB k2 hb⟩,⟨aB j0 hb,aB j1 hb,aB j2 hb⟩⟩
  have HT7:=aRn x Bb.out w [v0,v1,v2] Hh.out w6.drew y6.drew;simp only[List.toArray]at HT7;have Al:=HS (wl:=w6.drew) (zD2 _ _).drew
  refine zK3 (S:=fun wl=>(wl.cell? ⟨w.heap.size,0,none⟩=some (v0)/\wl.cell? ⟨w.heap.size,1,none⟩=some (v1)/\wl.cell? ⟨w.heap.size,2,none⟩=some (v2))/\(wl.cell? ⟨gx,0,none⟩=some (.slice (some ⟨g0,0,none⟩) m0 m0)/\wl.cell? ⟨gx,1,none⟩=some (.slice (some ⟨g1,0,none⟩) m1 m1)/\wl.cell? ⟨gx,2,none⟩=some (.slice (some ⟨g2,0,none⟩) m2 m2))) V0 Al (fun Aa=>?_)
  refine wpAnyH_take (i:=0) (v:=?v501) rfl V0 V0 V0 (fun _ _ _ h=>h) (.inl ⟨by rfl, ?y501⟩) Aa ?_
  case y501=>intro w Bp;(try dsimp only at Bp);go_simp;first|done|rfl
  refine wpAnyH_take (i:=1) (v:=?v502) rfl V0 V0 V0 (fun _ _ _ h=>h) (.inl ⟨by rfl, ?y502⟩) Aa ?_
  case y502=>intro w Bp;(try dsimp only at Bp);go_simp;first|done|rfl
  try simp only[Act.put,List.getElem_toArray,List.getElem_cons_zero,List.getElem_cons_succ,List.setIfInBounds_toArray,List.set_cons_zero,List.set_cons_succ]
  refine ra 2 fun K hK=>?_
  go_simp
  (with_reducible refine HT7.mono ?_)
  rintro e w7 ⟨u7,rfl,hl7,hO7,hb7⟩
  have hb67:Below w6.heap.size w6 w7:=(zD2 w6.heap.size w6).drew.trans hb7
  have HS7:=HS hb67;have HQ8:=aR3 x Bb.out w7 [.slice (some ⟨g0,0,none⟩) m0 m0,.slice (some ⟨g1,0,none⟩) m1 m1,.slice (some ⟨g2,0,none⟩) m2 m2] u7 (aO.below R6.out hb67) hO7.vals w7 (zD2 _ _);simp only[List.toArray]at HQ8;go_wp2_with fail
  refine hK.out _ _ (HS7) (fun Aa=>?_)
  clear hK K;try simp only[Act.put,List.getElem_toArray,List.getElem_cons_zero,List.getElem_cons_succ,List.setIfInBounds_toArray,List.set_cons_zero,List.set_cons_succ]
  refine ra 3 fun K hK=>?_
  go_simp
  (with_reducible refine HQ8.mono ?_)
  rintro e w8 ⟨rfl,hb8⟩;have hb68:=hb67.trans (hb8.mono hb67.size);have HS8:=HS hb68;go_wp2_with fail
  refine hK.out _ _ (HS8) (fun Aa=>?_)
  clear hK K;try simp only[Act.put,List.getElem_toArray,List.getElem_cons_zero,List.getElem_cons_succ,List.setIfInBounds_toArray,List.set_cons_zero,List.set_cons_succ]
  refine wpAnyH_take (i:=4) (v:=?v505) rfl V0 V0 V0 (fun _ _ _ h=>h) (.inl ⟨by rfl, ?y505⟩) Aa ?_
  case y505=>intro w Bp;(try dsimp only at Bp);go_simp;first|done|rfl
  try simp only[Act.put,List.getElem_toArray,List.getElem_cons_zero,List.getElem_cons_succ,List.setIfInBounds_toArray,List.set_cons_zero,List.set_cons_succ]
  refine zL0 V0 ?_ _;have y9:=y6.trans (hb68.mono y6.size);go_wp2;go_ret;exact⟨rfl,y9⟩
 .
  rw[bM hs]at H1;clear hN;go_wp2_with fail;refine H1.mono ?_;rintro e w1 ⟨rfl,hb⟩;have y1:=y0.trans (hb.mono y0.size);go_wp2;go_ret;exact⟨rfl,y1⟩
end Go.Proofs.YtegkhlkjfeafjaaGreatDoor

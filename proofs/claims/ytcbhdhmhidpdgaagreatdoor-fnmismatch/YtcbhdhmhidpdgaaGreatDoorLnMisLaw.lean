import Derived.Test.YtcbhdhmhidpdgaaGreatDoorPackU
namespace Go.Proofs.YtcbhdhmhidpdgaaGreatDoor
open Go.RowKit
set_option linter.unusedVariables false
set_option linter.unusedSimpArgs false
set_option maxRecDepth 100000
theorem aPz (w:World):(Instr.field 34 (.agg #[.int .i64 0,.int .i64 0,.int .i64 0,.int .i64 0,.int .i64 0,.int .i64 0,.slice none 0 0,.slice none 0 0,.slice none 0 0,.slice none 0 0,.slice none 0 0]) 0).run Tryz.prog w=.ok (.int .i64 0) w:=by kernel_rfl
set_option maxHeartbeats 40000000 in
theorem aDq (a:Option Addr)(n c:Nat)(l:List Int)(w:World)(h:aV w a n l)(hn:n<=9223372036854775807)(HD:Calls Tryz.prog 4 #[.slice a n c] w fun e w'=>∃u,e=.returned u/\(∃τ,Eg.TH τ w'/\(∀b,b<w.heap.size->τ b=none)/\Eg.SVb τ (.rc 20) 0 12 u)/\Below w.heap.size w w'):Calls Tryz.prog 3 #[.slice a n c] w fun e w'=>e=.returned (.bool true)/\Below w.heap.size w w':=by
 have HR:Hid (aV w a n l/\n<=9223372036854775807):=⟨h,hn⟩
 clear h hn;go_enter Tryz.func3,Tryz.ntmps3;go_wp2_with fail;refine HD.mono ?_;rintro e w1 ⟨u,rfl,⟨τ,hT,Ki,hS⟩,hB⟩;obtain⟨os,hl,hR,Bg⟩:=Eg.rdOjs hT hS.1;obtain⟨ao,co,rfl,hL⟩:=hR.list;have Is:=hS.1;have Ww:=hS.2.2;rw[zB2]at Is hR Ww ⊢;have O1:Oz τ w1 ao os.length co os:=⟨hT,Is,hR,fun o ho=>zF2 (Bg o ho) A0⟩
 have Yo:=sB os ao co w1 hL O1.z;obtain⟨no,Ai⟩:=zx (os.length);have Ww:no<=12:=by rw[Ai];exact Ww
 have HNO:Hid (os.length=no):=Ai.symm;rw[<-Ai]at Yo O1 ⊢;have Pw:Hid (Oz τ w1 ao no co os):=O1;have HB:Hid (Below w.heap.size w w1/\∀b,b<w.heap.size->τ b=none):=⟨hB,Ki⟩
 clear HD hT Ki hS hl hR Bg hL hB Ai Is O1;go_wp2_with fail;refine Yo.mono ?_;rintro e w2 ⟨mv,wv,rs,ws,s,code,rfl,hk,im,hb⟩;obtain⟨am,cm,rfl,_⟩:=aH im.mrow.own;obtain⟨aw,cw,rfl,_⟩:=aH im.wrow.own;generalize rs.length=nr at *;generalize ws.length=nw at *;have HK:Hid (∃ig,Lk kX os ig code):=⟨_,hk⟩
 have y3:Below w2.heap.size w2 (w2.alloc (.cells #[.slice am nr cm,.slice aw nw cw,.int .i64 s] 28 (0,0))):=(zD2 _ _).alloc (zB0 _) _;have Qy:Hid (Oz τ _ ao no co os):=(Pw.out.below hb).below y3;have Bn:Hid (Below w.heap.size w _):=(HB.out.1.trans (hb.mono HB.out.1.size)).trans (y3.mono (zF2 HB.out.1.size hb.size));clear Yo hk im hb Pw y3;go_upto_region 3 with fail;generalize w2.alloc (.cells #[.slice am nr cm,.slice aw nw cw,.int .i64 s] 28 (0,0))=w3 at *;generalize w2.heap.size=gi at *;by_cases hc:code=0
 .
  subst hc;go_wp2_with fail;go_loopw [6] (fun i wr=>∃j:Nat,j<=no/\i=.int .i64 j/\Hid (Below w3.heap.size w3 wr)) (fun i _=>no-(intOf i).toNat)
  case atStart=>exact⟨0,zD1 _,rfl,zD2 _ _⟩
  case round=>
   obtain⟨j,hj,rfl,Hb⟩:=hrel;have hj9:(j:Int)<=12:=A0;by_cases Ad:j<no
   .
    have OR:=Qy.out.below Hb.out;obtain⟨ig,hk⟩:=HK.out;obtain⟨bo,oo,ai,k,ci,rfl,c2,hk8,hz⟩:=OR.turn hk Ad;have HZ:Hid _:=hz;have Gs:(j:Int)<(no:Int):=A0;have HOR:Hid (Oz τ wr (some ⟨bo,oo,none⟩) no co os):=OR;have HBR:Hid (Below w.heap.size w wr):=Bn.out.trans (Hb.out.mono Bn.out.size);clear OR hk hz;by_cases Jg:k=0
    .
     subst Jg;go_wp2;go_roundw
     case rel=>exact⟨j+1,by omega,by go_num,Hb.out⟩
     case measure=>simp[intOf];omega
    .
     have hkp:(0:Int)<(k:Int):=A0;have Ca:((k:Int) == 0)=false:=by simp;omega
     have hkn':((k:Int)=0)=False:=by simp;omega
     have Ju:(k:Int)<=8:=A0;go_wp2_with fail;have KA:=atM a n c l wr.drew (HR.out.1.below HBR.out.drew) HR.out.2;have Br:wr.drew.cell? ⟨bo,oo+j*5+2,none⟩=some (.slice ai k ci):=c2;refine zJ3 (S:=fun wl=>wl.cell? ⟨bo,oo+j*5+2,none⟩=some (.slice ai k ci)) A1 Br (fun Aa=>?_);refine M910 ?_;refine ta 7 ?_;refine ta 8 ?_;refine ta 9 ?_;try simp only[nrm]
     refine ta 10 ?_;refine ta 11 ?_;refine ta 12 ?_;try simp only[nrm]
     refine ra 6 fun K hK=>?_;go_simp
     (with_reducible refine KA.mono ?_)
     rintro e wy ⟨x,rfl,Fj,Fi,ey⟩;subst ey;go_wp2_with fail;refine hK.out _ _ (Br) (fun Aa=>?_);clear hK K;try simp only[nrm]
     obtain⟨z,hz⟩:∃z:Nat,(z:Int)=x % (k:Int):=⟨(x % (k:Int)).toNat,Int.toNat_of_nonneg (Int.emod_nonneg _ A0)⟩
     have hzk:z<k:=by have:=Int.emod_lt_of_pos x hkp;omega
     have hzk':(z:Int)<(k:Int):=A0;have hrm:Int.tmod x (k:Int)=(z:Int):=by rw[hz];exact Int.tmod_eq_emod_of_nonneg Fj
     obtain⟨bi,q,p,rfl,hbi,cz,fz,p0,p1,hy⟩:=HZ.out z hzk;have HBI:Hid (w.heap.size<=bi):=by
      show _<=_
      rcases zJ1 bi w.heap.size with h9|h9
      .
       exact absurd (HB.out.2 bi h9) hbi
      .
       exact h9
     clear hbi;have Cz:x % (k:Int)=(z:Int):=hz.symm;clear hz;refine ta 13 ?_;refine ta 14 ?_;refine ta 15 ?_;try simp only[nrm]
     refine zK0 A1 ?_ _;have HZP:Hid (0<=p/\p<=2147483647):=⟨p0,p1⟩
     have HYY:Hid _:=hy;have HBY:Hid (Below w.heap.size w wr.drew):=HBR.out.drew;have hp1:IntKind.i64.wrap (p+1)=p+1:=by rw[IntKind.wrap_i64];omega
     have hp2:Int.tmod (p+1) 2147483647=(p+1) % 2147483647:=Int.tmod_eq_emod_of_nonneg A0;have hp3:IntKind.i64.wrap ((p+1) % 2147483647)=(p+1) % 2147483647:=by rw[IntKind.wrap_i64];omega
     clear hy Cz hzk hzk' hrm Fj Fi Aa Br KA c2 HZ;have cz:wr.drew.cell? ⟨bi,q*3+z*3+2,none⟩=some (.int .i64 p):=cz;have fz:wr.drew.frozen? ⟨bi,q*3+z*3+2,none⟩=false:=fz;go_upto_region 11 with fail;clear cz fz hp1 hp2 hp3;obtain⟨Oc,O',hL'⟩:=HYY.out ((p+1) % 2147483647) A0 A0 (by have:=HZP.out;omega);have O5:Oz τ (wr.setCell ⟨bi,q*3+z*3+2,none⟩ (.int .i64 ((p+1) % 2147483647))).drew (some ⟨bo,oo,none⟩) no co Oc:=O'.below (zD2 _ _).drew;have Nz:Hid (Below w.heap.size w (wr.setCell ⟨bi,q*3+z*3+2,none⟩ (.int .i64 ((p+1) % 2147483647))).drew):=(HBR.out.setCell (p:=⟨bi,q*3+z*3+2,none⟩) HBI.out _).drew;generalize (wr.setCell ⟨bi,q*3+z*3+2,none⟩ (.int .i64 ((p+1) % 2147483647))).drew=w5 at *;have Ey:Hid (∀ig' c',Lk kX Oc ig' c'->c'=3):=hL';have HO5:Hid (Oz τ w5 (some ⟨bo,oo,none⟩) no co Oc):=O5;have Yo:=sB Oc (some ⟨bo,oo,none⟩) co w5 O5.row O5.z;rw[O5.len]at Yo;clear O5 hL' O' HYY HBY HBR HOR;go_wp2_with fail;refine Yo.mono ?_;rintro e w6 ⟨mv,wv,Wb,ws',s',code',rfl,hk,im,hb⟩;have Gj:=Ey.out _ _ hk;subst Gj;obtain⟨am',cm',rfl,_⟩:=aH im.mrow.own;obtain⟨aw',cw',rfl,_⟩:=aH im.wrow.own;generalize Wb.length=nr' at *;generalize ws'.length=nw' at *;have y7:Below w6.heap.size w6 (w6.alloc (.cells #[.slice am' nr' cm',.slice aw' nw' cw',.int .i64 s'] 28 (0,0))):=(zD2 _ _).alloc (zB0 _) _;have HO7:Hid (Oz τ _ (some ⟨bo,oo,none⟩) no co Oc):=(HO5.out.below hb).below y7;have HB7:Hid (Below w.heap.size w _):=(Nz.out.trans (hb.mono Nz.out.size)).trans (y7.mono (zF2 Nz.out.size hb.size));clear Yo hk im hb y7;go_upto_region 12 with fail;generalize w6.alloc (.cells #[.slice am' nr' cm',.slice aw' nw' cw',.int .i64 s'] 28 (0,0))=w7 at *;have KR:=aNv Oc (some ⟨bo,oo,none⟩) no co w7 HO7.out.row HO7.out.len HO7.out.z (fun ig c9 h9=>by rw[Ey.out ig c9 h9];decide);go_wp2_with fail;refine KR.mono ?_;rintro e w8 ⟨rfl,hb8⟩;clear KR;have hfd:=aPz;go_wp2;go_ret;exact⟨rfl,HB7.out.trans (hb8.mono HB7.out.size)⟩
   .
    have:no=j:=A0;subst this;go_wp2;go_ret;exact⟨rfl,Bn.out.trans (Hb.out.mono Bn.out.size)⟩
 .
  have Dc:(code == 0)=false:=by simpa using hc
  have KR:=aNv os ao no co w3 Qy.out.row HNO.out Qy.out.z (fun ig c9 h9=>by
   obtain⟨ig0,h0⟩:=HK.out;rw[<-(h0.same h9).2];exact hc)
  clear hc;go_wp2_with fail;refine KR.mono ?_;rintro e w4 ⟨rfl,Eo⟩;clear KR;have hfd:=aPz;go_wp2;go_ret;exact⟨rfl,Bn.out.trans (Eo.mono Bn.out.size)⟩
end Go.Proofs.YtcbhdhmhidpdgaaGreatDoor

import Derived.Test.YtcbhdhmhidpdgaaGreatDoorCpY
import Derived.Test.YtcbhdhmhidpdgaaGreatDoorEiZ
namespace Go.Proofs.YtcbhdhmhidpdgaaGreatDoor
open Go.RowKit
set_option linter.unusedVariables false
set_option linter.unusedSimpArgs false
set_option maxRecDepth 100000
section
namespace Eg
section
variable {τ:Sm} {w:World}
theorem aUu (hT:TH τ w):RdT τ w 11 22474 stF:=fun us h=>by
 obtain⟨r,h1,h2,h3⟩:=rdS (q:=2) (t:=10) (t':=10) (m:=4) (m':=2) hT (.inl rfl) (.inl rfl) (fun _=>aT1 hT) (fun _=>aT1 hT) h;exact QA62
theorem aUt (hT:TH τ w):RdT τ w 12 247254 prF:=by
 rintro us ⟨v0,_,rfl,h0,v1,_,rfl,⟨y,rfl⟩,v2,_,rfl,h2,v3,_,rfl,h3,v4,_,rfl,h4,rfl⟩;obtain⟨l0,r0,n0⟩:=rd_b hT h0;obtain⟨s2,f2,r2,n2,m2⟩:=aCk hT h2 fun _=>rd2 hT;obtain⟨s3,f3,r3,n3,m3⟩:=aCk hT h3 fun _=>rd0 hT;obtain⟨s4,f4,r4,n4,m4⟩:=aCk hT h4 fun _=>aUu hT;obtain⟨l2,rfl⟩:=gJ Pa.fl s2 f2;obtain⟨l3,rfl⟩:=gJ (fun x=>[Fl.b x]) s3 f3;obtain⟨l4,rfl⟩:=gJ St.fl s4 f4;refine⟨_,⟨⟨l0,y,l2,l3,l4⟩,rfl⟩,⟨_,_,rfl,r0,_,_,rfl,rfl,_,_,rfl,r2,_,_,rfl,r3,_,_,rfl,by rw[bA];exact r4,rfl⟩, ?_⟩;simp only[Pr.fl,aO,Fl.len,dI,bA];omega
theorem aUs (hT:TH τ w){us:List Value}(h:RV τ (Dt 13).2 us):∃m:Mo,aL w m.fl us/\aO m.fl<=1000000:=by
 obtain⟨v0,_,rfl,h0,v1,_,rfl,h1,v2,_,rfl,h2,v3,_,rfl,h3,rfl⟩:=h;obtain⟨l0,r0,n0⟩:=rd_b hT h0;obtain⟨s1,f1,r1,n1,m1⟩:=aCk hT h1 fun _=>rd0 hT;obtain⟨s2,f2,r2,n2,m2⟩:=aCk hT h2 fun _=>rd1 hT;obtain⟨s3,f3,r3,n3,m3⟩:=aCk hT h3 fun _=>aUt hT;obtain⟨l1,rfl⟩:=gJ (fun x=>[Fl.b x]) s1 f1;obtain⟨l2,rfl⟩:=gJ Va.fl s2 f2;obtain⟨l3,rfl⟩:=gJ Pr.fl s3 f3;refine⟨⟨l0,l1,l2,l3⟩,⟨_,_,rfl,r0,_,_,rfl,r1,_,_,rfl,r2,_,_,rfl,r3,rfl⟩, ?_⟩;simp only[Mo.fl,aO,Fl.len,dI];omega
end
theorem aPq {fs:List Fa}{k:Nat}(h:aG (fs.map Fa.fl)<=k)(hk:k<=1048576):∀f ∈ fs,∀y ∈ f.procs,y.kinds.length<=1048576:=fun f hf q hq=>by
 have h1:=bZ (List.mem_map_of_mem (f:=Fa.fl) hf);have e:aO f.fl=f.name.length+((f.procs.map Fp.fl).length+aG (f.procs.map Fp.fl)):=by simp[Fa.fl,aO,Fl.len]
 have h2:=bZ (List.mem_map_of_mem (f:=Fp.fl) hq);have e2:aO q.fl=q.name.length+q.kinds.length:=by simp[Fp.fl,aO,Fl.len]
 omega
theorem aSd:ConOk vD:=by
 intro τ w I vs hT Dm Ep Bs;obtain⟨v0,_,rfl,⟨us,rfl,hR⟩,v1,_,rfl,Qd,rfl⟩:=Bs;obtain⟨m,hm,Qj⟩:=aUs hT hR;obtain⟨fs,Hi,hF,hfw⟩:=aNz hT Qd.1 Qd.2;have h3:=Qd.2.2;have fl2:=aPq hfw A0;obtain⟨b,c,e1,hL⟩:=hF.list;rw[zB2]at e1;have hR0:=hR;obtain⟨m0,_,rfl,_,m1,_,rfl,_,m2,_,rfl,_,m3,_,rfl,_,rfl⟩:=hR;subst e1;show Calls Tryz.prog 27 #[.agg #[m0,m1,m2,m3],.slice b fs.length c] w _
 have fin:∀e w',Cp.Rz τ w e w'->∃v τ',e=.returned v/\Fr ⟨vD.st,vD.K I,τ,w⟩ τ' w'/\(vD.st=true->Tg τ->Tg τ')/\vD.After w' I/\vD.res.ok vD.st τ' w.heap.size I v:=by
  rintro e w' ⟨ws,x,τ',rfl,fr,tg,hR,hx⟩;exact⟨_,τ',rfl,fr,fun _=>tg,nZ rfl rfl,ws,x,rfl,hR,hx⟩
 exact Cp.compC aSa m fs m0 m1 m2 m3 b fs.length c w hT (Dm rfl) hm hR0 A0 hL rfl Qd fl2 _ fin
end Eg
end
namespace Eg
theorem kWorld:ConOk (aJu):=bN (cn kOnce (cn aR9 (cn aO3 (cn aSd (cn aU4 (cz)))))) A1 aLf
end Eg
def DrO (w:World)(lo:Nat)(u:Value):Prop:=∃τ,Eg.TH τ w/\(∀b,b<lo->τ b=none)/\Eg.SVb τ (.rc 20) 0 12 u
theorem sE {τ1 τ2:Eg.Sm}{w1 w2:World}{g:Nat}{st:Bool}{B:Nat}(h:Eg.Fr ⟨st,[g],τ1,w1⟩ τ2 w2)(hB:B<=g)(hg:g<w1.heap.size)(h0:∀b,b<B->τ1 b=none):Below B w1 w2/\∀b,b<B->τ2 b=none:=
 ⟨⟨h.os,h.tape,h.output,h.size,fun b hb=>h.blk b (by show b<w1.heap.size;omega) (h0 b hb) (by show b ∉ [g];simp;omega)⟩,fun b hb=>h.non b (by show b<w1.heap.size;omega) (h0 b hb)⟩
set_option maxHeartbeats 4000000 in
theorem aEy (a:Option Addr)(n c:Nat)(l:List Int)(w:World)(h:aV w a n l)(hn:n<=9223372036854775807):Calls Tryz.prog 4 #[.slice a n c] w fun e w'=>∃u,e=.returned u/\DrO w' w.heap.size u/\Below w.heap.size w w':=by
 have HN:=aUx a n c l _ h hn;clear h;go_enter Tryz.func4,Tryz.ntmps4;go_wp2_with fail;refine HN.mono ?_;rintro e w2 ⟨g,rfl,hg,Fx,hb⟩;have HB:Hid (Below w.heap.size w w2/\w.heap.size<=g/\g<w2.heap.size):=⟨hb,hg,Fx.lt⟩
 have hT:Eg.TH (fun _=>none) w2:=fun b s h=>by cases h
 have HO:=Eg.kOnce (fun _=>none) w2 ⟨g,0,.bool true,.bool true,.bool true,.bool true,.bool true,.bool true,.bool true,true⟩ [.pointer (some ⟨g,0,none⟩),.int .i64 2] hT (fun _ b s h=>by cases h) ⟨fun h9=> A14,fun _=>⟨Fx,rfl,fun _ _=>rfl⟩⟩ ⟨_,_,rfl,rfl,_,_,rfl,⟨2,rfl,by decide,by decide⟩,rfl⟩;clear HN Fx hg hb hT;go_wp2_with fail;refine HO.mono ?_;rintro e w3 ⟨v,τ1,rfl,fr1,tg1,af1,b,rfl⟩;have HF1:Hid (Eg.TH τ1 w3/\Eg.Tg τ1/\Cur w3 g/\(∀b,b<w.heap.size->τ1 b=none)/\Below w.heap.size w w3/\g<w3.heap.size):=by
  have q:=sE fr1 HB.out.2.1 HB.out.2.2 (fun _ _=>rfl);exact⟨fr1.th,tg1 rfl (fun b s h=>by cases h),af1.cur rfl,q.2,HB.out.1.trans q.1,Nat.lt_of_lt_of_le HB.out.2.2 fr1.size⟩
 have HW:=Eg.kWorld τ1 w3 ⟨g,0,.bool true,.bool true,.bool true,.bool true,.bool true,.bool true,.bool true,true⟩ [.pointer (some ⟨g,0,none⟩),.bool b] fr1.th (fun _=>HF1.out.2.1) ⟨fun h9=> A14,fun _=>⟨af1.cur rfl,fr1.non g HB.out.2.2 rfl,fun b hb=>fr1.non b (Nat.lt_trans hb HB.out.2.2) rfl⟩⟩ ⟨_,_,rfl,rfl,_,_,rfl,⟨b,rfl⟩,rfl⟩;have HLO:Hid (∀b,b<=g->τ1 b=none):=fun b hb=>fr1.non b (Nat.lt_of_le_of_lt hb HB.out.2.2) rfl;clear HO fr1 tg1 af1;go_wp2_with fail;refine HW.mono ?_;rintro e w4 ⟨v,τ2,rfl,fr2,tg2,af2,u,p,a0,n0,c0,a1,n1,c1,a2,n2,c2,rfl,hu,_⟩;have Ke:Hid (Eg.TH τ2 w4/\Eg.Tg τ2/\Cur w4 g/\(∀b,b<=g->τ2 b=none)/\Below w.heap.size w w4/\g<w4.heap.size/\Eg.SVb τ2 (.rc 20) 1 3 u):=by
  have q:=sE fr2 HB.out.2.1 HF1.out.2.2.2.2.2 HF1.out.2.2.2.1;exact⟨fr2.th,tg2 rfl HF1.out.2.1,af2.cur rfl,fun b hb=>fr2.non b (Nat.lt_of_le_of_lt hb HF1.out.2.2.2.2.2) (HLO.out b hb),HF1.out.2.2.2.2.1.trans q.1,Nat.lt_of_lt_of_le HF1.out.2.2.2.2.2 fr2.size,hu⟩
 clear HW fr2 tg2 af2 hu;go_upto_region 3 with fail;have y5:Below w4.heap.size w4 (w4.alloc (.cells #[.slice a0 n0 c0,.slice a1 n1 c1,.slice a2 n2 c2] 52 (0,0))):=(zD2 _ _).alloc (zB0 _) _;have t5:Eg.TH τ2 (w4.alloc (.cells #[.slice a0 n0 c0,.slice a1 n1 c1,.slice a2 n2 c2] 52 (0,0))):=Ke.out.1.on fun b s hb=>y5.block b (Ke.out.1.lt hb);have c5:Cur (w4.alloc (.cells #[.slice a0 n0 c0,.slice a1 n1 c1,.slice a2 n2 c2] 52 (0,0))) g:=Ke.out.2.2.1.alloc _;generalize w4.alloc (.cells #[.slice a0 n0 c0,.slice a1 n1 c1,.slice a2 n2 c2] 52 (0,0))=w5 at *;have HBT:=Eg.kBent τ2 w5 ⟨g,0,.bool true,.bool true,.bool true,.bool true,.bool true,.bool true,.bool true,true⟩ [.pointer (some ⟨g,0,none⟩),u] t5 (fun _=>Ke.out.2.1) ⟨fun h9=> A14,fun _=>⟨c5,Ke.out.2.2.2.1 g (zB0 _),fun b hb=>Ke.out.2.2.2.1 b (Nat.le_of_lt hb)⟩⟩ ⟨_,_,rfl,rfl,_,_,rfl,Ke.out.2.2.2.2.2.2,rfl⟩;have HY:Hid (Below w.heap.size w w5/\g<w5.heap.size):=⟨Ke.out.2.2.2.2.1.trans (y5.mono Ke.out.2.2.2.2.1.size),Nat.lt_of_lt_of_le Ke.out.2.2.2.2.2.1 y5.size⟩
 clear y5 t5 c5;go_wp2_with fail;refine HBT.mono ?_;rintro e w6 ⟨v,τ3,rfl,fr3,tg3,af3,hv,_⟩;have q:=sE fr3 HB.out.2.1 HY.out.2 (fun b hb=>Ke.out.2.2.2.1 b (by have:=HB.out.2.1;omega));clear HBT;go_wp2;go_ret;exact⟨v,rfl,⟨τ3,fr3.th,q.2,hv⟩,HY.out.1.trans q.1⟩
end Go.Proofs.YtcbhdhmhidpdgaaGreatDoor

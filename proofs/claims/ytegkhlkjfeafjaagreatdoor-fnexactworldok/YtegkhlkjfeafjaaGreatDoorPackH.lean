import Derived.Test.YtegkhlkjfeafjaaGreatDoorPackG
import Derived.Test.YtegkhlkjfeafjaaGreatDoorWoTakes
import Derived.Test.YtegkhlkjfeafjaaGreatDoorWoSame
namespace Go.Proofs.YtegkhlkjfeafjaaGreatDoor
open Go.RowKit
set_option maxHeartbeats 16000000
set_option linter.unusedVariables false
set_option linter.unusedSimpArgs false
set_option maxRecDepth 100000
theorem U307{p:Prop}(h:p:=by
 go_wp2
 go_ret
 exact⟨rfl,aD HY.out (aI b0 none)⟩):p:=h
theorem aQy (am:Option Addr)(nm cm:Nat)(af:Option Addr)(nf cf:Nat)(az:Option Addr)(ns cs:Nat)(w:World)(b1 b2 b3:Bool)
  (h1:rng (nm:Int) 1 8=b1)
  (h2:((nf:Int) == (nm:Int))=b2)
  (H3:∀w2,w.grownBy w2 none->Calls Tryz.prog 24 #[.slice af nf cf] w2 fun e w'=>e=.returned (.bool b3)/\w2.grownBy w' none)
  (hb:(b1 && (b2 && b3))=false):
  Calls Tryz.prog 7 #[.agg #[.slice am nm cm,.slice af nf cf,.slice az ns cs]] w fun e w'=>e=.returned (.bool false)/\w.grownBy w' none:=by
 have hmf:∀(fn:Fn) (first cap:Array Value) (w:World),(Instr.makeFunc fn first cap).run Tryz.prog w=.ok (.func fn first cap) w:=fun _ _ _ _=>rfl
 have x1:=Blk.new w 33 [.slice am nm cm,.slice af nf cf,.slice az ns cs]
 have y1:Below w.heap.size w (w.alloc (.cells #[.slice am nm cm,.slice af nf cf,.slice az ns cs] 33 (0,0))):=(zD2 _ _).alloc (zB0 _) _
 simp only[List.toArray]at x1;go_enter Tryz.func7,Tryz.ntmps7;go_upto_region 1 with fail;have HY:=hid (aI y1 none);generalize w.alloc (.cells #[.slice am nm cm,.slice af nf cf,.slice az ns cs] 33 (0,0))=w1 at *;generalize w.heap.size=gw at x1 ⊢
 have HS1:∀{wl:World},Below w1.heap.size w1 wl->(wl.cell? ⟨gw,0,none⟩=some (.slice am nm cm)/\wl.cell? ⟨gw,1,none⟩=some (.slice af nf cf)/\wl.cell? ⟨gw,2,none⟩=some (.slice az ns cs)):=fun hb=>⟨aB (x1.k 0) hb,aB (x1.k 1) hb,aB (x1.k 2) hb⟩
 have b0:Below w1.heap.size w1 w1:=zD2 _ _
 obtain⟨q0,q1,q2⟩:=HS1 b0;clear x1 y1;go_wp2_with fail;refine(aO0 h1 _).mono ?_;rintro e w3 ⟨rfl,rfl⟩;cases b1
 case false=>
  exact U307
 cases b2
 case false=>
  exact U307
 go_wp2_with fail;refine(H3 _ (aD HY.out (aI b0 none))).mono ?_;rintro e w4 ⟨rfl,Bg⟩;clear q0 q1 q2;replace b0:=b0.trans ((aA Bg).mono b0.size);obtain⟨q0,q1,q2⟩:=HS1 b0;clear Bg;cases b3
 case false=>
  exact U307
 cases hb
theorem aQx (am:Option Addr)(nm cm:Nat)(bf of:Nat)(nf cf:Nat)(az:Option Addr)(ns cs:Nat)(w:World)(k:Nat)(hk:nf=k+1)(hn9:nf<=9223372036854775807)(i0 i1:Option Addr)(m0 j0 m1 j1:Nat)(hc0:w.cell? ⟨bf,of+k*2,none⟩=some (.slice i0 m0 j0))(hc1:w.cell? ⟨bf,of+k*2+1,none⟩=some (.slice i1 m1 j1))(b4 b5 b6 b7:Bool)
  (h1:rng (nm:Int) 1 8=true)
  (h2:((nf:Int) == (nm:Int))=true)
  (H3:∀w2,w.grownBy w2 none->Calls Tryz.prog 24 #[.slice (some ⟨bf,of,none⟩) nf cf] w2 fun e w'=>e=.returned (.bool true)/\w2.grownBy w' none)
  (H4:∀w2,w.grownBy w2 none->Calls Tryz.prog 25 #[.agg #[.slice i0 m0 j0,.slice i1 m1 j1]] w2 fun e w'=>e=.returned (.bool b4)/\w2.grownBy w' none)
  (h5:decide ((ns:Int)<=2000)=b5)
  (H6:∀w2,w.grownBy w2 none->Calls Tryz.prog 26 #[.slice az ns cs,.func (.func 27) #[.agg #[.slice am nm cm,.slice (some ⟨bf,of,none⟩) nf cf,.slice az ns cs]] #[]] w2 fun e w'=>e=.returned (.bool b6)/\w2.grownBy w' none)
  (H7:∀w2,w.grownBy w2 none->Calls Tryz.prog 28 #[.slice am nm cm,.slice (some ⟨bf,of,none⟩) nf cf] w2 fun e w'=>e=.returned (.bool b7)/\w2.grownBy w' none):
  Calls Tryz.prog 7 #[.agg #[.slice am nm cm,.slice (some ⟨bf,of,none⟩) nf cf,.slice az ns cs]] w fun e w'=>e=.returned (.bool (b4 && (b5 && (b6 && b7))))/\w.grownBy w' none:=by
 have hmf:∀(fn:Fn) (first cap:Array Value) (w:World),(Instr.makeFunc fn first cap).run Tryz.prog w=.ok (.func fn first cap) w:=fun _ _ _ _=>rfl
 have hkn:(k:Int)<(nf:Int):=V6
 have hwn:IntKind.i64.wrap ((nf:Int)-1)=(k:Int):=by rw[IntKind.wrap_i64];omega
 clear hk;have x1:=Blk.new w 33 [.slice am nm cm,.slice (some ⟨bf,of,none⟩) nf cf,.slice az ns cs]
 have y1:Below w.heap.size w (w.alloc (.cells #[.slice am nm cm,.slice (some ⟨bf,of,none⟩) nf cf,.slice az ns cs] 33 (0,0))):=(zD2 _ _).alloc (zB0 _) _
 simp only[List.toArray]at x1;go_enter Tryz.func7,Tryz.ntmps7;go_upto_region 1 with fail;have HY:=hid (aI y1 none);replace hc0:=aB hc0 y1;replace hc1:=aB hc1 y1;generalize w.alloc (.cells #[.slice am nm cm,.slice (some ⟨bf,of,none⟩) nf cf,.slice az ns cs] 33 (0,0))=w1 at *;generalize w.heap.size=gw at x1 ⊢
 have HS1:∀{wl:World},Below w1.heap.size w1 wl->(wl.cell? ⟨gw,0,none⟩=some (.slice am nm cm)/\wl.cell? ⟨gw,1,none⟩=some (.slice (some ⟨bf,of,none⟩) nf cf)/\wl.cell? ⟨gw,2,none⟩=some (.slice az ns cs)/\wl.cell? ⟨bf,of+k*2,none⟩=some (.slice i0 m0 j0)/\wl.cell? ⟨bf,of+k*2+1,none⟩=some (.slice i1 m1 j1)):=fun hb=>⟨aB (x1.k 0) hb,aB (x1.k 1) hb,aB (x1.k 2) hb,aB hc0 hb,aB hc1 hb⟩
 have b0:Below w1.heap.size w1 w1:=zD2 _ _
 obtain⟨q0,q1,q2,q3,q4⟩:=HS1 b0;clear x1 y1 hc0 hc1;go_wp2_with fail;refine(aO0 h1 _).mono ?_;rintro e w3 ⟨rfl,rfl⟩;go_wp2_with fail;refine(H3 _ (aD HY.out (aI b0 none))).mono ?_;rintro e w4 ⟨rfl,Bg⟩;clear q0 q1 q2 q3 q4;replace b0:=b0.trans ((aA Bg).mono b0.size);obtain⟨q0,q1,q2,q3,q4⟩:=HS1 b0;clear Bg;go_wp2_with fail;refine(H4 _ (aD HY.out (aI b0 none))).mono ?_;rintro e w5 ⟨rfl,hg5⟩;clear q0 q1 q2 q3 q4;replace b0:=b0.trans ((aA hg5).mono b0.size);obtain⟨q0,q1,q2,q3,q4⟩:=HS1 b0;clear hg5;cases b4
 case false=>
  exact U307
 cases b5
 case false=>
  exact U307
 go_wp2_with fail;refine(H6 _ (aD HY.out (aI b0 none))).mono ?_;rintro e w6 ⟨rfl,hg6⟩;clear q0 q1 q2 q3 q4;replace b0:=b0.trans ((aA hg6).mono b0.size);obtain⟨q0,q1,q2,q3,q4⟩:=HS1 b0;clear hg6;cases b6
 case false=>
  exact U307
 go_wp2_with fail;refine(H7 _ (aD HY.out (aI b0 none))).mono ?_;rintro e w7 ⟨rfl,hg7⟩;clear q0 q1 q2 q3 q4;replace b0:=b0.trans ((aA hg7).mono b0.size);obtain⟨q0,q1,q2,q3,q4⟩:=HS1 b0;clear hg7;cases b7
 case false=>
  exact U307
 go_wp2;go_ret;exact⟨rfl,aD HY.out (aI b0 none)⟩
def aO7 (ck:Mo->List Fa->Int)(fo:Mo->Fa)(x:Wd):Bool:=
 rng (x.mods.length:Int) 1 8 && (((x.faces.length:Int) == (x.mods.length:Int)) && (jX x.faces && (aOa (x.faces[x.faces.length-1]?.getD ⟨[],[]⟩) && (decide ((x.script.length:Int)<=2000) && (x.script.all (aOj x.faces) && aN6 ck fo x.mods x.faces)))))
theorem aPv {x:Wd}(h:aH x.fl<=1048576):(∀m ∈ x.mods,aH m.fl<=1048576)/\aP5 x.faces:=by
 refine M999 ?_;clear h;intro e h
 refine⟨fun m hm=>by have:=hZ (f:=Mo.fl) hm;omega,fun f hf=>?_⟩
 have h1:=hZ (f:=Fa.fl) hf
 have e2:aH f.fl=f.name.length+((f.procs.map Fp.fl).length+aF (f.procs.map Fp.fl)):=by simp[Fa.fl,aH,Fl.len]
 rw[e2]at h1
 refine⟨by omega,fun q hq=>?_⟩
 have h2:=hZ (f:=Fp.fl) hq;simp only[Fp.fl,aH,Fl.len]at h2
 omega
theorem aPp (T:World->Prop)(hT:∀w w',T w->Below w.heap.size w w'->T w')(ck:Mo->List Fa->Int)(fo:Mo->Fa)(HC:aRk 57 T ck)(HO:aRj 58 T fo)(hfo:∀m,aH m.fl<=1048576->∀p ∈ (fo m).procs,p.kinds.length<=1073741824)
  (x:Wd) (vs:List Value) (w:World) (hTw:T w) (h:aO w x.fl vs) (hs:aH x.fl<=1048576):
  Calls Tryz.prog 7 #[.agg vs.toArray] w fun e w'=>e=.returned (.bool (aO7 ck fo x))/\w.grownBy w' none:=by
 obtain⟨hsm,hsf⟩:=aPv hs;obtain⟨ms,fs,ss⟩:=x;obtain⟨v0,_,rfl,hm',v1,_,rfl,hf',v2,_,rfl,hs',rfl⟩:=h;obtain⟨am,cm,rfl,hm⟩:=hm'.list;obtain⟨af,cf,rfl,hf⟩:=hf'.list;obtain⟨az,cs,rfl,hz⟩:=hs'.list;have h9:=hf.len9;rw[zB2]at h9;rw[zB2,zB2,zB2]
 show Calls Tryz.prog 7 #[.agg #[.slice am ms.length cm,.slice af fs.length cf,.slice az ss.length cs]] w _
 have H3:∀{b:Bool},jX fs=b->∀w2,w.grownBy w2 none->Calls Tryz.prog 24 #[.slice af fs.length cf] w2 fun e w'=>e=.returned (.bool b)/\w2.grownBy w' none:=fun hb w2 hg=>hb ▸ wS fs af fs.length cf w2 rfl (hf.below (aA hg)) hsf
 have H7:fs.length=ms.length->∀{b:Bool},aN6 ck fo ms fs=b->∀w2,w.grownBy w2 none->Calls Tryz.prog 28 #[.slice am ms.length cm,.slice af fs.length cf] w2 fun e w'=>e=.returned (.bool b)/\w2.grownBy w' none:=fun hn b hb w2 hg=>by
  have:=aQr T hT ck fo HC HO hfo ms fs am ms.length cm af cf w2 (hT w w2 hTw (aA hg)) (hm.below (aA hg)) rfl (hf.below (aA hg)) hn hsm hsf
  rw[hb]at this;rw[hn];exact this
 have H6:∀{b:Bool},ss.all (aOj fs)=b->∀w2,w.grownBy w2 none->Calls Tryz.prog 26 #[.slice az ss.length cs,.func (.func 27) #[.agg #[.slice am ms.length cm,.slice af fs.length cf,.slice az ss.length cs]] #[]] w2 fun e w'=>e=.returned (.bool b)/\w2.grownBy w' none:=fun hb w2 hg=>hb ▸ aQw 27 _ ss (aOj fs) az ss.length cs w2 (cK Tryz.func27 rfl rfl) rfl (hz.below (aA hg)) (fun y us w3 _ hg3 hr=>aQo fs _ _ af fs.length cf y us w3 (hf.below (aA (aD hg hg3))) rfl hr)
 unfold aO7
 dsimp only
 by_cases hy:(rng (ms.length:Int) 1 8 && (((fs.length:Int) == (ms.length:Int)) && jX fs))=false
 .
  rw[show ∀p:Bool,(rng (ms.length:Int) 1 8 && (((fs.length:Int) == (ms.length:Int)) && (jX fs && p)))=((rng (ms.length:Int) 1 8 && (((fs.length:Int) == (ms.length:Int)) && jX fs)) && p) from fun p=>by simp only[Bool.and_assoc],hy]
  exact aQy am ms.length cm af fs.length cf az ss.length cs w _ _ _ rfl rfl (H3 rfl) hy
 simp only[Bool.not_eq_false,zC0]at hy;obtain⟨h1,h2,h3⟩:=hy;rw[h1,h2,h3,Bool.true_and,Bool.true_and,Bool.true_and]
 have hn:fs.length=ms.length:=by have:=eq_of_beq h2;omega
 have hp:1<=fs.length:=by rw[hn];simp only[rng,zC0,zE3]at h1;omega
 obtain⟨k,hk⟩:∃k,fs.length=k+1:=⟨fs.length-1,by omega⟩
 obtain⟨f,hfx⟩:∃f,fs[k]?=some f:=⟨_,zA0 V6⟩
 obtain⟨bf,of,ys,rfl,hys,Ab⟩:=aS.cellsAt hf (show(fs.map Fa.fl)[k]?=some f.fl by rw[zA2,hfx];rfl)
 have hy0:=hys;obtain⟨s0,_,rfl,⟨i0,j0,rfl,_⟩,s1,_,rfl,hl4,rfl⟩:=hy0;obtain⟨i1,j1,rfl,_⟩:=hl4.list;have c0:=Ab 0 _ rfl;have c1:=Ab 1 _ rfl;rw[zG2]at c0
 have H4:∀{b:Bool},aOa f=b->∀w2,w.grownBy w2 none->Calls Tryz.prog 25 #[.agg #[.slice i0 f.name.length j0,.slice i1 (f.procs.map Fp.fl).length j1]] w2 fun e w'=>e=.returned (.bool b)/\w2.grownBy w' none:=fun hb w2 hg=>hb ▸ aQg f _ w2 (hys.below (aA hg))
 rw[show fs[fs.length-1]?.getD ⟨[],[]⟩=f by rw[hk,Nat.add_sub_cancel,hfx];rfl]
 exact aQx am ms.length cm bf of fs.length cf az ss.length cs w k hk h9 i0 i1 _ j0 _ j1 c0 c1 _ _ _ _ h1 h2 (H3 h3) (H4 rfl) rfl (H6 rfl) (H7 hn rfl)
set_option maxHeartbeats 4000000 in
theorem aO1 (l:List Mo)(am:Option Addr)(nm cm:Nat)(fv sv:Value)(j:Nat)(x:Mo)(w:World)(h:aS w am cm 4 (l.map Mo.fl))(hn:l.length=nm)(hx:l[j]?=some x):
  Calls Tryz.prog 13 #[.agg #[.slice am nm cm,fv,sv],.int .i64 j] w fun e w'=>e=.returned (.bool ((x.name.length:Int) == 0))/\w.grownBy w' none:=by
 have h9:=h.len9;rw[zB2,hn]at h9
 have Ai:j<nm:=by have:=(zC1.1 hx).1;omega
 obtain⟨b,off,ys,rfl,hys,Ab⟩:=aS.cellsAt h (show(l.map Mo.fl)[j]?=some x.fl by rw[zA2,hx];rfl)
 obtain⟨s0,_,rfl,⟨a0,c0,rfl,_,hq1,hq2,_⟩,s1,_,rfl,_,s2,_,rfl,_,s3,_,rfl,_,rfl⟩:=hys;have p0:=Ab 0 _ rfl;rw[zG2]at p0
 have hn0:x.name.length<=9223372036854775807:=by unfold maxLen at hq2;omega
 have y1:Below w.heap.size w (w.alloc (.cells #[.slice (some ⟨b,off,none⟩) nm cm,fv,sv] 33 (0,0))):=(zD2 _ _).alloc (zB0 _) _
 have q0:=aN w 33 #[.slice (some ⟨b,off,none⟩) nm cm,fv,sv] 0 _ rfl;replace p0:=aB p0 y1
 have hjn:(j:Int)<(nm:Int):=by omega
 clear h hx hn Ab hq1 hq2;generalize x.name.length=n0 at *;go_enter Tryz.func13,Tryz.ntmps13;go_upto_region 1 with fail;generalize w.alloc (.cells #[.slice (some ⟨b,off,none⟩) nm cm,fv,sv] 33 (0,0))=w1 at *;go_wp2;go_ret;exact⟨rfl,aI y1 none⟩
end Go.Proofs.YtegkhlkjfeafjaaGreatDoor

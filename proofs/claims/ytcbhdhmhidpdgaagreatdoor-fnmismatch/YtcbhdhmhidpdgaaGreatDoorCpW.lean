import Derived.Test.YtcbhdhmhidpdgaaGreatDoorPackN
namespace Go.Proofs.YtcbhdhmhidpdgaaGreatDoor
open Go.RowKit
set_option linter.unusedVariables false
set_option linter.unusedSimpArgs false
set_option maxRecDepth 100000
namespace Cp
section
variable {E:En} {gm gr go:Nat} {rq:RD} {nm:Value} {d d' d1:GD} {w w' w1:World} {xv:Value} {xn:Nat} {dt:Int}
theorem Lo.fin (h:Lo E gm gr go rq nm d w xv xn dt)(hE:dX E)(Gz:Eg.FV E.τ0 (.b 4) nm){v:Value}{n:Nat}{l:List Int}(ho:Own w1 w.heap.size v n l)(hb:Below w.heap.size w w1):
  ∃τ',Eg.Fr ⟨true,[],E.τ0,E.w0⟩ τ' (w1.setCell ⟨go,4,none⟩ v)/\Eg.Tg τ'/\Eg.RV τ' [.b 4,.l 18 0 xn,.l 19 0 rq.n,.n,.b n] [nm,xv,rq.v,.int .i64 dt,v]/\τ' gr=none ∧
   Blk (w1.setCell ⟨go,4,none⟩ v) gr 39 zOb/\Blk (w1.setCell ⟨go,4,none⟩ v) go 39 [nm,xv,rq.v,.int .i64 dt,v]:=by
 have Ad:=h.lt;have L1:=h.on hE hb;obtain⟨xss,hX0⟩:=h.xo;have hX:=hX0.on hb;have g5:GS E d (w1.setCell ⟨go,4,none⟩ v):=L1.gs.farS hE L1.bo A0 A6 v;have X5:Xo E (w1.setCell ⟨go,4,none⟩ v) xv xn xss:=⟨bT hX.own fun b Dy=>heap_setCell_other w1 ⟨go,4,none⟩ b _ (fun e=>hX.ne L1.bo A6 (by rw[show b=go from e]at Dy;exact Dy)),hX.len,hX.ty⟩
 have vne:∀{b:Nat} {vs:List Value},Blk w1 b 39 vs->v.ownBlock ≠ some b:=fun {b vs} Ck e=>by
  obtain⟨cs,h1⟩:=iU ho.1 e;rw[Ck]at h1;cases h1
 have rne:∀{b:Nat} {vs:List Value},Blk w1 b 39 vs->(d.r 1).v.ownBlock ≠ some b:=fun {b vs} Ck e=>by
  obtain⟨cs,h1⟩:=iU (L1.gs.row 1 A0) e;rw[Ck]at h1;cases h1
 have o5:Own (w1.setCell ⟨go,4,none⟩ v) w.heap.size v n l:=⟨bT ho.1 fun b Dy=>heap_setCell_other w1 ⟨go,4,none⟩ b _ (fun e=>vne L1.bo (by rw[show b=go from e]at Dy;exact Dy)),ho.2⟩
 obtain⟨τ2,f2,t2,u2,s18,s19,_,n2⟩:=aRo hE g5 X5;have Bg:=h.gs.bel.size;obtain⟨τ3,f3,s3,u3,n3,t3⟩:=f2.bytes o5 Bg (fun g hg=>by
  have hg1:=(o5.1.lt g hg).1;rw[n2 g (fun e=>by have:=(hX0.own.lt g e).2;omega) (fun e=>by have:=((h.gs.row 1 A0).lt g e).2;omega)];exact hE.th.fresh A0)
 rw[h.r1]at s19;refine⟨τ3,f3,t3 t2,⟨_,_,rfl,Eg.FV.sub (u2.trans u3) Gz,_,_,rfl,⟨xn,⟨zD1 _,zB0 _⟩,s18.sub u3⟩,_,_,rfl,⟨rq.n,⟨zD1 _,zB0 _⟩,s19.sub u3⟩,_,_,rfl,⟨dt,rfl,h.di⟩,_,_,rfl,⟨n,zB0 _,s3⟩,rfl⟩, ?_,L1.br.other Ad.2.2.2.2,L1.bo.set (i:=4) v⟩;rw[n3 _ (vne L1.br),n2 _ (hX.ne L1.br A6) (rne L1.br)];exact hE.th.fresh Ad.2.1
end
theorem aR1 {τ:Eg.Sm}{w:World}{us:List Value}{o:Oj}{M1 M2 M3:Nat}(h:Eg.RV τ [.b 4,.l 18 0 M1,.l 19 0 M2,.n,.b M3] us)(hr:aL w o.fl us)(h1:o.ex.length<=8)(h2:o.im.length<=8)(h3:o.code.length<=9000):Eg.RV τ (Eg.Dt 20).2 us:=by
 obtain⟨v0,_,rfl,f0,v1,_,rfl,⟨n1,_,s1⟩,v2,_,rfl,⟨n2,_,s2⟩,v3,_,rfl,f3,v4,_,rfl,⟨n4,_,s4⟩,rfl⟩:=h;obtain⟨_,_,e0,_,_,_,e1,r1,_,_,e2,r2,_,_,e3,_,_,_,e4,r4,_⟩:=hr;cases e0;cases e1;cases e2;cases e3;cases e4;obtain⟨a1,c1,q1,_⟩:=r1.list;obtain⟨a2,c2,q2,_⟩:=r2.list;obtain⟨a4,c4,q4,_⟩:=r4;have z1:=Eg.sv_ln s1;have z2:=Eg.sv_ln s2;have z4:=Eg.sv_ln s4;rw[q1]at z1;rw[q2]at z2;rw[q4]at z4;have z1:(o.ex.map Xp.fl).length=n1:=z1;have z2:(o.im.map Ip.fl).length=n2:=z2;have z4:o.code.length=n4:=z4;rw[zB2]at z1 z2;exact⟨_,_,rfl,f0,_,_,rfl,⟨n1,⟨zD1 _,by omega⟩,s1⟩,_,_,rfl,⟨n2,⟨zD1 _,by omega⟩,s2⟩,_,_,rfl,f3,_,_,rfl,⟨n4,by omega,s4⟩,rfl⟩
theorem Fr.trn {τ0 τ1 τ2:Eg.Sm}{w0 w1 w2:World}(h:Eg.Fr ⟨true,[],τ0,w0⟩ τ1 w1)(k:Eg.Fr ⟨true,[],τ1,w1⟩ τ2 w2):Eg.Fr ⟨true,[],τ0,w0⟩ τ2 w2:=
 ⟨k.th,h.sub.trans k.sub,k.os.trans h.os,k.tape.trans h.tape,k.output.trans h.output,zF2 h.size k.size,fun b hb hn=>k.non b (Nat.lt_of_lt_of_le hb h.size) (h.non b hb hn),fun b hb hn hk=>(k.blk b (Nat.lt_of_lt_of_le hb h.size) (h.non b hb hn) hk).trans (h.blk b hb hn hk),fun hst b hb hn=>by
  obtain⟨e1,e2⟩:=h.str hst b hb hn;obtain⟨e3,e4⟩:=k.str rfl b (Nat.lt_of_lt_of_le hb h.size) (by show τ1 b ≠ none;rw[e1];exact hn);exact⟨e3.trans e1,e4.trans e2⟩⟩
theorem Fr.lay {C:Eg.Cx}{τ:Eg.Sm}{w:World}(h:Eg.Fr C τ w){g:Nat}(hg:τ g=none)(h0:C.w0.heap.size<=g)(o:Nat)(vs:List Value):Eg.Fr C τ (w.setCells g o vs):=by
 have hs:=Eg.setCells_same g vs o w;have Ae:∀b,b<C.w0.heap.size->(w.setCells g o vs).heap[b]?=w.heap[b]?:=fun b hb=>Eg.heap_setCells_other g vs o w b A0;exact⟨h.th.on fun b s hb=>Eg.heap_setCells_other g vs o w b (fun e=>by rw[e,hg]at hb;cases hb),h.sub,hs.1.trans h.os,hs.2.1.trans h.tape,hs.2.2.1.trans h.output,by rw[hs.2.2.2];exact h.size,h.non,fun b hb hn hk=>(Ae b hb).trans (h.blk b hb hn hk),fun hst b hb hn=>by
  obtain⟨e1,e2⟩:=h.str hst b hb hn;exact⟨e1,(Ae b hb).trans e2⟩⟩
def Rz (τ:Eg.Sm)(w:World)(e:Ending)(w':World):Prop:=∃vs x τ',e=.returned (.tuple #[.agg vs.toArray,.int .i64 x])/\Eg.Fr ⟨true,[],τ,w⟩ τ' w'/\(Eg.Tg τ->Eg.Tg τ')/\Eg.RV τ' (Eg.Dt 20).2 vs/\Eg.I64 x
theorem aNu {τ:Eg.Sm}{w w':World}(hT:Eg.TH τ w)(hb:Below w.heap.size w w'){x:Int}(hx:Eg.I64 x):Rz τ w (.returned (.tuple #[.agg #[.slice none 0 0,.slice none 0 0,.slice none 0 0,.int .i64 0,.slice none 0 0],.int .i64 x])) w':=
 ⟨zOb,x,τ,rfl,((Eg.Fr.refl (st:=true) (K:=[]) hT).below hb).fr,fun h=>h,aNe τ,hx⟩
end Cp
end Go.Proofs.YtcbhdhmhidpdgaaGreatDoor

import Derived.Test.YtcbhdhmhidpdgaaGreatSpoil
namespace Go.Proofs.YtcbhdhmhidpdgaaGreat
open Go.RowKit
set_option linter.unusedVariables false
theorem QA40{p:Prop}(h:p:=by
 go_wp2
 go_ret
 exact⟨_,_,_,_,rfl,by omega,Qx⟩):p:=h
theorem M939{p q:Prop}(k:q)(h:Kx q->p:=by
 intro kQ
 have Ra:=Hv.1.lt
 have hc5:=Cur.kept (show Cur ((w3.alloc (.cells #[] 5)).drew) g from Hq.alloc _) Az (fun k Cj=>by have h1:=Option.some.inj Cj;simp at h1;omega)
 have Vd:=hc5.kept Bs (fun k Cj=>by have:=(Ra k Cj).1;omega)
 have Uu:=cN (w1:=(w3.alloc (.cells #[] 5)).drew) (rB (cN Ho (World.grownBy_alloc w3 _ none) A37)) Az (fun k Cj=>by have h1:=Option.some.inj Cj;simp at h1;omega)
 have Ut:=cN Uu Bs (fun k Cj=>(Ra k Cj).1)
 obtain⟨a',c',hv,Qx⟩:=Ja.madeD ⟨Vd,Ut⟩
 revert Qx;revert hv;revert c';revert a';revert Ut;revert Uu;revert Vd;revert hc5;revert Ra
 exact kQ.o):p:=h ⟨k⟩
set_option maxRecDepth 100000 in
set_option maxHeartbeats 4000000 in
theorem aBg (g:Nat)(a:Option Addr)(n c:Nat)(l:List Int)(w:World)(h:Cur w g)(hr:aV w a n l)(Ej:a=none->c=0)(hn:n<=100000):
  Calls Tryz.prog 87 #[.pointer (some ⟨g,0,none⟩),.slice a n c] w fun e w'=>∃a' n' c' l',e=.returned (.slice a' n' c')/\n'<=n+1/\aRi w w' g a' n' c' l':=by
 have Ey:=h.lt;have hE:=lX w;have hBE:=gZ w;have hrE:=hr.below hBE;have hcE:Cur (w.alloc (.cells #[] 5)) g:=h.alloc _;clear hr h;go_enter Tryz.func87,Tryz.ntmps87;go_wp2_with (at_builtin;refine cC rfl _ _ rfl w.heap.size _ 0 [] rfl hE a n c l rfl hrE Ej A0 A9 ?_);intro v1 w1 ho1 hg1;have hkE:=hE.1.lt;have Hr:=hcE.kept hg1 (fun k hk=>by have:=(hkE k hk).1;omega);have Uv:w.grownBy w1 (some g):=cN (cN (World.grownBy.refl w (some g)) (World.grownBy_alloc w _ none) A37) hg1 (fun k hk=>(hkE k hk).1);have Hw:Own w1 w.heap.size v1 n l:=by simpa using ho1
 have Jw:=Uv.size;clear hE hBE hrE hcE Ej hg1 ho1 hkE;have hk2:=Hw.1.lt;by_cases Gv:n=0
 .
  subst Gv;obtain⟨a1,c1,hv,_⟩:=Hw.shape;subst hv;go_wp2_with fail;refine(vR g _ Hr).mono ?_;rintro e w2 ⟨x,rfl,Gg,Gd,Do,Cn⟩;have Nf:=Hw.keptBy Cn (fun k Cj e=>by have h1:=(hk2 k Cj).1;cases e;omega);have Gm:=aC Uv Cn;have Df:=Gm.size;clear Hw Hr Cn Uv;go_wp2_with (at_builtin;refine cC rfl _ _ rfl w.heap.size _ 0 l rfl (Nf.alloc _) _ 1 1 _ rfl (oY _ _ A0 A0) (by intro hh;cases hh) A0 A12 ?_);intro v3 w3 Gk Bn;have Hq:=(Do.alloc _).kept Bn (fun k Cj=>by have:=(hk2 k Cj).1;omega);have Ah:=cN (cN Gm (World.grownBy_alloc w2 _ none) A37) Bn (fun k Cj=>(hk2 k Cj).1);obtain⟨a',c',hv,Qx⟩:=Gk.madeD ⟨Hq,Ah⟩;subst hv;clear Bn Gm Do Nf hk2 Gk Hq Ah;exact QA40
 .
  have hq:∃q c1,v1=.slice (some ⟨q,0,none⟩) n c1/\n<=c1/\c1<=maxLen:=by
   rcases Hw.1.2 with⟨e,e2⟩|⟨q,cap,cur,e,_,_,h1,h2,_⟩
   .
    omega
   .
    exact⟨q,cap,e,h1,h2⟩
  obtain⟨q,c1,hv,hq1,Ov⟩:=hq;subst hv;have hqb:=(hk2 q rfl).1;clear hk2;have Ox:∀k,(Value.slice (some ⟨q,0,none⟩) n c1).ownBlock=some k->k=q:=by
   intro k hk;have:some q=some k:=hk;exact(Option.some.inj this).symm
  have hnz:((n:Int) == 0)=false:=by simp;omega
  unfold maxLen at Ov;go_wp2_with fail;refine(aA8 g _ _ Hr A0).mono ?_;rintro e w2 ⟨x,rfl,Gg,Gd,_,Do,Cn⟩;replace Gd:x<n:=Gd A0;obtain⟨i,rfl⟩:=Int.eq_ofNat_of_zero_le Gg;have Nf:=Hw.keptBy Cn (fun k Cj e=>rA Ox hqb Ey k Cj e);have Gm:=aC Uv Cn;clear Hw Hr Cn Uv;go_wp2_with fail;refine(aA8 g _ _ Do A0).mono ?_;rintro e w3 ⟨y,rfl,hy0,Xe,_,Hq,Cv⟩;replace Xe:y<5:=Xe A0;have Gk:=Nf.keptBy Cv (fun k Cj e=>rA Ox hqb Ey k Cj e);have Ho:=aC Gm Cv;have Nb:=Ho.size;clear Nf Do Cv Gm;have An:=Gk.row;have hbyi:=kM An.2.1 i;have Ai:w3.cell? ⟨q,i,none⟩=some (.int .u8 (l[i]?.getD 0)):=by
   obtain⟨b,off,e,hc⟩:=An.2.2 A0;simp only[zG2,Addr.mk.injEq,and_true]at e;obtain⟨rfl,rfl⟩:=e;simpa using hc i A0
  have Uz:=Gk.1.frozenAt i;have hy:y=0\/y=1\/y=2\/y=3\/y=4:=A0;rcases hy with rfl|rfl|rfl|rfl|rfl
  .
   obtain⟨a',c',hv,Qx⟩:=(Gk.cut (i:=i) A0).madeD ⟨Hq,Ho⟩;simp only[Value.slice.injEq,true_and]at hv;obtain⟨rfl,rfl⟩:=hv;clear Gk An Ai Uz;exact QA40
  .
   clear Ai Uz An;go_wp2_with fail;refine(vR g _ Hq).mono ?_;rintro e w4 ⟨x,rfl,hx0',hx1',Tu,Ku⟩;have Hv:=Gk.keptBy Ku (fun k Cj e=>rA Ox hqb Ey k Cj e);have Kd:=aC Ho Ku;have Na:=Kd.size;clear Gk Hq Ku Ho;go_wp2_with (at_builtin;refine cC rfl _ _ rfl w.heap.size _ n l rfl (Hv.alloc _) _ 1 1 _ rfl (oY _ _ A0 A0) (by intro hh;cases hh) A0 A12 ?_);intro v3 w5 Ja Az;have hc5:=(Tu.alloc _).kept Az (fun k Cj=>by have h1:=Ox k Cj;omega);have Bs:=cN (cN Kd (World.grownBy_alloc w4 _ none) A37) Az (fun k Cj=>by have h1:=Ox k Cj;omega);obtain⟨a',c',hv,Qx⟩:=Ja.madeD ⟨hc5,Bs⟩;subst hv;clear Az Kd Tu Hv Ja hc5 Bs;exact QA40
  .
   go_wp2_with fail;refine(vR g _ Hq).mono ?_;rintro e w4 ⟨x,rfl,hx0',hx1',Tu,Ku⟩;have Hv:=Gk.keptBy Ku (fun k Cj e=>rA Ox hqb Ey k Cj e);have Kd:=aC Ho Ku;have Nl:w4.cell? ⟨q,i,none⟩=some (.int .u8 (l[i]?.getD 0)):=Ku.cell Ai A12;have hfro4:=Hv.1.frozenAt i;obtain⟨Ja,Bs⟩:=Hv.storedB i x hx0' hx1';have Vd:=Tu.kept Bs (fun k Cj=>by have h1:=Option.some.inj Cj;omega);have Dz:=cN Kd Bs (fun k Cj=>by have h1:=Option.some.inj Cj;omega);obtain⟨a',c',hv,Qx⟩:=Ja.madeD ⟨Vd,Dz⟩;simp only[Value.slice.injEq,true_and]at hv;obtain⟨rfl,rfl⟩:=hv;clear Gk Hq Ku Ho An Ai Uz Hv Ja Bs Vd Dz Kd Tu;exact QA40
  .
   clear Uz;have hE3:Own (w3.alloc (.cells #[] 5)) w.heap.size (.slice (some ⟨w3.heap.size,0,none⟩) 0 0) 0 []:=(lX w3).mono Nb;have hR1:aV (w3.alloc (.cells #[] 5)) (some ⟨q,0,none⟩) i (l.take i):=(Gk.cut (i:=i) A0).row.below (gZ w3);have hic:i<=c1:=A0;have hin1:i+1<=n:=A0;have hin0:(0:Int)<=(i:Int)+1:=A0;have Xn:(i:Int)<=(i:Int)+1:=A0;have hin2:(i:Int)+1<=(n:Int):=A0;have hwr:IntKind.i64.wrap ((i:Int)+1)=(i:Int)+1:=by rw[IntKind.wrap_i64];omega
   have Cs:q<w3.heap.size:=zI2 w3 _ Ai;have hR2:aV (w3.alloc (.cells #[] 5)) (some ⟨q,0+(i+1),none⟩) (n-(i+1)) (l.drop (i+1)):=(An.tail (lo:=i+1) A0).below (gZ w3);rw[zJ1]at hR2;clear Ai;by_cases Gn:c1=i+1
   .
    have Ae:n=i+1:=A0;subst Ae;subst Gn;have hZ:∀wx:World,aV wx (some ⟨q,0,none⟩) (i+1-(i+1)) []:=fun wx=>by rw[Nat.sub_self];exact aV.empty _
    have HZ:=hid hZ;clear hZ;go_wp2_with fail;go_region_law (first
     | (refine iG rfl (.tmp 59) (.tmp 62) rfl w.heap.size _ 0 [] rfl (by exact hE3) ⟨q,0,none⟩ i _ (l.take i) rfl (by exact hR1) A0 A12 ?_;intro v5 w5 Hv Az)
     | (refine iG rfl (.tmp 63) (.tmp 67) rfl w.heap.size _ (0+i) ([]++l.take i) rfl (by exact Hv) ⟨q,0,none⟩ _ _ [] rfl (by first|exact HZ.out _|exact aV.empty _) A0 (by have:=Az.size;simp at this;omega) ?_;intro v6 w6 Ja Bs))
    all_goals
     refine M939 ?_;intro Ra hc5 Vd Uu Ut a' c' hv Qx;subst hv;clear Gk An hE3 hR1 hR2 HZ Hv Ja Az Bs hc5 Vd Uu Ut Ra Ho Hq;exact QA40
   .
    have hcc':¬c1=((i:Int)+1).toNat:=A0;go_wp2_with fail;go_region_law (first
     | (refine iG rfl (.tmp 59) (.tmp 62) rfl w.heap.size _ 0 [] rfl (by exact hE3) ⟨q,0,none⟩ i c1 (l.take i) rfl (by exact hR1) A0 A12 ?_;intro v5 w5 Hv Az;have hR5:=aV.grown (show aV ((w3.alloc (.cells #[] 5)).drew) _ _ _ from hR2) Az (fun b off e e2=>aOq e e2 Cs))
     | (refine iG rfl (.tmp 63) (.tmp 67) rfl w.heap.size _ (0+i) ([]++l.take i) rfl (by exact Hv) ⟨q,i+1,none⟩ (n-(i+1)) _ (l.drop (i+1)) rfl (by exact hR5) A0 (by have:=Az.size;simp at this;omega) ?_;intro v6 w6 Ja Bs))
    all_goals
     refine M939 ?_;intro Ra hc5 Vd Uu Ut a' c' hv Qx;subst hv;clear Gk An hE3 hR1 hR2 hR5 Hv Ja Az Bs hc5 Vd Uu Ut Ra Ho Hq;exact QA40
  .
   have Nl:Hid (∀w4:World,w3.grownBy w4 (some g)->w4.cell? ⟨q,i,none⟩=some (.int .u8 (l[i]?.getD 0))/\w4.frozen? ⟨q,i,none⟩=false):=by
    intro w4 Ku;exact⟨Ku.cell Ai A12,(Gk.keptBy Ku (fun k Cj e=>rA Ox hqb Ey k Cj e)).1.frozenAt i⟩
   have Ad:(i:Int)<(n:Int):=A0;go_wp2_with fail;go_region_with (go_at_call 26;refine(aA8 g _ _ (by exact Hq) A0).mono ?_;rintro e w4 ⟨z,rfl,Dc,De,_,Ku⟩;have Xs:=uX Ku.2;obtain⟨Xj,hf4⟩:=Nl.out w4 Xs;replace De:z<8:=De A0);all_goals
    obtain⟨X,hX⟩:=zx (bits BinOp.xor IntKind.u8 (l[i]?.getD 0) (IntKind.u8.wrap (2 ^ z.toNat)));have hXb:0<=X/\X<=255:=by rw[hX];exact aNv _ _
    rw[<-hX];have Hv:=Gk.keptBy Xs (fun k Cj e=>rA Ox hqb Ey k Cj e);have Kd:=aC Ho Xs;obtain⟨Ja,Bs⟩:=Hv.storedB i X hXb.1 hXb.2;have Vd:=Ku.1.kept Bs (fun k Cj=>by have h1:=Option.some.inj Cj;omega);have Dz:=cN Kd Bs (fun k Cj=>by have h1:=Option.some.inj Cj;omega);obtain⟨a',c',hv,Qx⟩:=Ja.madeD ⟨Vd,Dz⟩;simp only[Value.slice.injEq,true_and]at hv;obtain⟨rfl,rfl⟩:=hv;clear Gk Hq Ku Ho An Ai Uz Hv Ja Bs Vd Dz Kd Xs Xj hf4 hX Nl;exact QA40
end Go.Proofs.YtcbhdhmhidpdgaaGreat

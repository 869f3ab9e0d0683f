import Derived.Test.YtcbhdhmhidpdgaaGreatSpP
import Derived.Test.YtcbhdhmhidpdgaaGreatPackH
import Derived.Test.YtcbhdhmhidpdgaaGreatPackP
import Derived.Test.YtcbhdhmhidpdgaaGreatEiV
namespace Go.Proofs.YtcbhdhmhidpdgaaGreat
set_option maxHeartbeats 16000000
open Go.RowKit
set_option linter.unusedVariables false
set_option linter.unusedSimpArgs false
set_option maxRecDepth 100000
namespace Eg
section
variable {τ:Sm} {w:World} {b:Option Addr} {nf d:Nat}
theorem fskW (hT:TH τ w)(Dp:Tg τ)(hF:SVb τ (.rc 4) 0 3 (.slice b nf d)):Calls Tryz.prog 72 #[.slice b nf d] w fun e w'=>∃z:Bool,e=.returned (.bool z)/\w.grownBy w' none:=
 (oN aWj hT Dp fun I=>⟨_,_,rfl,hF,rfl⟩).mono fun e w' ⟨_,he,hg,_,_,z,hz⟩=>⟨z,hz ▸ he,hg⟩
theorem nmsW {vs:List Value}(hT:TH τ w)(Dp:Tg τ)(hv:RV τ (Dt 13).2 vs):Calls Tryz.prog 73 #[.agg vs.toArray] w fun e w'=>∃z:Bool,e=.returned (.bool z)/\w.grownBy w' none:=
 (oN aWe hT Dp fun I=>⟨_,_,rfl,⟨vs,rfl,hv⟩,rfl⟩).mono fun e w' ⟨_,he,hg,_,_,z,hz⟩=>⟨z,hz ▸ he,hg⟩
theorem fofW {u:Value}(hT:TH τ w)(Dp:Tg τ)(hF:SVb τ (.rc 4) 0 3 (.slice b nf d))(hu:SVb τ .bt 0 4 u):Calls Tryz.prog 74 #[.slice b nf d,u] w fun e w'=>∃z:Int,e=.returned (.int .i64 z)/\w.grownBy w' none:=
 (oN aU8 hT Dp fun I=>⟨_,_,rfl,hF,_,_,rfl,hu,rfl⟩).mono fun e w' ⟨_,he,hg,_,_,z,hz,_⟩=>⟨z,hz ▸ he,hg⟩
theorem hasW {u v:Value}(hT:TH τ w)(Dp:Tg τ)(hF:SVb τ (.rc 0) 0 2 v)(hu:SVb τ .bt 0 4 u):Calls Tryz.prog 75 #[v,u] w fun e w'=>∃z:Bool,e=.returned (.bool z)/\w.grownBy w' none:=
 (oN aWi hT Dp fun I=>⟨_,_,rfl,hF,_,_,rfl,hu,rfl⟩).mono fun e w' ⟨_,he,hg,_,_,z,hz⟩=>⟨z,hz ▸ he,hg⟩
theorem useAt {an ap:Value}{bx off nu cu j:Nat}{v2 u:Value}(hT:TH τ w)(Dp:Tg τ)(hv:RV τ (Dt 13).2 [an,.slice (some ⟨bx,off,none⟩) nu cu,v2,ap])(hj:j<nu)(hc:w.cell? ⟨bx,off+j,none⟩=some u):
  SVb τ .bt 0 4 u/\SVb τ (.rc 0) 0 2 (.slice (some ⟨bx,off,none⟩) j cu):=by
 obtain⟨_,e,n,⟨_,hn⟩,hS⟩:=RV.get hv (i:=1) rfl;cases e;rcases hS with⟨e,_⟩|⟨b,j0,c,s,e,hb,h1,h2,h3,h4⟩
 .
  cases e
 .
  cases e;obtain⟨us,a1,a2,a3⟩:=(hT _ s hb).el (j0+j) A0;rw[Dp _ s hb,h1]at a2;obtain⟨v,_,rfl,⟨k,hk,hs⟩,rfl⟩:=a2;have hx:=a3 0 _ rfl;rw[h1]at hx;have e1:(Rs.rc 0).k=1:=rfl;rw[e1]at hx;simp only[Nat.mul_one,zG1]at hx;rw[e1,Nat.mul_one,hx]at hc;cases hc;refine⟨⟨?_,zD1 _, ?_⟩,⟨.inr ⟨_,j0,cu,s,rfl,hb,h1,by show j0+j<=_;omega,by show j<=_;omega,h4⟩,zD1 _,by show j<=2;omega⟩⟩;all_goals (rcases hs with⟨rfl,rfl⟩|⟨b',j',c',s',rfl,q⟩)
  .
   exact SV.nil _
  .
   exact .inr ⟨b',j',c',s',rfl,q⟩
  .
   exact zD1 _
  .
   exact hk
end
end Eg
theorem aOx (m:Mo){q:Pr}(hq:q ∈ m.procs):q.params.length<=aP m.fl:=by
 have h1:=cA (List.mem_map_of_mem (f:=Pr.fl) hq);have e:q.params.length<=aP q.fl:=by simp[Pr.fl,aP,Fl.len];omega
 have e2:aG (m.procs.map Pr.fl)<=aP m.fl:=by simp[Mo.fl,aP,Fl.len];omega
 omega
theorem aGr (m:Mo)(w:World)(vs:List Value)(h:aL w m.fl vs)(hs:aP m.fl<=1048576):
  Calls Tryz.prog 71 #[.agg vs.toArray] w fun e w'=>∃b,e=.returned (.bool b)/\(b=true->cI m=true)/\w.grownBy w' none:=by
 have yy:=aE w (.cells vs.toArray 81 (0,0)) none;have HP:=aOj m vs (w.alloc (.cells vs.toArray 81 (0,0))) (h.below (aA yy)) hs;have HQ:cI m=true->∀w1,(w.alloc (.cells vs.toArray 81 (0,0))).grownBy w1 none->_:=fun hf w1 h1=>aHl m hf w1 vs ((h.below (aA yy)).below (aA h1)) hs;have x0:=Blk.new w 81 vs;obtain⟨u0,u1,u2,u3,rfl⟩:=xQ (h.len.trans (show m.fl.length=4 from rfl));simp only[agg]at HP HQ;clear h hs;go_enter Tryz.func71,Tryz.ntmps71;go_upto_region 1 with fail;generalize w.alloc (.cells #[u0,u1,u2,u3] 81 (0,0))=w1 at *;obtain⟨k0,k1,k2,k3⟩:=x0.c4;cases hf:cI m
 .
  rw[hf]at HP;clear HQ hf;go_wp2_with fail;refine HP.mono ?_;rintro e w2 ⟨rfl,hg⟩;go_wp2;go_ret;exact⟨false,rfl,fun e=> A75,aC yy hg⟩
 .
  have Qk:=HQ hf;have HF:=hid hf;rw[hf]at HP;clear HQ hf;go_wp2_with fail;refine HP.mono ?_;rintro e w2 ⟨rfl,hg⟩;have H3:=Qk w2 hg;replace x0:=x0.below (aA hg) x0.lt;clear k0 k1 k2 k3 HP Qk;obtain⟨k0,k1,k2,k3⟩:=x0.c4;go_wp2_with fail;refine H3.mono ?_;rintro e w3 ⟨a1,nL,c1,rfl,hn,Bn⟩;have yf:=aC yy (aC hg Bn);clear H3;go_wp2;go_ret;exact⟨_,rfl,fun _=>HF.out,yf⟩
theorem aBi {τ:Eg.Sm}(m:Mo)(fs:List Fa)(vs:List Value)(b:Option Addr)(nf d:Nat)(w:World)(h:aL w m.fl vs)(hs:aP m.fl<=1048576)(hf:aX w b d 2 (fs.map Fa.fl))(Ia:fs.length=nf)(hT:Eg.TH τ w)(Dp:Eg.Tg τ)(hv:Eg.RV τ (Eg.Dt 13).2 vs)(hF:Eg.SVb τ (.rc 4) 0 3 (.slice b nf d)):
  Calls Tryz.prog 45 #[agg vs,.slice b nf d] w fun e w'=>∃c,e=.returned (.int .i64 c)/\rg4 c/\(c=0->aRl m fs)/\w.grownBy w' none:=by
 have h0:=h;obtain⟨v0,_,rfl,⟨an,cn,rfl,Be,_⟩,v1,_,rfl,hu,v2,_,rfl,Xh,v3,_,rfl,hp,rfl⟩:=h;obtain⟨au,cu,rfl,hU⟩:=hu.list;obtain⟨ap,cp,rfl,hP⟩:=hp.list;have hu9:=hU.len9;have Ul:=hP.len9;have huc:=hU.cap;have eu:(dK m.uses).length=m.uses.length:=by simp[dK]
 simp only[zB2,eu]at hu9 Ul huc h0 hv ⊢;obtain⟨nu,hnu⟩:=zx (m.uses.length);obtain⟨np,Es⟩:=zx (m.procs.length);have HNU:=hid hnu.symm;have Ql:=hid Es.symm;rw[<-hnu,<-Es]at h0 hv ⊢;rw[<-hnu]at hu9 huc;rw[<-Es]at Ul;have HM:=hid h0;have HU:=hid hU;have HP:=hid hP;have Mu:=hid Be;have HFS:=hid hf;have HFL:=hid Ia;have HSZ:=hid hs;have HPL:Hid (∀q ∈ m.procs,q.params.length<=1048576):=fun q hq=>zF2 (aOx m hq) hs;have HT:Hid (∀wl,Below w.heap.size w wl->Eg.TH τ wl):=fun wl hb=>hT.on fun b s e=>hb.block b (hT.lt e);clear h0 hU hP Be hf Ia hs hu Xh hp hnu Es eu hT;have z0:=Blk.new w 81 [.slice an m.name.length cn,.slice au nu cu,v2,.slice ap np cp];have y0:=aE w (.cells #[.slice an m.name.length cn,.slice au nu cu,v2,.slice ap np cp] 81 (0,0)) none;simp only[List.toArray]at z0;simp only[agg];go_enter Tryz.func45,Tryz.ntmps45;go_upto_region 1 with fail;generalize w.alloc (.cells #[.slice an m.name.length cn,.slice au nu cu,v2,.slice ap np cp] 81 (0,0))=w1 at *;have H1:=aGr m w1 _ (aL.below HM.out (aA y0)) HSZ.out;simp only[List.toArray]at H1;obtain⟨k0,k1,k2,k3⟩:=z0.c4;go_wp2_with fail;refine H1.mono ?_;rintro r w2 ⟨bo,rfl,Iw,hg⟩;have yg:=aC y0 hg;replace z0:=z0.below (aA hg) z0.lt;clear H1 k0 k1 k2 k3 y0 hg;have H2:=Eg.fskW (HT.out w2 (aA yg)) Dp hF;cases bo
 .
  go_wp2;go_ret;exact⟨1,rfl,⟨by omega,by omega⟩,fun e=> A75,yg⟩
 have HFO:Hid (cI m=true):=Iw rfl;clear Iw;go_wp2_with fail;refine H2.mono ?_;rintro r w3 ⟨bo,rfl,hg⟩;have yh:=aC yg hg;replace z0:=z0.below (aA hg) z0.lt;clear H2 yg hg;have H3:=Eg.nmsW (HT.out w3 (aA yh)) Dp hv;cases bo
 .
  go_wp2;go_ret;exact⟨1,rfl,⟨by omega,by omega⟩,fun e=> A75,yh⟩
 obtain⟨k0,k1,k2,k3⟩:=z0.c4;go_wp2_with fail;refine H3.mono ?_;rintro r w4 ⟨bo,rfl,hg⟩;have Y4:=hid (aC yh hg);have Z4:=hid (z0.below (aA hg) z0.lt);clear H3 yh hg k0 k1 k2 k3 z0;cases bo
 .
  go_wp2;go_ret;exact⟨2,rfl,⟨by omega,by omega⟩,fun e=> A75,Y4.out⟩
 go_wp2_with fail;go_loopw [5] (fun i wr=>∃j:Nat,j<=nu/\i=.int .i64 j/\Hid (w4.grownBy wr none)) (fun i _=>nu-(intOf i).toNat)
 case atStart=>exact⟨0,zD1 _,rfl,aQ _ _⟩
 case round=>
  obtain⟨j,hj,rfl,Hg⟩:=hrel;have hg:=Hg.out;have yw:=aC Y4.out hg;have bw:=aA yw;have z0:=Z4.out.below (aA hg) Z4.out.lt;have k1:=z0.k 1;by_cases Ad:j<nu
  .
   obtain⟨x,hx⟩:∃x,m.uses[j]?=some x:=⟨_,zA0 (by rw[HNU.out];exact Ad)⟩
   obtain⟨bx,off,ys,rfl,Lh,Ab⟩:=aX.cellsAt HU.out (show(dK m.uses)[j]?=some [Fl.b x] by unfold dK;rw[zA2,hx];rfl);obtain⟨y0,_,rfl,⟨ax,cx,rfl,Ce,_⟩,_⟩:=Lh;have HBX:=hid Ce;have r0:=Ab 0 _ rfl;rw[zG1,Nat.mul_one]at r0;obtain⟨TX,TK⟩:=Eg.useAt (HT.out w (zD2 _ _)) Dp hv Ad r0;replace r0:=aB r0 bw;clear Ab hx Ce;have hjc:j<=cu:=A0;have HS:∀{wl:World},Below wr.heap.size wr wl->wl.cell? ⟨w.heap.size,0,none⟩=some (.slice an m.name.length cn)/\wl.cell? ⟨w.heap.size,1,none⟩=some (.slice (some ⟨bx,off,none⟩) nu cu)/\wl.cell? ⟨bx,off+j,none⟩=some (.slice ax x.length cx)/\aV wl ax x.length x/\aV wl an m.name.length m.name:=fun hb=>⟨aB (z0.k 0) hb,aB (z0.k 1) hb,aB r0 hb,(aV.below HBX.out bw).below hb,(aV.below Mu.out bw).below hb⟩;have Ao:=HS (wl:=wr.drew) (zD2 _ _).drew;have H17:=Eg.fofW (HT.out wr.drew bw.drew) Dp hF TX;have H30:=fun w5 (b5:Below w.heap.size w w5)=>Eg.hasW (HT.out w5 b5) Dp TK TX;clear z0;cases hbq:((strOfNums x).toList == (strOfNums m.name).toList)
   .
    go_wp2_with fail;refine zK0 (S:=fun wl=>wl.cell? ⟨w.heap.size,0,none⟩=some (.slice an m.name.length cn)/\wl.cell? ⟨w.heap.size,1,none⟩=some (.slice (some ⟨bx,off,none⟩) nu cu)/\wl.cell? ⟨bx,off+j,none⟩=some (.slice ax x.length cx)/\aV wl ax x.length x/\aV wl an m.name.length m.name) A1 Ao (fun Aa=>?_);refine ta 0 ?_;refine ta 1 ?_;refine ta 2 ?_;try simp only[nrm]
    refine ta 3 ?_;refine ta 4 ?_;try simp only[nrm]
    refine tk (i:=5) (v:=?v905) rfl A1 (.inl ⟨by rfl, ?y905⟩) Aa (fun _ _ _ h=>h) ?_
    case y905=>intro w Ky;have kc:=aT cx Ky.2.2.2.1;(try dsimp only at Ky);go_simp;first|done|rfl
    try simp only[nrm]
    refine ta 6 ?_;refine ta 7 ?_;try simp only[nrm]
    refine tk (i:=8) (v:=?v908) rfl A1 (.inl ⟨by rfl, ?y908⟩) Aa (fun _ _ _ h=>h) ?_
    case y908=>intro w Ky;have kc:=aT cn Ky.2.2.2.2;(try dsimp only at Ky);go_simp;first|done|rfl
    try simp only[nrm]
    refine ta 9 ?_;refine ta 10 ?_;try simp only[nrm]
    refine ta 11 ?_;refine ta 12 ?_;refine ta 13 ?_;try simp only[nrm]
    refine ta 14 ?_;refine ta 15 ?_;refine ta 16 ?_;try simp only[nrm]
    refine ra 17 fun K hK=>?_;go_simp
    (with_reducible refine H17.mono ?_)
    rintro r w5 ⟨z,rfl,Az⟩;have b5:Below wr.heap.size wr w5:=(zD2 wr.heap.size wr).drew.trans (aA Az);have Xx:=bw.trans (b5.mono bw.size);have Fb:=HS b5;go_wp2_with fail;refine hK.out _ _ (Fb) (fun Aa=>?_);clear hK K;try simp only[nrm]
    clear H17 Az;by_cases hz:z<0
    .
     refine ta 18 ?_;refine ta 19 ?_;refine ta 20 ?_;try simp only[nrm]
     refine sa 21 ?_;refine sa 22 ?_;refine sa 23 ?_;try simp only[nrm]
     refine sa 24 ?_;refine sa 25 ?_;refine sa 26 ?_;try simp only[nrm]
     refine sa 27 ?_;refine sa 28 ?_;refine sa 29 ?_;try simp only[nrm]
     refine sa 30 ?_;try simp only[nrm]
     refine ta 31 ?_;try simp only[nrm]
     refine zK1 A1 ?_ _;go_wp2;go_ret;exact⟨3,rfl,⟨by omega,by omega⟩,fun e=> A75,aN Xx none⟩
    .
     refine ta 18 ?_;refine ta 19 ?_;refine ta 20 ?_;try simp only[nrm]
     refine ta 21 ?_;refine ta 22 ?_;refine ta 23 ?_;try simp only[nrm]
     refine ta 24 ?_;refine ta 25 ?_;refine ta 26 ?_;try simp only[nrm]
     refine ta 27 ?_;refine ta 28 ?_;refine ta 29 ?_;try simp only[nrm]
     refine ra 30 fun K hK=>?_;go_simp
     (with_reducible refine(H30 w5 Xx).mono ?_)
     rintro r w6 ⟨bo,rfl,Bs⟩;have b6:=b5.trans ((aA Bs).mono b5.size);have HS6:=HS b6;go_wp2_with fail;refine hK.out _ _ (HS6) (fun Aa=>?_);clear hK K;try simp only[nrm]
     clear H30 Bs Fb HS6 r0 hbq hz;cases bo
     .
      refine ta 31 ?_;try simp only[nrm]
      refine zK1 A1 ?_ _;clear Aa HS Ao;go_wp2;go_roundw
      case rel=>exact⟨j+1,by omega,by go_num,aC hg (aN b6 none)⟩
      case measure=>simp[intOf];omega
     .
      refine ta 31 ?_;try simp only[nrm]
      refine zK1 A1 ?_ _;go_wp2;go_ret;exact⟨3,rfl,⟨by omega,by omega⟩,fun e=> A75,aN (bw.trans (b6.mono bw.size)) none⟩
   .
    go_wp2_with fail;refine zK0 (S:=fun wl=>wl.cell? ⟨w.heap.size,0,none⟩=some (.slice an m.name.length cn)/\wl.cell? ⟨w.heap.size,1,none⟩=some (.slice (some ⟨bx,off,none⟩) nu cu)/\wl.cell? ⟨bx,off+j,none⟩=some (.slice ax x.length cx)/\aV wl ax x.length x/\aV wl an m.name.length m.name) A1 Ao (fun Aa=>?_);refine ta 0 ?_;refine ta 1 ?_;refine ta 2 ?_;try simp only[nrm]
    refine ta 3 ?_;refine ta 4 ?_;try simp only[nrm]
    refine tk (i:=5) (v:=?v905) rfl A1 (.inl ⟨by rfl, ?y905⟩) Aa (fun _ _ _ h=>h) ?_
    case y905=>intro w Ky;have kc:=aT cx Ky.2.2.2.1;(try dsimp only at Ky);go_simp;first|done|rfl
    try simp only[nrm]
    refine ta 6 ?_;refine ta 7 ?_;try simp only[nrm]
    refine tk (i:=8) (v:=?v908) rfl A1 (.inl ⟨by rfl, ?y908⟩) Aa (fun _ _ _ h=>h) ?_
    case y908=>intro w Ky;have kc:=aT cn Ky.2.2.2.2;(try dsimp only at Ky);go_simp;first|done|rfl
    try simp only[nrm]
    refine ta 9 ?_;refine ta 10 ?_;try simp only[nrm]
    refine sa 11 ?_;refine sa 12 ?_;refine sa 13 ?_;try simp only[nrm]
    refine sa 14 ?_;refine sa 15 ?_;refine sa 16 ?_;try simp only[nrm]
    refine sa 17 ?_;refine sa 18 ?_;try simp only[nrm]
    refine ta 19 ?_;refine ta 20 ?_;try simp only[nrm]
    refine sa 21 ?_;refine sa 22 ?_;refine sa 23 ?_;try simp only[nrm]
    refine sa 24 ?_;refine sa 25 ?_;refine sa 26 ?_;try simp only[nrm]
    refine sa 27 ?_;refine sa 28 ?_;refine sa 29 ?_;try simp only[nrm]
    refine sa 30 ?_;try simp only[nrm]
    refine ta 31 ?_;try simp only[nrm]
    refine zK1 A1 ?_ _;go_wp2;go_ret;exact⟨3,rfl,⟨by omega,by omega⟩,fun e=> A75,aN bw.drew none⟩
  .
   have:nu=j:=A0;subst this;have Z5:=hid z0;have Y5:=hid yw;clear Hg hg z0 yw bw;go_wp2_with fail;clear k1;generalize wr=w5 at *;go_loopw [6,7] (fun cc i wr=>∃(j:Nat) (z:Int),j<=np/\i=.int .i64 j/\cc=.int .i64 z/\Hid (z=uB m fs 0 (m.procs.take j))/\Hid (w5.grownBy wr none)) (fun _ i _=>np-(intOf i).toNat)
   case atStart=>exact⟨0,0,zD1 _,rfl,rfl,(by show _=_;simp[uB]),aQ _ _⟩
   case round=>
    obtain⟨j,z,hj,rfl,rfl,hz,Hg⟩:=hrel;have hg:=Hg.out;have yw:=aC Y5.out hg;have bw:=aA yw;have z0:=Z5.out.below (aA hg) Z5.out.lt;have k3:=z0.k 3;by_cases Ad:j<np
    .
     obtain⟨q,hq⟩:∃q,m.procs[j]?=some q:=⟨_,zA0 (by rw[Ql.out];exact Ad)⟩
     have HZ:Hid (dJ z (eY m fs q 0 q.body)=uB m fs 0 (m.procs.take (j+1))):=by show _=_;rw[aDk hq,hz.out]
     obtain⟨bx,off,es,rfl,Ts,Ab⟩:=aX.cellsAt HP.out (show(m.procs.map Pr.fl)[j]?=some q.fl by rw[zA2,hq];rfl);have Ys:=Ts;obtain⟨s0,_,rfl,_,s1,_,rfl,_,s2,_,rfl,_,s3,_,rfl,_,s4,_,rfl,Na,rfl⟩:=Ts;obtain⟨ab,cb,rfl,hB⟩:=Na.list;have eb:(sts q.body).length=q.body.length:=by simp[bE]
     rw[eb]at Ab Ys;have HQQ:=hid Ys;have HB:=hid hB;have r0:=aB (Ab 0 _ rfl) bw;have r1:=aB (Ab 1 _ rfl) bw;have r2:=aB (Ab 2 _ rfl) bw;have r3:=aB (Ab 3 _ rfl) bw;have r4:=aB (Ab 4 _ rfl) bw;rw[zG1]at r0;clear Ab hq Ys Na hB eb hz;have HS:∀{wl:World},Below wr.heap.size wr wl->wl.cell? ⟨w.heap.size,0,none⟩=some (.slice an m.name.length cn)/\wl.cell? ⟨w.heap.size,1,none⟩=some (.slice au nu cu)/\wl.cell? ⟨w.heap.size,2,none⟩=some (v2)/\wl.cell? ⟨w.heap.size,3,none⟩=some (.slice (some ⟨bx,off,none⟩) np cp)/\wl.cell? ⟨bx,off+j*5,none⟩=some s0/\wl.cell? ⟨bx,off+j*5+1,none⟩=some s1/\wl.cell? ⟨bx,off+j*5+2,none⟩=some s2/\wl.cell? ⟨bx,off+j*5+3,none⟩=some s3/\wl.cell? ⟨bx,off+j*5+4,none⟩=some (.slice ab q.body.length cb):=fun hb=>⟨aB (z0.k 0) hb,aB (z0.k 1) hb,aB (z0.k 2) hb,aB (z0.k 3) hb,aB r0 hb,aB r1 hb,aB r2 hb,aB r3 hb,aB r4 hb⟩;have Ao:=HS (wl:=wr.drew) (zD2 _ _).drew;have H14:=aUt m fs q q.body wr.drew _ _ b nf d ab cb ⟨aL.below HM.out bw.drew,aL.below HQQ.out bw.drew,aX.below HFS.out bw.drew,HFL.out,HPL.out⟩ (aX.below HB.out bw.drew);simp only[agg,List.toArray]at H14;go_wp2_with fail;refine zK0 (S:=fun wl=>wl.cell? ⟨w.heap.size,0,none⟩=some (.slice an m.name.length cn)/\wl.cell? ⟨w.heap.size,1,none⟩=some (.slice au nu cu)/\wl.cell? ⟨w.heap.size,2,none⟩=some (v2)/\wl.cell? ⟨w.heap.size,3,none⟩=some (.slice (some ⟨bx,off,none⟩) np cp)/\wl.cell? ⟨bx,off+j*5,none⟩=some s0/\wl.cell? ⟨bx,off+j*5+1,none⟩=some s1/\wl.cell? ⟨bx,off+j*5+2,none⟩=some s2/\wl.cell? ⟨bx,off+j*5+3,none⟩=some s3/\wl.cell? ⟨bx,off+j*5+4,none⟩=some (.slice ab q.body.length cb)) A1 Ao (fun Aa=>?_);refine ta 0 ?_;refine ta 1 ?_;refine ta 2 ?_;try simp only[nrm]
     refine ta 3 ?_;refine ta 4 ?_;refine ta 5 ?_;try simp only[nrm]
     refine ta 6 ?_;refine ta 7 ?_;refine ta 8 ?_;try simp only[nrm]
     refine ta 9 ?_;refine ta 10 ?_;refine ta 11 ?_;try simp only[nrm]
     refine ta 12 ?_;refine ta 13 ?_;try simp only[nrm]
     refine ra 14 fun K hK=>?_;go_simp
     (with_reducible refine H14.mono ?_)
     rintro r w6 ⟨rfl,Bs⟩;have b6:Below wr.heap.size wr w6:=(zD2 wr.heap.size wr).drew.trans (aA Bs);have HS6:=HS b6;have H15:=tF z (eY m fs q 0 q.body) w6;go_wp2_with fail;refine hK.out _ _ (HS6) (fun Aa=>?_);clear hK K;try simp only[nrm]
     refine ra 15 fun K hK=>?_;go_simp
     (with_reducible refine H15.mono ?_)
     rintro r w7 ⟨rfl,rfl⟩;go_wp2_with fail;refine hK.out _ _ (HS6) (fun Aa=>?_);clear hK K;try simp only[nrm]
     refine ta 16 ?_;try simp only[nrm]
     refine zK1 A1 ?_ _;have HG7:=hid (aC hg (aN b6 none));clear HS Ao HS6 Aa H14 H15 r0 r1 r2 r3 r4 k3 z0 bw yw hg Hg Bs b6;generalize dJ z (eY m fs q 0 q.body)=z' at *;go_wp2;go_roundw
     case rel=>exact⟨j+1,z',by omega,by go_num,rfl,HZ,HG7⟩
     case measure=>simp[intOf];omega
    .
     have:np=j:=A0;subst this;have HZ:Hid (z=uB m fs 0 m.procs):=by show _=_;rw[hz.out,zD3 (by rw[Ql.out];exact zB0 _)]
     clear z0 bw hz Hg hg;go_wp2;go_ret;exact⟨z,rfl,by rw[HZ.out];exact aDj m fs _ 0 ⟨by omega,by omega⟩,fun e=>aWu HFO.out (HZ.out.symm.trans e),yw⟩
end Go.Proofs.YtcbhdhmhidpdgaaGreat

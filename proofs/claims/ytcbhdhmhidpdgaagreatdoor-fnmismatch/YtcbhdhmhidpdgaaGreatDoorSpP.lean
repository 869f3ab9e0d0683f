import Derived.Test.YtcbhdhmhidpdgaaGreatDoorSpV
import Derived.Lib.SlBytesConst
namespace Go.Proofs.YtcbhdhmhidpdgaaGreatDoor
open Go.RowKit
set_option linter.unusedVariables false
set_option linter.unusedSimpArgs false
set_option maxRecDepth 100000
theorem QA1{p:Prop}(h:p:=by
 go_wp2_with (at_builtin;refine zl Z ?_)
 intro v8 w8 Z
 clear r1
 obtain⟨NP,hNP,Z⟩:=Z.cap (M:=T2+(200*aG ((m.procs.map Pr.fl).take j)+60*j)+(s0+24)) A0
 go_wp2_with fail
 go_loopw [3,8] (fun b i wr=>∃k:Nat,k<=s2/\i=.int .i64 k/\Zg w w 2 base (fun x=>Blk x gx 86 [.slice (some Ym) n0 c0,.slice a1 n1 c1,.slice a2 n2 c2,.slice (some ⟨br,o,none⟩) n3 c3]/\Blk x gp 135 [.slice p0 s0 d0,.bool bo,.slice p2 s2 d2,.slice p3 s3 d3,.slice p4 s4 d4]) (NP+(200*aG ((x.params.map Pa.fl).take k)+60*k)) wr b) (fun _ i _=>s2-(intOf i).toNat)
 case atStart=>exact⟨0,zD1 _,rfl,Z.mono A0⟩
 case round=>
  obtain⟨k,hk,rfl,Z⟩:=hrel
  have r2:=Z.sb.1.2.k 2
  by_cases Dv:k<s2
  .
   obtain⟨y,hy⟩:∃y,x.params[k]?=some y:=⟨_,zA0 (by rw[F2.out];exact Dv)⟩
   have Mn:(x.params.map Pa.fl)[k]?=some y.fl:=by rw[zA2,hy];rfl
   obtain⟨_,_,us,rfl,Ak,Ab⟩:=aW.cellsAt g2 Mn
   obtain⟨z0,_,rfl,⟨ax,cx,rfl,Cb,_⟩,z1,_,rfl,rfl,rfl⟩:=Ak
   have t0:=Ab 0 _ rfl
   have t1:=Ab 1 _ rfl
   rw[zG1]at t0
   have Io:=Nat.le_of_eq (dO Mn).symm
   have Il:=bL (x.params.map Pa.fl) (k+1)
   have hp:=gH (Xw y (zA3 hy))
   obtain⟨nm,ar⟩:=y
   simp only[Pa.fl,aO,Fl.len]at Io t1
   obtain⟨nx,Gy⟩:=zx (nm.length)
   simp only[<-Gy]at t0 hp Cb Io
   clear Gy Ab Mn hy
   have Ca:(k:Int)<s2:=A0
   by_cases Jg:(0:Int)<(k:Int)
   .
    go_wp2_with (at_builtin;refine zl Z ?_)
    intro v8 w8 Z
    clear r2
    have r2:=Z.sb.1.2.k 2
    have d1:=aB t1 Z.sb.2
    by_cases Qs:ar=true
    .
     go_wp2_with (at_builtin;refine zl Z ?_)
     intro v8 w8 Z
     go_upto_region 28 with fail
     clear r2 d1 Qs Jg
     refine zd 10 Z fun w2 Z Aa=>?_
     refine la 0 ?_
     refine la 3 ?_
     refine zF 4 2 (fun _ h=>h.2) Aa ?_
     refine la 5 ?_
     refine la 6 ?_
     refine la 7 ?_
     refine zX 8 t0 Aa ?_
     try simp only[nrm]
     refine z1 (zK 1 Z fun g w3 Z Aa R=>?_)
     refine z1 (zR 2 Z (dQ A6 A6 R) A6 fun v4 w4 Z Aa _=>?_)
     try simp only[nrm]
     refine z1 (zR 9 Z (Cb.below Aa.2) hp fun v5 w5 Z Aa _=>?_)
     try simp only[nrm]
     refine zE ?_
     go_wp2
     go_roundw
     case rel=>exact⟨k+1,by omega,by go_num,Z.mono A0⟩
     case measure=>simp[intOf];omega
    .
     go_upto_region 28 with fail
     clear r2 d1 Qs Jg
     refine zd 10 Z fun w2 Z Aa=>?_
     refine la 0 ?_
     refine la 3 ?_
     refine zF 4 2 (fun _ h=>h.2) Aa ?_
     refine la 5 ?_
     refine la 6 ?_
     refine la 7 ?_
     refine zX 8 t0 Aa ?_
     try simp only[nrm]
     refine z1 (zK 1 Z fun g w3 Z Aa R=>?_)
     refine z1 (zR 2 Z (dQ A6 A6 R) A6 fun v4 w4 Z Aa _=>?_)
     try simp only[nrm]
     refine z1 (zR 9 Z (Cb.below Aa.2) hp fun v5 w5 Z Aa _=>?_)
     try simp only[nrm]
     refine zE ?_
     go_wp2
     go_roundw
     case rel=>exact⟨k+1,by omega,by go_num,Z.mono A0⟩
     case measure=>simp[intOf];omega
   .
    clear r2
    have r2:=Z.sb.1.2.k 2
    have d1:=aB t1 Z.sb.2
    by_cases Qs:ar=true
    .
     go_wp2_with (at_builtin;refine zl Z ?_)
     intro v8 w8 Z
     go_upto_region 28 with fail
     clear r2 d1 Qs Jg
     refine zd 10 Z fun w2 Z Aa=>?_
     refine la 0 ?_
     refine la 3 ?_
     refine zF 4 2 (fun _ h=>h.2) Aa ?_
     refine la 5 ?_
     refine la 6 ?_
     refine la 7 ?_
     refine zX 8 t0 Aa ?_
     try simp only[nrm]
     refine z1 (zK 1 Z fun g w3 Z Aa R=>?_)
     refine z1 (zR 2 Z (dQ A6 A6 R) A6 fun v4 w4 Z Aa _=>?_)
     try simp only[nrm]
     refine z1 (zR 9 Z (Cb.below Aa.2) hp fun v5 w5 Z Aa _=>?_)
     try simp only[nrm]
     refine zE ?_
     go_wp2
     go_roundw
     case rel=>exact⟨k+1,by omega,by go_num,Z.mono A0⟩
     case measure=>simp[intOf];omega
    .
     go_upto_region 28 with fail
     clear r2 d1 Qs Jg
     refine zd 10 Z fun w2 Z Aa=>?_
     refine la 0 ?_
     refine la 3 ?_
     refine zF 4 2 (fun _ h=>h.2) Aa ?_
     refine la 5 ?_
     refine la 6 ?_
     refine la 7 ?_
     refine zX 8 t0 Aa ?_
     try simp only[nrm]
     refine z1 (zK 1 Z fun g w3 Z Aa R=>?_)
     refine z1 (zR 2 Z (dQ A6 A6 R) A6 fun v4 w4 Z Aa _=>?_)
     try simp only[nrm]
     refine z1 (zR 9 Z (Cb.below Aa.2) hp fun v5 w5 Z Aa _=>?_)
     try simp only[nrm]
     refine zE ?_
     go_wp2
     go_roundw
     case rel=>exact⟨k+1,by omega,by go_num,Z.mono A0⟩
     case measure=>simp[intOf];omega
  .
   have:s2=k:=A0
   subst this
   have hr5:=bL (x.params.map Pa.fl) s2
   go_wp2_with (at_builtin;refine zl Z ?_)
   intro v8 w8 Z
   clear r2
   obtain⟨NQ,hNQ,Z⟩:=Z.cap (M:=NP+(200*aG (x.params.map Pa.fl)+60*s2)+8) A0
   go_wp2_with fail
   go_loopw [3,9] (fun b i wr=>∃k:Nat,k<=s3/\i=.int .i64 k/\Zg w w 2 base (fun x=>Blk x gx 86 [.slice (some Ym) n0 c0,.slice a1 n1 c1,.slice a2 n2 c2,.slice (some ⟨br,o,none⟩) n3 c3]/\Blk x gp 135 [.slice p0 s0 d0,.bool bo,.slice p2 s2 d2,.slice p3 s3 d3,.slice p4 s4 d4]) (NQ+(200*aG ((dI x.locals).take k)+60*k)) wr b) (fun _ i _=>s3-(intOf i).toNat)
   case atStart=>exact⟨0,zD1 _,rfl,Z.mono A0⟩
   case round=>
    obtain⟨k,hk,rfl,Z⟩:=hrel
    have r3:=Z.sb.1.2.k 3
    by_cases Tc:k<s3
    .
     obtain⟨_,_,x,ax,cx,rfl,hx,Cb,t0,Io,Il⟩:=aDp g3 (j:=k) (by rw[F3.out];omega)
     have hp:=gH (hlok x hx)
     obtain⟨nx,Gy⟩:=zx (x.length)
     rw[<-Gy]at t0 hp Cb Io
     clear Gy
     have Mz:(k:Int)<s3:=A0
     go_upto_region 33 with fail
     clear r3
     refine zd 9 Z fun w2 Z Aa=>?_
     refine la 0 ?_
     refine la 2 ?_
     refine zF 3 3 (fun _ h=>h.2) Aa ?_
     refine la 4 ?_
     refine la 5 ?_
     refine zX 6 t0 Aa ?_
     try simp only[nrm]
     refine z1 (zS 1 Z fun v3 w3 Z Aa _=>?_)
     try simp only[nrm]
     refine z1 (zR 7 Z (Cb.below Aa.2) hp fun v4 w4 Z Aa _=>?_)
     try simp only[nrm]
     refine z1 (zS 8 Z fun v5 w5 Z Aa _=>?_)
     try simp only[nrm]
     refine zE ?_
     go_wp2
     go_roundw
     case rel=>exact⟨k+1,by omega,by go_num,Z.mono A0⟩
     case measure=>simp[intOf];omega
    .
     have:s3=k:=A0
     subst this
     have hr6:=bL (dI x.locals) s3
     go_upto_region 34 with fail
     clear r3
     refine zd 6 Z fun w2 Z Aa=>?_
     refine la 0 ?_
     refine la 2 ?_
     refine zF 3 4 (fun _ h=>h.2) Aa ?_
     refine z1 (zS 1 Z fun v3 w3 Z Aa _=>?_)
     try simp only[nrm]
     refine z1 (zC 4 Z (vL.on HB (zB0 2) hbok g4 A0) fun v4 w4 Z Aa _=>?_)
     try simp only[nrm]
     refine z1 (zS 5 Z fun v5 w5 Z Aa _=>?_)
     try simp only[nrm]
     refine zE ?_
     go_wp2
     go_roundw
     case rel=>exact⟨j+1,by omega,by go_num,(Z.with Z.sb.1.1 (kM A6)).mono A0⟩
     case measure=>simp[intOf];omega):p:=h
theorem QA27{p:Prop}(h:p:=by
 go_wp2
 go_roundw
 case rel=>exact⟨j+1,by omega,by go_num,Z.mono A0⟩
 case measure=>simp[intOf];omega):p:=h
variable{N base n0:Nat}{v:Value}{w w0:World}
theorem aDp{a:Option Addr}{c j:Nat}{l:List (List Int)}(h:aW w0 a c 1 (dI l))(hj:j<l.length):
  ∃b o x ax cx,a=some ⟨b,o,none⟩/\x ∈ l/\aV w0 ax x.length x/\w0.cell? ⟨b,o+j,none⟩=some (.slice ax x.length cx)/\aG ((dI l).take j)+x.length<=aG ((dI l).take (j+1))/\aG ((dI l).take (j+1))<=aG (dI l):=by
 have hx:l[j]?=some l[j]:=zA0 hj;have Bc:(dI l)[j]?=some [.b l[j]]:=by unfold dI;rw[zA2,hx];rfl
 obtain⟨b,o,us,rfl,Ak,Ab⟩:=aW.cellsAt h Bc;obtain⟨y0,_,rfl,⟨ax,cx,rfl,Cb,_⟩,rfl⟩:=Ak;have t0:=Ab 0 _ rfl;rw[Nat.mul_one,zG1]at t0;have h1:=Nat.le_of_eq (dO Bc).symm;simp only[aO,Fl.len,zG1]at h1;exact⟨b,o,_,ax,cx,rfl,zA3 hx,Cb,t0,h1,bL _ _⟩
theorem Zg.cap{ws:World}{M:Nat}{B:World->Prop}(z:Zg w0 ws n0 base B N w v)(h:N<=M):∃K,K<=M/\Zg w0 ws n0 base B K w v:=⟨M,zB0 _,z.mono h⟩
theorem Zg.more {w0 ws w:World}{n0 base N:Nat}{B C:World->Prop}{v:Value}(z:Zg w0 ws n0 base B N w v)(hc:C w)(hk:∀x y,C x->eD base none x y->C y):Zg w0 ws n0 base (fun x=>B x/\C x) N w v:=by
 obtain⟨L,g,hl⟩:=z;exact⟨L,g.more hc hk,hl⟩
theorem vL.on{nl:Nat}{l:List St}(S:Hid (vL l/\l.length=nl))(hn0:2<=n0)(Dh:iP l=true){a:Option Addr}{c:Nat}(hr:aW w0 a c 6 (sts l))(hN:N+(200*aG (sts l)+120*nl)<=1000000000):
  ∀M:List Int,Own w base v M.length M->base<=w.heap.size->Below w0.heap.size w0 w->w0.heap.size<=base->M.length<=N->n0<=M.length->Calls Tryz.prog 171 #[v,.slice a nl c] w (Zp base (200*aG (sts l)+120*nl) M w):=by
 obtain⟨S9,rfl⟩:=S.out;exact fun M hO hl hb h0 hm hn=>S9 w0 w a c base M v hr hb h0 hl hO Dh A0 A0
theorem zX (i:Nat){w0 w:World}{B:World->Prop}{x:Operand}{t:TypeId}{bb ii:Nat}{u:Value}{ops:Array Oper}{Q:Exit->Act->World->Prop}{md:Region.Mode}{L:Nat}{o:Oper}{fuel:Nat}{listed:Array Bool}{a:Act}(hc:w0.cell? ⟨bb,ii,none⟩=some u)(hS:SB w0 B w)
  (h:cR Tryz.prog md ops Q (SB w0 B) L fuel (listed.setIfInBounds i true) (a.put o.dst u) w) (ho:ops[i]?=some o:=by rfl)
  (hk:(Region.noSelect ops && Region.free md ops listed i && (Region.ready md ops listed).contains i && vO md ops L i)=true:=by kernel_rfl)
  (hop:o.op=.load t x:=by rfl) (hd:o.guard=none:=by rfl)
  (hl:∀w:World,w.cell? ⟨bb,ii,none⟩=some u->(execOp a.eval ⟨o.dst,.load t x,o.type,o.pos,o.after,none⟩).run Tryz.prog w=.ok (.value u) w:=by intro w hc;go_simp)
  (hQ:∀c a w,Q (.panic c) (a.put o.dst u) w->Q (.panic c) a w:=by exact fun _ _ _ h=>h):cR Tryz.prog md ops Q (SB w0 B) L (fuel+1) listed a w:=by
 refine tl i ho hk (.inl ⟨?_,fun w' Nf=>?_⟩) hS hQ h
 .
  unfold Region.wanted;rw[hd]
 .
  obtain⟨dst,op,ty,pos,aft,gd⟩:=o;subst hop;subst hd;exact hl w' (aB hc Nf.2)
theorem aBk (w:World):aV (w.alloc (.cells #[.int .u8 77,.int .u8 79,.int .u8 68,.int .u8 85,.int .u8 76,.int .u8 69,.int .u8 32] 5 (7,8))) (some ⟨w.heap.size,0,none⟩) 7 [77,79,68,85,76,69,32]:=by
 refine⟨rfl,by decide,fun _=>⟨w.heap.size,0,rfl,fun i hi=>?_⟩⟩;rw[zJ0,World.cell?_alloc_mark];have:i=0\/i=1\/i=2\/i=3\/i=4\/i=5\/i=6:=A0;rcases this with rfl|rfl|rfl|rfl|rfl|rfl|rfl <;> rfl
set_option maxHeartbeats 16000000 in
theorem aG3 (m:Mo)(hf:cH m=true)(w:World)(vs:List Value)(h:aL w m.fl vs)(hs:aO m.fl<=1048576):
  Calls Tryz.prog 145 #[agg vs] w fun e w'=>∃a n c,e=.returned (.slice a n c)/\n<=1000000000/\w.grownBy w' none:=by
 obtain⟨Gz,huok,hvok,Xw⟩:=uT hf;have e9:aO m.fl=m.name.length+(m.uses.length+aG (dI m.uses))+(m.vars.length+aG (m.vars.map Va.fl))+(m.procs.length+aG (m.procs.map Pr.fl)):=by simp[Mo.fl,aO,Fl.len,dI] <;> omega
 rw[e9]at hs;clear e9;obtain⟨y0,_,rfl,⟨a0,c0,rfl,h0,Iq,_⟩,y1,_,rfl,Kp,y2,_,rfl,Wv,y3,_,rfl,h3',rfl⟩:=h;obtain⟨a1,c1,rfl,H1⟩:=Kp.list;obtain⟨a2,c2,rfl,H2⟩:=Wv.list;obtain⟨a3,c3,rfl,H3⟩:=h3'.list;clear Kp Wv h3';have l1:=H1.len9;have l2:=H2.len9;have l3:=H3.len9;rw[show(dI m.uses).length=m.uses.length by simp[dI]]at l1 ⊢;rw[show(m.vars.map Va.fl).length=m.vars.length by simp]at l2 ⊢;rw[show(m.procs.map Pr.fl).length=m.procs.length by simp]at l3 ⊢;simp only[agg];obtain⟨n0,hn0⟩:=zx (m.name.length);obtain⟨n1,hn1⟩:=zx (m.uses.length);obtain⟨n2,hn2⟩:=zx (m.vars.length);obtain⟨n3,hn3⟩:=zx (m.procs.length);have Eu:0<n0:=by rw[hn0];exact gH Gz
 rw[<-hn0,<-hn1,<-hn2,<-hn3]at hs ⊢;rw[<-hn0]at h0 Iq;rw[<-hn1]at l1;rw[<-hn2]at l2;rw[<-hn3]at l3;have E1:=hid hn1.symm;have E2:=hid hn2.symm;have E3:=hid hn3.symm;clear hn0 hn1 hn2 hn3;obtain⟨base,Bw⟩:=zx (w.heap.size);have x0:=Blk.new w 86 [.slice a0 n0 c0,.slice a1 n1 c1,.slice a2 n2 c2,.slice a3 n3 c3];have hba:=(zD2 w.heap.size w).alloc (zB0 _) (.cells #[.slice a0 n0 c0,.slice a1 n1 c1,.slice a2 n2 c2,.slice a3 n3 c3] 86 (0,0));have hwa:Wr 2 base w (w.alloc (.cells #[.slice a0 n0 c0,.slice a1 n1 c1,.slice a2 n2 c2,.slice a3 n3 c3] 86 (0,0))):=Wr.of (aE w _ none);have hba2:base<=(w.alloc (.cells #[.slice a0 n0 c0,.slice a1 n1 c1,.slice a2 n2 c2,.slice a3 n3 c3] 86 (0,0))).heap.size:=by rw[Bw];simp
 have Tj:w.heap.size<=base:=A0;have q0:=x0.k 0;go_enter Tryz.func145,Tryz.ntmps145;go_upto_region 1 with fail;obtain⟨gx,Ar⟩:=zx (w.heap.size);rw[<-Ar]at x0 q0 ⊢;clear Ar Bw;generalize w.alloc (.cells #[.slice a0 n0 c0,.slice a1 n1 c1,.slice a2 n2 c2,.slice a3 n3 c3] 86 (0,0))=w1 at *;have kc:=Lib.run_convert_bytes_const (P:=Tryz.prog) w1 22 5 #[.int .u8 77,.int .u8 79,.int .u8 68,.int .u8 85,.int .u8 76,.int .u8 69,.int .u8 32] 7 7 Tryz.underlying22 Tryz.underlying5;have Um:=aE w1 (.cells #[.int .u8 77,.int .u8 79,.int .u8 68,.int .u8 85,.int .u8 76,.int .u8 69,.int .u8 32] 5 (7,8)) none;have hrc:=aBk w1;have x1:=x0.below (aA Um) x0.lt;have q1:=x1.k 0;have hbb:=hba.trans ((aA Um).mono hba.size);have Sz:=h0.below hbb;have hr9:=Sz.2.1;have hnl0:=Sz.1;obtain⟨Ym,rfl,Qq⟩:=Sz.pos A10;obtain⟨ao,hao,hco⟩:=hrc.pos A8;cases hao;obtain⟨i0,hi,Dd,Db,Cz⟩:=info_parts uI;clear q0 hrc;simp only[List.size_toArray,zB1,zC3,Nat.reduceAdd]at kc;go_wp2_with (at_builtin;refine wpList_append_grows _ rfl _ _ 22 rfl 5 i0 (.int .u8 0) 1 1 Tryz.underlying22 hi Dd Db Cz rfl A6 (some ⟨w1.heap.size,0,none⟩) 7 7 (([77,79,68,85,76,69,32]:List Int).map (Value.int .u8)) rfl A8 rfl (fun b hb=>by cases hb;exact hco) Ym n0 c0 (m.name.map (Value.int .u8)) rfl (by simp[hnl0]) Qq (ints_oneCell _ _) A0 A11 A0 ?_);intro v2 w2 Hr hg2;have Z:Zg w w 2 base (fun x=>Blk x gx 86 [.slice (some Ym) n0 c0,.slice a1 n1 c1,.slice a2 n2 c2,.slice a3 n3 c3]) (7+n0) w2 v2:=by
  have Bm:=aC Um hg2;have hl:([77,79,68,85,76,69,32]++m.name).length=7+n0:=by rw[zA1,hnl0];rfl
  refine⟨[77,79,68,85,76,69,32]++m.name,⟨Own.mono (base:=(w1.alloc (.cells #[.int .u8 77,.int .u8 79,.int .u8 68,.int .u8 85,.int .u8 76,.int .u8 69,.int .u8 32] 5 (7,8))).heap.size) ⟨by rw[hl];simpa using Hr, ?_⟩ (zF2 hba2 Um.size),x0.below (aA Bm) x0.lt,kM A6,hwa.trans (Wr.of Bm),by rw[hl];omega,hba.trans ((aA Bm).mono hba.size),zF2 hba2 Bm.size,Tj⟩,Nat.le_of_eq hl⟩;intro x hx;rcases List.mem_append.1 hx with h|h
  .
   exact(by decide:∀y ∈ ([77,79,68,85,76,69,32]:List Int),0<=y/\y<=255) x h
  .
   exact hr9 x h
 clear hba hwa x0 x1 q1 hbb Sz Qq hco Hr hg2 Um kc;go_wp2_with (at_builtin;refine zl Z ?_);intro v3 w3 Z;go_wp2_with fail;go_loopw [3,4] (fun b i wr=>∃j:Nat,j<=n1/\i=.int .i64 j/\Zg w w 2 base (fun x=>Blk x gx 86 [.slice (some Ym) n0 c0,.slice a1 n1 c1,.slice a2 n2 c2,.slice a3 n3 c3]) (n0+30+(200*aG ((dI m.uses).take j)+60*j)) wr b) (fun _ i _=>n1-(intOf i).toNat)
 case atStart=>exact⟨0,zD1 _,rfl,Z.mono A0⟩
 case round=>
  obtain⟨j,hj,rfl,Z⟩:=hrel;have q1:=Z.k 1;by_cases Ad:j<n1
  .
   obtain⟨_,_,x,ax,cx,rfl,hx,Cb,t0,Io,Il⟩:=aDp H1 (j:=j) (by rw[E1.out];omega);have hp:=gH (huok x hx);obtain⟨nx,Gy⟩:=zx (x.length);rw[<-Gy]at t0 hp Cb Io;clear Gy;have Mz:(j:Int)<n1:=A0;go_upto_region 5 with fail;clear q1;refine zd 9 Z fun w2 Z Aa=>?_;refine la 0 ?_;refine la 2 ?_;refine zF 3 1 (fun _ h=>h) Aa ?_;refine la 4 ?_;refine la 5 ?_;refine zX 6 t0 Aa ?_;try simp only[nrm]
   refine z1 (zS 1 Z fun v3 w3 Z Aa _=>?_);try simp only[nrm]
   refine z1 (zR 7 Z (Cb.below Aa.2) hp fun v4 w4 Z Aa _=>?_);try simp only[nrm]
   refine z1 (zS 8 Z fun v5 w5 Z Aa _=>?_);try simp only[nrm]
   refine zE ?_;exact QA27
  .
   have:n1=j:=A0;subst this;have:=bL (dI m.uses) n1;obtain⟨T1,hT1,Z⟩:=Z.cap (M:=n0+30+(200*aG (dI m.uses)+60*n1)) A0;go_wp2_with fail;clear q1;go_loopw [3,5] (fun b i wr=>∃j:Nat,j<=n2/\i=.int .i64 j/\Zg w w 2 base (fun x=>Blk x gx 86 [.slice (some Ym) n0 c0,.slice a1 n1 c1,.slice a2 n2 c2,.slice a3 n3 c3]) (T1+(200*aG ((m.vars.map Va.fl).take j)+60*j)) wr b) (fun _ i _=>n2-(intOf i).toNat)
   case atStart=>exact⟨0,zD1 _,rfl,Z.mono A0⟩
   case round=>
    obtain⟨j,hj,rfl,Z⟩:=hrel;have q2:=Z.k 2;by_cases Ad:j<n2
    .
     obtain⟨x,hx⟩:∃x,m.vars[j]?=some x:=⟨_,zA0 (by rw[E2.out];exact Ad)⟩
     have Bc:(m.vars.map Va.fl)[j]?=some x.fl:=by rw[zA2,hx];rfl
     obtain⟨b,o,us,rfl,Ak,Ab⟩:=aW.cellsAt H2 Bc;obtain⟨y0,_,rfl,⟨ax,cx,rfl,Cb,_⟩,y1,_,rfl,rfl,rfl⟩:=Ak;have t0:=Ab 0 _ rfl;have t1:=Ab 1 _ rfl;rw[zG1]at t0;have Io:=Nat.le_of_eq (dO Bc).symm;have Il:=bL (m.vars.map Va.fl) (j+1);have hvo:=hvok x (zA3 hx);simp only[yA,zC0]at hvo;have hp:=gH hvo.1;have Bg:0<=x.size/\x.size<=20:=by have:=hvo.2;simp[inB]at this;exact this
     have hd:=lD (n:=x.size) A0 A0;obtain⟨nm,sz⟩:=x;simp only[Va.fl,aO,Fl.len]at Io Bg hd t1;obtain⟨nx,Gy⟩:=zx (nm.length);simp only[<-Gy]at t0 hp Cb Io;clear Gy Ab Bc hx hvo;have Mz:(j:Int)<n2:=A0;go_upto_region 9 with fail;clear q2;refine zd 9 Z fun w2 Z Aa=>?_;refine la 0 ?_;refine la 2 ?_;refine zF 3 2 (fun _ h=>h) Aa ?_;refine la 4 ?_;refine la 5 ?_;refine la 6 ?_;refine zX 7 t0 Aa ?_;try simp only[nrm]
     refine z1 (zS 1 Z fun v3 w3 Z Aa _=>?_);try simp only[nrm]
     refine z1 (zR 8 Z (Cb.below Aa.2) hp fun v4 w4 Z Aa _=>?_);try simp only[nrm]
     refine zE ?_;have q2:=Z.k 2;have d1:=aB t1 Z.sb.2;by_cases hz:0<sz
     .
      go_upto_region 11 with fail;clear q2 d1;refine zd 11 Z fun w2 Z Aa=>?_;refine la 0 ?_;refine la 2 ?_;refine zF 3 2 (fun _ h=>h) Aa ?_;refine la 4 ?_;refine la 5 ?_;refine la 6 ?_;refine zX 7 t1 Aa ?_;try simp only[nrm]
      refine z1 (zS 1 Z fun v3 w3 Z Aa _=>?_);try simp only[nrm]
      refine z1 (zD 8 Z (aTa sz A0 A0 _) (mR sz) fun ad cd w5 Z Aa R=>?_);try simp only[nrm]
      refine z1 (zR 9 Z R (mR sz) fun v6 w6 Z Aa _=>?_);try simp only[nrm]
      refine z1 (zS 10 Z fun v7 w7 Z Aa _=>?_);try simp only[nrm]
      refine zE ?_;go_wp2_with (at_builtin;refine zl Z ?_);intro v8 w8 Z;exact QA27
     .
      go_wp2_with (at_builtin;refine zl Z ?_);intro v8 w8 Z;clear q2 d1;exact QA27
    .
     have:n2=j:=A0;subst this;have:=bL (m.vars.map Va.fl) n2;obtain⟨T2,hT2,Z⟩:=Z.cap (M:=T1+(200*aG (m.vars.map Va.fl)+60*n2)) A0;go_wp2_with fail;clear q2;go_loopw [3,6,7,8,9] (fun b i _ _ _ wr=>∃j:Nat,j<=n3/\i=.int .i64 j/\Zg w w 2 base (fun x=>Blk x gx 86 [.slice (some Ym) n0 c0,.slice a1 n1 c1,.slice a2 n2 c2,.slice a3 n3 c3]) (T2+(200*aG ((m.procs.map Pr.fl).take j)+60*j)) wr b) (fun _ i _ _ _ _=>n3-(intOf i).toNat)
     case atStart=>exact⟨0,zD1 _,rfl,Z.mono A0⟩
     case round=>
      obtain⟨j,hj,rfl,Z⟩:=hrel;have q3:=Z.k 3;by_cases Ad:j<n3
      .
       obtain⟨x,hx⟩:∃x,m.procs[j]?=some x:=⟨_,zA0 (by rw[E3.out];exact Ad)⟩
       have Bc:(m.procs.map Pr.fl)[j]?=some x.fl:=by rw[zA2,hx];rfl
       obtain⟨br,o,us,rfl,Ak,Ab⟩:=aW.cellsAt H3 Bc;have hr3:=Nat.le_of_eq (dO Bc).symm;have hr4:=bL (m.procs.map Pr.fl) (j+1);have Pt:aO x.fl=x.name.length+(x.params.length+aG (x.params.map Pa.fl))+(x.locals.length+aG (dI x.locals))+(x.body.length+aG (sts x.body)):=by simp[Pr.fl,aO,Fl.len,dI,bA] <;> omega
       rw[Pt]at hr3;obtain⟨hpo,hbok⟩:=Xw x (zA3 hx);simp only[pZ,zC0,zF3]at hpo;have hp:=gH hpo.1.1.1.1;have hlok:=hpo.2;replace Xw:=hpo.1.1.2;unfold Pr.fl at Ak;obtain⟨y0,_,rfl,⟨p0,d0,rfl,g0,_⟩,y1,_,rfl,rfl,y2,_,rfl,g2',y3,_,rfl,g3',y4,_,rfl,g4',rfl⟩:=Ak;obtain⟨p2,d2,rfl,g2⟩:=g2'.list;obtain⟨p3,d3,rfl,g3⟩:=g3'.list;obtain⟨p4,d4,rfl,g4⟩:=g4'.list;have b2:=g2.len9;have b3:=g3.len9;rw[show(x.params.map Pa.fl).length=x.params.length by simp]at Ab b2;rw[show(dI x.locals).length=x.locals.length by simp[dI]]at Ab b3;rw[show(sts x.body).length=x.body.length by simp[bA]]at Ab;obtain⟨bo,Jh⟩:=zx (x.opn);obtain⟨s0,f0⟩:=zx (x.name.length);obtain⟨s2,f2⟩:=zx (x.params.length);obtain⟨s3,f3⟩:=zx (x.locals.length);obtain⟨s4,f4⟩:=zx (x.body.length);rw[<-f0,<-f2,<-f3,<-f4]at hr3;rw[<-f0,<-f2,<-f3,<-f4,<-Jh]at Ab;rw[<-f0]at g0 hp;rw[<-f2]at b2;rw[<-f3]at b3;have F2:=hid f2.symm;have F3:=hid f3.symm;have HB:Hid (vL x.body/\x.body.length=s4):=⟨aUm _,f4.symm⟩
       have t0:=aB (Ab 0 _ rfl) Z.sb.2;have t1:=aB (Ab 1 _ rfl) Z.sb.2;have t2:=aB (Ab 2 _ rfl) Z.sb.2;have t3:=aB (Ab 3 _ rfl) Z.sb.2;have t4:=aB (Ab 4 _ rfl) Z.sb.2;rw[zG1]at t0;clear f0 f2 f3 f4 Jh Ab hx Bc g2' g3' g4' Pt hpo;have Mz:(j:Int)<n3:=A0;have xp:=Blk.new wr 135 [.slice p0 s0 d0,.bool bo,.slice p2 s2 d2,.slice p3 s3 d3,.slice p4 s4 d4];replace Z:=(Z.grown (aE wr (.cells #[.slice p0 s0 d0,.bool bo,.slice p2 s2 d2,.slice p3 s3 d3,.slice p4 s4 d4] 135 (0,0)) none)).more xp (kM A6);clear xp;go_upto_region 17 with fail;generalize wr.alloc (.cells #[.slice p0 s0 d0,.bool bo,.slice p2 s2 d2,.slice p3 s3 d3,.slice p4 s4 d4] 135 (0,0))=w3 at *;generalize wr.heap.size=gp at *;clear t0 t1 t2 t3 t4 q3;refine zd 5 Z fun w2 Z Aa=>?_;refine la 0 ?_;refine la 2 ?_;refine zF 3 0 (fun _ h=>h.2) Aa ?_;try simp only[nrm]
       refine z1 (zS 1 Z fun v3 w3 Z Aa _=>?_);try simp only[nrm]
       refine z1 (zR 4 Z (g0.below Aa.2) hp fun v4 w4 Z Aa _=>?_);try simp only[nrm]
       refine zE ?_;have r1:=Z.sb.1.2.k 1;rcases Bool.eq_false_or_eq_true bo with Jh|Jh
       .
        rw[Jh]at r1;clear Jh;go_wp2_with (at_builtin;refine zl Z ?_);intro v8 w8 Z;exact QA1
       .
        rw[Jh]at r1;clear Jh;exact QA1
      .
       have:n3=j:=A0;subst this;have:=bL (m.procs.map Pr.fl) n3;go_wp2_with (at_builtin;refine zl Z ?_);intro v8 w8 Z;clear q3;obtain⟨L,g,hl⟩:=Z;obtain⟨a,c,rfl,_⟩:=g.own.shape;have Lg:=g.bel;clear g;go_wp2;go_ret;exact⟨_,_,_,rfl,by omega,aM Lg none⟩
end Go.Proofs.YtcbhdhmhidpdgaaGreatDoor

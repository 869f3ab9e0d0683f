import Derived.Test.YtcbhdhmhidpdgaaGreatSpV
import Derived.Lib.SlBytesConst
namespace Go.Proofs.YtcbhdhmhidpdgaaGreat
open Go.RowKit
set_option linter.unusedVariables false
set_option linter.unusedSimpArgs false
set_option maxRecDepth 100000
theorem QA1{p:Prop}(h:p:=by
 go_wp2_with (at_builtin;refine zl Z ?_)
 intro v8 w8 Z
 clear r1
 obtain⟨NP,hNP,Z⟩:=Z.cap (M:=T2+(200*aG ((m.procs.map Pr.fl).take j)+60*j)+(s0+24)) A0
 go_wp2_with fail
 go_loopw [3,8] (fun b i wr=>∃k:Nat,k<=s2/\i=.int .i64 k/\Zg w w 2 base (fun x=>Blk x gx 81 [.slice (some Zj) n0 c0,.slice a1 n1 c1,.slice a2 n2 c2,.slice (some ⟨br,o,none⟩) n3 c3]/\Blk x gp 111 [.slice p0 s0 d0,.bool bo,.slice p2 s2 d2,.slice p3 s3 d3,.slice p4 s4 d4]) (NP+(200*aG ((x.params.map Pa.fl).take k)+60*k)) wr b) (fun _ i _=>s2-(intOf i).toNat)
 case atStart=>exact⟨0,zD1 _,rfl,Z.mono A0⟩
 case round=>
  obtain⟨k,hk,rfl,Z⟩:=hrel
  have r2:=Z.sb.1.2.k 2
  by_cases Dx:k<s2
  .
   obtain⟨y,hy⟩:∃y,x.params[k]?=some y:=⟨_,zA0 (by rw[F2.out];exact Dx)⟩
   have Mz:(x.params.map Pa.fl)[k]?=some y.fl:=by rw[zA2,hy];rfl
   obtain⟨_,_,us,rfl,Al,Ab⟩:=aX.cellsAt g2 Mz
   obtain⟨z0,_,rfl,⟨ax,cx,rfl,Ce,_⟩,z1,_,rfl,rfl,rfl⟩:=Al
   have t0:=Ab 0 _ rfl
   have t1:=Ab 1 _ rfl
   rw[zG1]at t0
   have It:=Nat.le_of_eq (dQ Mz).symm
   have Is:=bP (x.params.map Pa.fl) (k+1)
   have hp:=gN (Yu y (zA3 hy))
   obtain⟨nm,ar⟩:=y
   simp only[Pa.fl,aP,Fl.len]at It t1
   obtain⟨nx,Hk⟩:=zx (nm.length)
   simp only[<-Hk]at t0 hp Ce It
   clear Hk Ab Mz hy
   have Bz:(k:Int)<s2:=A0
   by_cases Kr:(0:Int)<(k:Int)
   .
    go_wp2_with (at_builtin;refine zl Z ?_)
    intro v8 w8 Z
    clear r2
    have r2:=Z.sb.1.2.k 2
    have d1:=aB t1 Z.sb.2
    by_cases Re:ar=true
    .
     go_wp2_with (at_builtin;refine zl Z ?_)
     intro v8 w8 Z
     go_upto_region 28 with fail
     clear r2 d1 Re Kr
     refine zd 10 Z fun w2 Z Aa=>?_
     refine la 0 ?_
     refine la 3 ?_
     refine zF 4 2 (fun _ h=>h.2) Aa ?_
     refine la 5 ?_
     refine la 6 ?_
     refine la 7 ?_
     refine zX 8 t0 Aa ?_
     try simp only[nrm]
     refine z1 (zK 1 Z fun g w3 Z Aa R=>?_)
     refine z1 (zR 2 Z (dS A6 A6 R) A6 fun v4 w4 Z Aa _=>?_)
     try simp only[nrm]
     refine z1 (zR 9 Z (Ce.below Aa.2) hp fun v5 w5 Z Aa _=>?_)
     try simp only[nrm]
     refine zE ?_
     go_wp2
     go_roundw
     case rel=>exact⟨k+1,by omega,by go_num,Z.mono A0⟩
     case measure=>simp[intOf];omega
    .
     go_upto_region 28 with fail
     clear r2 d1 Re Kr
     refine zd 10 Z fun w2 Z Aa=>?_
     refine la 0 ?_
     refine la 3 ?_
     refine zF 4 2 (fun _ h=>h.2) Aa ?_
     refine la 5 ?_
     refine la 6 ?_
     refine la 7 ?_
     refine zX 8 t0 Aa ?_
     try simp only[nrm]
     refine z1 (zK 1 Z fun g w3 Z Aa R=>?_)
     refine z1 (zR 2 Z (dS A6 A6 R) A6 fun v4 w4 Z Aa _=>?_)
     try simp only[nrm]
     refine z1 (zR 9 Z (Ce.below Aa.2) hp fun v5 w5 Z Aa _=>?_)
     try simp only[nrm]
     refine zE ?_
     go_wp2
     go_roundw
     case rel=>exact⟨k+1,by omega,by go_num,Z.mono A0⟩
     case measure=>simp[intOf];omega
   .
    clear r2
    have r2:=Z.sb.1.2.k 2
    have d1:=aB t1 Z.sb.2
    by_cases Re:ar=true
    .
     go_wp2_with (at_builtin;refine zl Z ?_)
     intro v8 w8 Z
     go_upto_region 28 with fail
     clear r2 d1 Re Kr
     refine zd 10 Z fun w2 Z Aa=>?_
     refine la 0 ?_
     refine la 3 ?_
     refine zF 4 2 (fun _ h=>h.2) Aa ?_
     refine la 5 ?_
     refine la 6 ?_
     refine la 7 ?_
     refine zX 8 t0 Aa ?_
     try simp only[nrm]
     refine z1 (zK 1 Z fun g w3 Z Aa R=>?_)
     refine z1 (zR 2 Z (dS A6 A6 R) A6 fun v4 w4 Z Aa _=>?_)
     try simp only[nrm]
     refine z1 (zR 9 Z (Ce.below Aa.2) hp fun v5 w5 Z Aa _=>?_)
     try simp only[nrm]
     refine zE ?_
     go_wp2
     go_roundw
     case rel=>exact⟨k+1,by omega,by go_num,Z.mono A0⟩
     case measure=>simp[intOf];omega
    .
     go_upto_region 28 with fail
     clear r2 d1 Re Kr
     refine zd 10 Z fun w2 Z Aa=>?_
     refine la 0 ?_
     refine la 3 ?_
     refine zF 4 2 (fun _ h=>h.2) Aa ?_
     refine la 5 ?_
     refine la 6 ?_
     refine la 7 ?_
     refine zX 8 t0 Aa ?_
     try simp only[nrm]
     refine z1 (zK 1 Z fun g w3 Z Aa R=>?_)
     refine z1 (zR 2 Z (dS A6 A6 R) A6 fun v4 w4 Z Aa _=>?_)
     try simp only[nrm]
     refine z1 (zR 9 Z (Ce.below Aa.2) hp fun v5 w5 Z Aa _=>?_)
     try simp only[nrm]
     refine zE ?_
     go_wp2
     go_roundw
     case rel=>exact⟨k+1,by omega,by go_num,Z.mono A0⟩
     case measure=>simp[intOf];omega
  .
   have:s2=k:=A0
   subst this
   have hr5:=bP (x.params.map Pa.fl) s2
   go_wp2_with (at_builtin;refine zl Z ?_)
   intro v8 w8 Z
   clear r2
   obtain⟨NQ,hNQ,Z⟩:=Z.cap (M:=NP+(200*aG (x.params.map Pa.fl)+60*s2)+8) A0
   go_wp2_with fail
   go_loopw [3,9] (fun b i wr=>∃k:Nat,k<=s3/\i=.int .i64 k/\Zg w w 2 base (fun x=>Blk x gx 81 [.slice (some Zj) n0 c0,.slice a1 n1 c1,.slice a2 n2 c2,.slice (some ⟨br,o,none⟩) n3 c3]/\Blk x gp 111 [.slice p0 s0 d0,.bool bo,.slice p2 s2 d2,.slice p3 s3 d3,.slice p4 s4 d4]) (NQ+(200*aG ((dK x.locals).take k)+60*k)) wr b) (fun _ i _=>s3-(intOf i).toNat)
   case atStart=>exact⟨0,zD1 _,rfl,Z.mono A0⟩
   case round=>
    obtain⟨k,hk,rfl,Z⟩:=hrel
    have r3:=Z.sb.1.2.k 3
    by_cases To:k<s3
    .
     obtain⟨_,_,x,ax,cx,rfl,hx,Ce,t0,It,Is⟩:=aD4 g3 (j:=k) (by rw[F3.out];omega)
     have hp:=gN (hlok x hx)
     obtain⟨nx,Hk⟩:=zx (x.length)
     rw[<-Hk]at t0 hp Ce It
     clear Hk
     have Ni:(k:Int)<s3:=A0
     go_upto_region 33 with fail
     clear r3
     refine zd 9 Z fun w2 Z Aa=>?_
     refine la 0 ?_
     refine la 2 ?_
     refine zF 3 3 (fun _ h=>h.2) Aa ?_
     refine la 4 ?_
     refine la 5 ?_
     refine zX 6 t0 Aa ?_
     try simp only[nrm]
     refine z1 (zS 1 Z fun v3 w3 Z Aa _=>?_)
     try simp only[nrm]
     refine z1 (zR 7 Z (Ce.below Aa.2) hp fun v4 w4 Z Aa _=>?_)
     try simp only[nrm]
     refine z1 (zS 8 Z fun v5 w5 Z Aa _=>?_)
     try simp only[nrm]
     refine zE ?_
     go_wp2
     go_roundw
     case rel=>exact⟨k+1,by omega,by go_num,Z.mono A0⟩
     case measure=>simp[intOf];omega
    .
     have:s3=k:=A0
     subst this
     have hr6:=bP (dK x.locals) s3
     go_upto_region 34 with fail
     clear r3
     refine zd 6 Z fun w2 Z Aa=>?_
     refine la 0 ?_
     refine la 2 ?_
     refine zF 3 4 (fun _ h=>h.2) Aa ?_
     refine z1 (zS 1 Z fun v3 w3 Z Aa _=>?_)
     try simp only[nrm]
     refine z1 (zC 4 Z (vY.on HB (zB0 2) hbok g4 A0) fun v4 w4 Z Aa _=>?_)
     try simp only[nrm]
     refine z1 (zS 5 Z fun v5 w5 Z Aa _=>?_)
     try simp only[nrm]
     refine zE ?_
     go_wp2
     go_roundw
     case rel=>exact⟨j+1,by omega,by go_num,(Z.with Z.sb.1.1 (kY A6)).mono A0⟩
     case measure=>simp[intOf];omega):p:=h
theorem QA27{p:Prop}(h:p:=by
 go_wp2
 go_roundw
 case rel=>exact⟨j+1,by omega,by go_num,Z.mono A0⟩
 case measure=>simp[intOf];omega):p:=h
variable{N base n0:Nat}{v:Value}{w w0:World}
theorem aD4{a:Option Addr}{c j:Nat}{l:List (List Int)}(h:aX w0 a c 1 (dK l))(hj:j<l.length):
  ∃b o x ax cx,a=some ⟨b,o,none⟩/\x ∈ l/\aV w0 ax x.length x/\w0.cell? ⟨b,o+j,none⟩=some (.slice ax x.length cx)/\aG ((dK l).take j)+x.length<=aG ((dK l).take (j+1))/\aG ((dK l).take (j+1))<=aG (dK l):=by
 have hx:l[j]?=some l[j]:=zA0 hj;have Bc:(dK l)[j]?=some [.b l[j]]:=by unfold dK;rw[zA2,hx];rfl
 obtain⟨b,o,us,rfl,Al,Ab⟩:=aX.cellsAt h Bc;obtain⟨y0,_,rfl,⟨ax,cx,rfl,Ce,_⟩,rfl⟩:=Al;have t0:=Ab 0 _ rfl;rw[Nat.mul_one,zG1]at t0;have h1:=Nat.le_of_eq (dQ Bc).symm;simp only[aP,Fl.len,zG1]at h1;exact⟨b,o,_,ax,cx,rfl,zA3 hx,Ce,t0,h1,bP _ _⟩
theorem Zg.cap{ws:World}{M:Nat}{B:World->Prop}(z:Zg w0 ws n0 base B N w v)(h:N<=M):∃K,K<=M/\Zg w0 ws n0 base B K w v:=⟨M,zB0 _,z.mono h⟩
theorem Zg.more {w0 ws w:World}{n0 base N:Nat}{B C:World->Prop}{v:Value}(z:Zg w0 ws n0 base B N w v)(hc:C w)(hk:∀x y,C x->eG base none x y->C y):Zg w0 ws n0 base (fun x=>B x/\C x) N w v:=by
 obtain⟨L,g,hl⟩:=z;exact⟨L,g.more hc hk,hl⟩
theorem vY.on{nl:Nat}{l:List St}(S:Hid (vY l/\l.length=nl))(Gv:2<=n0)(hok:iY l=true){a:Option Addr}{c:Nat}(hr:aX w0 a c 6 (sts l))(hN:N+(200*aG (sts l)+120*nl)<=1000000000):
  ∀M:List Int,Own w base v M.length M->base<=w.heap.size->Below w0.heap.size w0 w->w0.heap.size<=base->M.length<=N->n0<=M.length->Calls Tryz.prog 112 #[v,.slice a nl c] w (Zp base (200*aG (sts l)+120*nl) M w):=by
 obtain⟨S9,rfl⟩:=S.out;exact fun M hO hl hb h0 hm hn=>S9 w0 w a c base M v hr hb h0 hl hO hok A0 A0
theorem zX (i:Nat){w0 w:World}{B:World->Prop}{x:Operand}{t:TypeId}{bb ii:Nat}{u:Value}{ops:Array Oper}{Q:Exit->Act->World->Prop}{md:Region.Mode}{L:Nat}{o:Oper}{fuel:Nat}{listed:Array Bool}{a:Act}(hc:w0.cell? ⟨bb,ii,none⟩=some u)(hS:SB w0 B w)
  (h:cW Tryz.prog md ops Q (SB w0 B) L fuel (listed.setIfInBounds i true) (a.put o.dst u) w) (ho:ops[i]?=some o:=by rfl)
  (hk:(Region.noSelect ops && Region.free md ops listed i && (Region.ready md ops listed).contains i && wF md ops L i)=true:=by kernel_rfl)
  (hop:o.op=.load t x:=by rfl) (hd:o.guard=none:=by rfl)
  (hl:∀w:World,w.cell? ⟨bb,ii,none⟩=some u->(execOp a.eval ⟨o.dst,.load t x,o.type,o.pos,o.after,none⟩).run Tryz.prog w=.ok (.value u) w:=by intro w hc;go_simp)
  (hQ:∀c a w,Q (.panic c) (a.put o.dst u) w->Q (.panic c) a w:=by exact fun _ _ _ h=>h):cW Tryz.prog md ops Q (SB w0 B) L (fuel+1) listed a w:=by
 refine tl i ho hk (.inl ⟨?_,fun w' Np=>?_⟩) hS hQ h
 .
  unfold Region.wanted;rw[hd]
 .
  obtain⟨dst,op,ty,pos,aft,gd⟩:=o;subst hop;subst hd;exact hl w' (aB hc Np.2)
theorem aBv (w:World):aV (w.alloc (.cells #[.int .u8 77,.int .u8 79,.int .u8 68,.int .u8 85,.int .u8 76,.int .u8 69,.int .u8 32] 5 (7,8))) (some ⟨w.heap.size,0,none⟩) 7 [77,79,68,85,76,69,32]:=by
 refine⟨rfl,by decide,fun _=>⟨w.heap.size,0,rfl,fun i hi=>?_⟩⟩;rw[zJ1,World.cell?_alloc_mark];have:i=0\/i=1\/i=2\/i=3\/i=4\/i=5\/i=6:=A0;rcases this with rfl|rfl|rfl|rfl|rfl|rfl|rfl <;> rfl
set_option maxHeartbeats 16000000 in
theorem aHl (m:Mo)(hf:cI m=true)(w:World)(vs:List Value)(h:aL w m.fl vs)(hs:aP m.fl<=1048576):
  Calls Tryz.prog 98 #[agg vs] w fun e w'=>∃a n c,e=.returned (.slice a n c)/\n<=1000000000/\w.grownBy w' none:=by
 obtain⟨Hm,huok,hvok,Yu⟩:=vD hf;have e9:aP m.fl=m.name.length+(m.uses.length+aG (dK m.uses))+(m.vars.length+aG (m.vars.map Va.fl))+(m.procs.length+aG (m.procs.map Pr.fl)):=by simp[Mo.fl,aP,Fl.len,dK] <;> omega
 rw[e9]at hs;clear e9;obtain⟨y0,_,rfl,⟨a0,c0,rfl,h0,Iu,_⟩,y1,_,rfl,La,y2,_,rfl,Xw,y3,_,rfl,h3',rfl⟩:=h;obtain⟨a1,c1,rfl,H1⟩:=La.list;obtain⟨a2,c2,rfl,H2⟩:=Xw.list;obtain⟨a3,c3,rfl,H3⟩:=h3'.list;clear La Xw h3';have l1:=H1.len9;have l2:=H2.len9;have l3:=H3.len9;rw[show(dK m.uses).length=m.uses.length by simp[dK]]at l1 ⊢;rw[show(m.vars.map Va.fl).length=m.vars.length by simp]at l2 ⊢;rw[show(m.procs.map Pr.fl).length=m.procs.length by simp]at l3 ⊢;simp only[agg];obtain⟨n0,Gv⟩:=zx (m.name.length);obtain⟨n1,Jk⟩:=zx (m.uses.length);obtain⟨n2,Dl⟩:=zx (m.vars.length);obtain⟨n3,Dk⟩:=zx (m.procs.length);have Es:0<n0:=by rw[Gv];exact gN Hm
 rw[<-Gv,<-Jk,<-Dl,<-Dk]at hs ⊢;rw[<-Gv]at h0 Iu;rw[<-Jk]at l1;rw[<-Dl]at l2;rw[<-Dk]at l3;have E1:=hid Jk.symm;have E2:=hid Dl.symm;have E3:=hid Dk.symm;clear Gv Jk Dl Dk;obtain⟨base,Ca⟩:=zx (w.heap.size);have x0:=Blk.new w 81 [.slice a0 n0 c0,.slice a1 n1 c1,.slice a2 n2 c2,.slice a3 n3 c3];have Pf:=(zD2 w.heap.size w).alloc (zB0 _) (.cells #[.slice a0 n0 c0,.slice a1 n1 c1,.slice a2 n2 c2,.slice a3 n3 c3] 81 (0,0));have hwa:Wr 2 base w (w.alloc (.cells #[.slice a0 n0 c0,.slice a1 n1 c1,.slice a2 n2 c2,.slice a3 n3 c3] 81 (0,0))):=Wr.of (aE w _ none);have hba2:base<=(w.alloc (.cells #[.slice a0 n0 c0,.slice a1 n1 c1,.slice a2 n2 c2,.slice a3 n3 c3] 81 (0,0))).heap.size:=by rw[Ca];simp
 have Pq:w.heap.size<=base:=A0;have q0:=x0.k 0;go_enter Tryz.func98,Tryz.ntmps98;go_upto_region 1 with fail;obtain⟨gx,Au⟩:=zx (w.heap.size);rw[<-Au]at x0 q0 ⊢;clear Au Ca;generalize w.alloc (.cells #[.slice a0 n0 c0,.slice a1 n1 c1,.slice a2 n2 c2,.slice a3 n3 c3] 81 (0,0))=w1 at *;have kc:=Lib.run_convert_bytes_const (P:=Tryz.prog) w1 22 5 #[.int .u8 77,.int .u8 79,.int .u8 68,.int .u8 85,.int .u8 76,.int .u8 69,.int .u8 32] 7 7 Tryz.underlying22 Tryz.underlying5;have Ux:=aE w1 (.cells #[.int .u8 77,.int .u8 79,.int .u8 68,.int .u8 85,.int .u8 76,.int .u8 69,.int .u8 32] 5 (7,8)) none;have hrc:=aBv w1;have x1:=x0.below (aA Ux) x0.lt;have q1:=x1.k 0;have hbb:=Pf.trans ((aA Ux).mono Pf.size);have Tk:=h0.below hbb;have hr9:=Tk.2.1;have hnl0:=Tk.1;obtain⟨Zj,rfl,Rb⟩:=Tk.pos A12;obtain⟨ao,hao,hco⟩:=hrc.pos A9;cases hao;obtain⟨i0,hi,Dc,De,Db⟩:=info_parts uS;clear q0 hrc;simp only[List.size_toArray,zB1,zC3,Nat.reduceAdd]at kc;go_wp2_with (at_builtin;refine wpList_append_grows _ rfl _ _ 22 rfl 5 i0 (.int .u8 0) 1 1 Tryz.underlying22 hi Dc De Db rfl A6 (some ⟨w1.heap.size,0,none⟩) 7 7 (([77,79,68,85,76,69,32]:List Int).map (Value.int .u8)) rfl A9 rfl (fun b hb=>by cases hb;exact hco) Zj n0 c0 (m.name.map (Value.int .u8)) rfl (by simp[hnl0]) Rb (ints_oneCell _ _) A0 A13 A0 ?_);intro v2 w2 Hw hg2;have Z:Zg w w 2 base (fun x=>Blk x gx 81 [.slice (some Zj) n0 c0,.slice a1 n1 c1,.slice a2 n2 c2,.slice a3 n3 c3]) (7+n0) w2 v2:=by
  have Bn:=aC Ux hg2;have hl:([77,79,68,85,76,69,32]++m.name).length=7+n0:=by rw[zA1,hnl0];rfl
  refine⟨[77,79,68,85,76,69,32]++m.name,⟨Own.mono (base:=(w1.alloc (.cells #[.int .u8 77,.int .u8 79,.int .u8 68,.int .u8 85,.int .u8 76,.int .u8 69,.int .u8 32] 5 (7,8))).heap.size) ⟨by rw[hl];simpa using Hw, ?_⟩ (zF2 hba2 Ux.size),x0.below (aA Bn) x0.lt,kY A6,hwa.trans (Wr.of Bn),by rw[hl];omega,Pf.trans ((aA Bn).mono Pf.size),zF2 hba2 Bn.size,Pq⟩,Nat.le_of_eq hl⟩;intro x hx;rcases List.mem_append.1 hx with h|h
  .
   exact(by decide:∀y ∈ ([77,79,68,85,76,69,32]:List Int),0<=y/\y<=255) x h
  .
   exact hr9 x h
 clear Pf hwa x0 x1 q1 hbb Tk Rb hco Hw hg2 Ux kc;go_wp2_with (at_builtin;refine zl Z ?_);intro v3 w3 Z;go_wp2_with fail;go_loopw [3,4] (fun b i wr=>∃j:Nat,j<=n1/\i=.int .i64 j/\Zg w w 2 base (fun x=>Blk x gx 81 [.slice (some Zj) n0 c0,.slice a1 n1 c1,.slice a2 n2 c2,.slice a3 n3 c3]) (n0+30+(200*aG ((dK m.uses).take j)+60*j)) wr b) (fun _ i _=>n1-(intOf i).toNat)
 case atStart=>exact⟨0,zD1 _,rfl,Z.mono A0⟩
 case round=>
  obtain⟨j,hj,rfl,Z⟩:=hrel;have q1:=Z.k 1;by_cases Ad:j<n1
  .
   obtain⟨_,_,x,ax,cx,rfl,hx,Ce,t0,It,Is⟩:=aD4 H1 (j:=j) (by rw[E1.out];omega);have hp:=gN (huok x hx);obtain⟨nx,Hk⟩:=zx (x.length);rw[<-Hk]at t0 hp Ce It;clear Hk;have Ni:(j:Int)<n1:=A0;go_upto_region 5 with fail;clear q1;refine zd 9 Z fun w2 Z Aa=>?_;refine la 0 ?_;refine la 2 ?_;refine zF 3 1 (fun _ h=>h) Aa ?_;refine la 4 ?_;refine la 5 ?_;refine zX 6 t0 Aa ?_;try simp only[nrm]
   refine z1 (zS 1 Z fun v3 w3 Z Aa _=>?_);try simp only[nrm]
   refine z1 (zR 7 Z (Ce.below Aa.2) hp fun v4 w4 Z Aa _=>?_);try simp only[nrm]
   refine z1 (zS 8 Z fun v5 w5 Z Aa _=>?_);try simp only[nrm]
   refine zE ?_;exact QA27
  .
   have:n1=j:=A0;subst this;have:=bP (dK m.uses) n1;obtain⟨T1,hT1,Z⟩:=Z.cap (M:=n0+30+(200*aG (dK m.uses)+60*n1)) A0;go_wp2_with fail;clear q1;go_loopw [3,5] (fun b i wr=>∃j:Nat,j<=n2/\i=.int .i64 j/\Zg w w 2 base (fun x=>Blk x gx 81 [.slice (some Zj) n0 c0,.slice a1 n1 c1,.slice a2 n2 c2,.slice a3 n3 c3]) (T1+(200*aG ((m.vars.map Va.fl).take j)+60*j)) wr b) (fun _ i _=>n2-(intOf i).toNat)
   case atStart=>exact⟨0,zD1 _,rfl,Z.mono A0⟩
   case round=>
    obtain⟨j,hj,rfl,Z⟩:=hrel;have q2:=Z.k 2;by_cases Ad:j<n2
    .
     obtain⟨x,hx⟩:∃x,m.vars[j]?=some x:=⟨_,zA0 (by rw[E2.out];exact Ad)⟩
     have Bc:(m.vars.map Va.fl)[j]?=some x.fl:=by rw[zA2,hx];rfl
     obtain⟨b,o,us,rfl,Al,Ab⟩:=aX.cellsAt H2 Bc;obtain⟨y0,_,rfl,⟨ax,cx,rfl,Ce,_⟩,y1,_,rfl,rfl,rfl⟩:=Al;have t0:=Ab 0 _ rfl;have t1:=Ab 1 _ rfl;rw[zG1]at t0;have It:=Nat.le_of_eq (dQ Bc).symm;have Is:=bP (m.vars.map Va.fl) (j+1);have hvo:=hvok x (zA3 hx);simp only[yM,zC0]at hvo;have hp:=gN hvo.1;have Bg:0<=x.size/\x.size<=20:=by have:=hvo.2;simp[inB]at this;exact this
     have hd:=lL (n:=x.size) A0 A0;obtain⟨nm,sz⟩:=x;simp only[Va.fl,aP,Fl.len]at It Bg hd t1;obtain⟨nx,Hk⟩:=zx (nm.length);simp only[<-Hk]at t0 hp Ce It;clear Hk Ab Bc hx hvo;have Ni:(j:Int)<n2:=A0;go_upto_region 9 with fail;clear q2;refine zd 9 Z fun w2 Z Aa=>?_;refine la 0 ?_;refine la 2 ?_;refine zF 3 2 (fun _ h=>h) Aa ?_;refine la 4 ?_;refine la 5 ?_;refine la 6 ?_;refine zX 7 t0 Aa ?_;try simp only[nrm]
     refine z1 (zS 1 Z fun v3 w3 Z Aa _=>?_);try simp only[nrm]
     refine z1 (zR 8 Z (Ce.below Aa.2) hp fun v4 w4 Z Aa _=>?_);try simp only[nrm]
     refine zE ?_;have q2:=Z.k 2;have d1:=aB t1 Z.sb.2;by_cases hz:0<sz
     .
      go_upto_region 11 with fail;clear q2 d1;refine zd 11 Z fun w2 Z Aa=>?_;refine la 0 ?_;refine la 2 ?_;refine zF 3 2 (fun _ h=>h) Aa ?_;refine la 4 ?_;refine la 5 ?_;refine la 6 ?_;refine zX 7 t1 Aa ?_;try simp only[nrm]
      refine z1 (zS 1 Z fun v3 w3 Z Aa _=>?_);try simp only[nrm]
      refine z1 (zD 8 Z (aUc sz A0 A0 _) (nA sz) fun ad cd w5 Z Aa R=>?_);try simp only[nrm]
      refine z1 (zR 9 Z R (nA sz) fun v6 w6 Z Aa _=>?_);try simp only[nrm]
      refine z1 (zS 10 Z fun v7 w7 Z Aa _=>?_);try simp only[nrm]
      refine zE ?_;go_wp2_with (at_builtin;refine zl Z ?_);intro v8 w8 Z;exact QA27
     .
      go_wp2_with (at_builtin;refine zl Z ?_);intro v8 w8 Z;clear q2 d1;exact QA27
    .
     have:n2=j:=A0;subst this;have:=bP (m.vars.map Va.fl) n2;obtain⟨T2,hT2,Z⟩:=Z.cap (M:=T1+(200*aG (m.vars.map Va.fl)+60*n2)) A0;go_wp2_with fail;clear q2;go_loopw [3,6,7,8,9] (fun b i _ _ _ wr=>∃j:Nat,j<=n3/\i=.int .i64 j/\Zg w w 2 base (fun x=>Blk x gx 81 [.slice (some Zj) n0 c0,.slice a1 n1 c1,.slice a2 n2 c2,.slice a3 n3 c3]) (T2+(200*aG ((m.procs.map Pr.fl).take j)+60*j)) wr b) (fun _ i _ _ _ _=>n3-(intOf i).toNat)
     case atStart=>exact⟨0,zD1 _,rfl,Z.mono A0⟩
     case round=>
      obtain⟨j,hj,rfl,Z⟩:=hrel;have q3:=Z.k 3;by_cases Ad:j<n3
      .
       obtain⟨x,hx⟩:∃x,m.procs[j]?=some x:=⟨_,zA0 (by rw[E3.out];exact Ad)⟩
       have Bc:(m.procs.map Pr.fl)[j]?=some x.fl:=by rw[zA2,hx];rfl
       obtain⟨br,o,us,rfl,Al,Ab⟩:=aX.cellsAt H3 Bc;have hr3:=Nat.le_of_eq (dQ Bc).symm;have hr4:=bP (m.procs.map Pr.fl) (j+1);have Qi:aP x.fl=x.name.length+(x.params.length+aG (x.params.map Pa.fl))+(x.locals.length+aG (dK x.locals))+(x.body.length+aG (sts x.body)):=by simp[Pr.fl,aP,Fl.len,dK,bE] <;> omega
       rw[Qi]at hr3;obtain⟨Xk,hbok⟩:=Yu x (zA3 hx);simp only[qH,zC0,zF3]at Xk;have hp:=gN Xk.1.1.1.1;have hlok:=Xk.2;replace Yu:=Xk.1.1.2;unfold Pr.fl at Al;obtain⟨y0,_,rfl,⟨p0,d0,rfl,g0,_⟩,y1,_,rfl,rfl,y2,_,rfl,g2',y3,_,rfl,g3',y4,_,rfl,g4',rfl⟩:=Al;obtain⟨p2,d2,rfl,g2⟩:=g2'.list;obtain⟨p3,d3,rfl,g3⟩:=g3'.list;obtain⟨p4,d4,rfl,g4⟩:=g4'.list;have b2:=g2.len9;have b3:=g3.len9;rw[show(x.params.map Pa.fl).length=x.params.length by simp]at Ab b2;rw[show(dK x.locals).length=x.locals.length by simp[dK]]at Ab b3;rw[show(sts x.body).length=x.body.length by simp[bE]]at Ab;obtain⟨bo,Iw⟩:=zx (x.opn);obtain⟨s0,f0⟩:=zx (x.name.length);obtain⟨s2,f2⟩:=zx (x.params.length);obtain⟨s3,f3⟩:=zx (x.locals.length);obtain⟨s4,f4⟩:=zx (x.body.length);rw[<-f0,<-f2,<-f3,<-f4]at hr3;rw[<-f0,<-f2,<-f3,<-f4,<-Iw]at Ab;rw[<-f0]at g0 hp;rw[<-f2]at b2;rw[<-f3]at b3;have F2:=hid f2.symm;have F3:=hid f3.symm;have HB:Hid (vY x.body/\x.body.length=s4):=⟨aVr _,f4.symm⟩
       have t0:=aB (Ab 0 _ rfl) Z.sb.2;have t1:=aB (Ab 1 _ rfl) Z.sb.2;have t2:=aB (Ab 2 _ rfl) Z.sb.2;have t3:=aB (Ab 3 _ rfl) Z.sb.2;have t4:=aB (Ab 4 _ rfl) Z.sb.2;rw[zG1]at t0;clear f0 f2 f3 f4 Iw Ab hx Bc g2' g3' g4' Qi Xk;have Ni:(j:Int)<n3:=A0;have xp:=Blk.new wr 111 [.slice p0 s0 d0,.bool bo,.slice p2 s2 d2,.slice p3 s3 d3,.slice p4 s4 d4];replace Z:=(Z.grown (aE wr (.cells #[.slice p0 s0 d0,.bool bo,.slice p2 s2 d2,.slice p3 s3 d3,.slice p4 s4 d4] 111 (0,0)) none)).more xp (kY A6);clear xp;go_upto_region 17 with fail;generalize wr.alloc (.cells #[.slice p0 s0 d0,.bool bo,.slice p2 s2 d2,.slice p3 s3 d3,.slice p4 s4 d4] 111 (0,0))=w3 at *;generalize wr.heap.size=gp at *;clear t0 t1 t2 t3 t4 q3;refine zd 5 Z fun w2 Z Aa=>?_;refine la 0 ?_;refine la 2 ?_;refine zF 3 0 (fun _ h=>h.2) Aa ?_;try simp only[nrm]
       refine z1 (zS 1 Z fun v3 w3 Z Aa _=>?_);try simp only[nrm]
       refine z1 (zR 4 Z (g0.below Aa.2) hp fun v4 w4 Z Aa _=>?_);try simp only[nrm]
       refine zE ?_;have r1:=Z.sb.1.2.k 1;rcases Bool.eq_false_or_eq_true bo with Iw|Iw
       .
        rw[Iw]at r1;clear Iw;go_wp2_with (at_builtin;refine zl Z ?_);intro v8 w8 Z;exact QA1
       .
        rw[Iw]at r1;clear Iw;exact QA1
      .
       have:n3=j:=A0;subst this;have:=bP (m.procs.map Pr.fl) n3;go_wp2_with (at_builtin;refine zl Z ?_);intro v8 w8 Z;clear q3;obtain⟨L,g,hl⟩:=Z;obtain⟨a,c,rfl,_⟩:=g.own.shape;have Ls:=g.bel;clear g;go_wp2;go_ret;exact⟨_,_,_,rfl,by omega,aN Ls none⟩
end Go.Proofs.YtcbhdhmhidpdgaaGreat

import Derived.ArgAppend
import Derived.Lib.SlBytesConst
import Derived.Test.YtegkhlkjfeafjaaGreatDoorPackF
namespace Go.Proofs.YtegkhlkjfeafjaaGreatDoor
open Go.RowKit
set_option maxHeartbeats 4000000
set_option linter.unusedVariables false
set_option linter.unusedSimpArgs false
set_option maxRecDepth 100000
theorem aOg (C:Nat)(caps:Array Value)(a:Option Addr)(n c:Nat)(rs:List (List Fl))(P:Nat->Bool)(Inv Q:Nat->World->Prop)(w:World)
  (H:aGt true C caps none agg a c 2 rs P Inv Q) (hn:rs.length=n) (h0:Inv 0 w):
  Calls Tryz.prog 137 #[.slice a n c,.func (.func C) #[] caps] w fun e w'=>∃r:Int,e=.returned (.int .i64 r)/\w.grownBy w' none/\((∃j:Nat,r=(j:Int)/\j<n/\P j=true/\∀i,i<j->P i=false)\/(r = -1/\∀i,i<n->P i=false)):=by
 refine M980 ?_;intro Hd HA hC hl0 hcn H0;clear H h0
 rcases zG0 n with h0|Am
 .
  subst h0;clear hl0 hn;go_enter Tryz.func137,Tryz.ntmps137;go_wp2_with fail;refine zH2 1 ?_;rw[zE2];go_wp2;go_ret
  exact⟨_,rfl,aN0 _ _,.inr ⟨rfl,by omega⟩⟩
 .
  obtain⟨b,off,rfl⟩:=hl0.addr V19;clear hl0 hn;go_enter Tryz.func137,Tryz.ntmps137;go_wp2_with fail
  go_loopw [5,8] (fun _ i wr=>∃j:Nat,j<=n/\i=.int .i64 j/\Hid (∀i,i<j->P i=false)/\Hid (w.grownBy wr none)/\Hid (Inv j wr)) (fun _ i _=>n-(intOf i).toNat)
  case atStart=>exact⟨0,zD1 _,rfl,by show ∀_,_;omega,aN0 _ _,H0⟩
  case round=>
   obtain⟨j,hj,rfl,hno,Bk,hinv⟩:=hrel
   by_cases Ai:j<n
   .
    obtain⟨r,hr⟩:∃r,rs[j]?=some r:=⟨rs[j]' V92,zA0 _⟩
    obtain⟨vs,Ad,Ab⟩:=((aGt.rows HA.out j wr hinv.out).el hr).vals;have HC:=aGt.go HA.out j r wr vs hr hinv.out Ad ⟨b,off,rfl,Ab⟩;have hlen:vs.length=2:=(Ad.len).trans (aGt.each HA.out r (zA3 hr))
    obtain⟨v0,v1,rfl⟩:∃v0 v1,vs=[v0,v1]:=by
     match vs,hlen with
     | [v0,v1],_=>exact⟨v0,v1,rfl⟩
    clear hlen Ad hr
    have q0:wr.cell? ⟨b,off+j*2,none⟩=some v0:=Ab 0 _ rfl
    have q1:wr.cell? ⟨b,off+j*2+1,none⟩=some v1:=Ab 1 _ rfl
    clear Ab;simp only[agg]at HC;go_wp2_with fail;rw[hC,Oper.upon_enter];refine HC.mono ?_;rintro e w2 ⟨rfl,Be,hn2,hy2⟩;have Aq:=hid (aD Bk.out Be);have HNx:=hid hn2;clear q0 q1 Be HC hn2 hy2
    by_cases he:P j=true
    .
     rw[he];have HS:=hid he;clear he;go_wp2;go_ret;exact⟨_,rfl,Aq.out,.inl ⟨j,rfl,Ai,HS.out,hno.out⟩⟩
    .
     have he:=Bool.not_eq_true _ ▸ he;rw[he];have HS:=hid he;clear he;go_wp2;go_roundw
     case rel=>exact⟨j+1,by omega,by go_num,(show ∀i,i<j+1->P i=false from fun i hi=>(zK1 i j).elim (fun h=>hno.out i h) (fun h=>(show j=i by omega) ▸ HS.out)),Aq,HNx.out HS.out⟩
     case measure=>simp[intOf];omega
   .
    have:j=n:=V6
    subst this;go_wp2;go_ret;exact⟨_,rfl,Bk.out,.inr ⟨rfl,hno.out⟩⟩
theorem aQd (hE1:Ent 138)(a:Option Addr)(c:Nat)(l:List Fp)(n:Nat)(a2:Option Addr)(n2 c2:Nat)(l2:List Int)(w:World)(hn:l.length=n)
  (h:aS w a c 2 (l.map Fp.fl)) (h2:bW w a2 n2 l2):
  Calls Tryz.prog 94 #[.slice a n c,.func (.func 92) #[] #[],.slice a2 n2 c2] w fun e w'=>e=.returned (.int .i64 (ixI (l.map Fp.name) l2))/\w.grownBy w' none:=by
 refine M9122 ?_;intro y0 x1 y1 x2
 rw[show(w.alloc (.cells #[.func (.func 92) #[] #[]] 144 (0,0))).heap.size=w.heap.size+1 by simp]at x2
 replace x1:=aB x1 (aA y1);have hb:=aA (aD y0 y1);replace h:=h.below hb;replace h2:=h2.below hb;have yy:=aD y0 y1;clear y0 y1
 have HC:Calls Tryz.prog 137 #[.slice a n c,.func (.func 138) #[] #[.pointer (some ⟨w.heap.size,0,none⟩),.pointer (some ⟨w.heap.size+1,0,none⟩)]] ((w.alloc (.cells #[.func (.func 92) #[] #[]] 144 (0,0))).alloc (.cells #[.slice a2 n2 c2] 43 (0,0))) fun e w'=>e=.returned (.int .i64 (ixI (l.map Fp.name) l2))/\((w.alloc (.cells #[.func (.func 92) #[] #[]] 144 (0,0))).alloc (.cells #[.slice a2 n2 c2] 43 (0,0))).grownBy w' none:=by
  generalize ((w.alloc (.cells #[.func (.func 92) #[] #[]] 144 (0,0))).alloc (.cells #[.slice a2 n2 c2] 43 (0,0)))=W at *
  refine(aOg 138 _ a n c (l.map Fp.fl) (fun j=>decide ((l[j]?.getD ⟨[],[]⟩).name=l2)) (fun _ wr=>Below W.heap.size W wr) (fun _ _=>True) W ⟨hE1,fun j wr hi=>h.below hi, ?_, ?_⟩ (by simpa using hn) (zD2 _ _)).mono ?_
  .
   exact U287
  .
   intro j r wr vs hr hi Ad _;rw[zA2]at hr;obtain⟨x,hx,rfl⟩:=zF0.1 hr;rw[hx];obtain⟨y0,us,rfl,⟨a0,c0,rfl,Ar,_⟩,y1,us1,rfl,_,rfl⟩:=Ad;exact U184
  .
   rintro e w' ⟨r,rfl,hg,ht⟩;refine⟨aQ ?_,hg⟩
   rcases ht with⟨j,rfl,hj,hp,hno⟩|⟨rfl,hno⟩
   .
    have hjl:l[j]?=some l[j]:=zA0 V6
    simp only[hjl,zI3,zE3]at hp
    rw[cJ (iU (j:=j) (fun m y hm hy=>by
     rw[zA2]at hy;obtain⟨z,hz,rfl⟩:=zF0.1 hy
     have:=hno m hm
     simpa [hz] using this) (by rw[zA2,hjl,<-hp];rfl))]
   .
    rw[cU (kZ fun m y hm hy=>by
     rw[zA2]at hy;obtain⟨z,hz,rfl⟩:=zF0.1 hy
     have:=hno m (by rw[zB2]at hm;omega)
     simpa [hz] using this)]
 clear h h2 hb;go_enter Tryz.func94,Tryz.ntmps94;go_upto_region 1 with fail;generalize ((w.alloc (.cells #[.func (.func 92) #[] #[]] 144 (0,0))).alloc (.cells #[.slice a2 n2 c2] 43 (0,0)))=W at *;go_wp2_with fail;refine HC.mono ?_;rintro e w3 ⟨rfl,hg⟩;go_wp2;go_ret;exact⟨rfl,aD yy hg⟩
def aOv:List Int:=[109,97,105,110]
def aOa (f:Fa):Bool:=match ix (f.procs.map Fp.name) aOv with
 | some i=>decide ((f.procs[i]?.getD ⟨[],[]⟩).kinds.length=0)
 | none=>false
theorem aO9 (w:World):bW (w.alloc (.cells #[.int .u8 109,.int .u8 97,.int .u8 105,.int .u8 110] 5 (4,5))) (some ⟨w.heap.size,0,none⟩) 4 aOv:=by
 refine⟨rfl,by decide,fun _=>⟨w.heap.size,0,rfl,fun i hi=>?_⟩⟩
 rw[zK0,World.cell?_alloc_mark]
 have:i=0\/i=1\/i=2\/i=3:=V6
 rcases this with rfl|rfl|rfl|rfl <;> rfl
theorem aOu (f:Fa)(vs:List Value)(w:World)(h:aO w f.fl vs):
  Calls Tryz.prog 50 #[.agg vs.toArray] w fun e w'=>e=.returned (.int .i64 (ixI (f.procs.map Fp.name) aOv))/\w.grownBy w' none:=by
 obtain⟨v0,_,rfl,_,v1,_,rfl,h1',rfl⟩:=h;obtain⟨a1,c1,rfl,h1⟩:=h1'.list;rw[zB2];have x0:=Blk.new w 52 [v0,.slice a1 f.procs.length c1];have y0:=aC w (.cells #[v0,.slice a1 f.procs.length c1] 52 (0,0)) none;simp only[List.toArray]at x0;go_enter Tryz.func50,Tryz.ntmps50;go_upto_region 1 with fail;generalize w.alloc (.cells #[v0,.slice a1 f.procs.length c1] 52 (0,0))=w0 at *;have q1:=x0.k 1;have kc:=Lib.run_convert_bytes_const (P:=Tryz.prog) w0 43 5 #[.int .u8 109,.int .u8 97,.int .u8 105,.int .u8 110] 4 4 Tryz.underlying43 Tryz.underlying5;have y1:=aC w0 (.cells #[.int .u8 109,.int .u8 97,.int .u8 105,.int .u8 110] 5 (4,5)) none;have hr:=aO9 w0;have HL:=h1.below (aA (aD y0 y1));simp only[List.size_toArray,zB1,zC3,Nat.reduceAdd]at kc
 have HP:=fun c2=>aQd (cK Tryz.func138 rfl rfl) a1 c1 f.procs f.procs.length _ 4 c2 aOv _ rfl HL hr
 clear h1 h1' x0 HL hr;go_wp2_with fail;refine(HP _).mono ?_;rintro e w2 ⟨rfl,hg⟩;clear HP q1 kc;go_wp2;go_ret;exact⟨rfl,aD (aD y0 y1) hg⟩
theorem aQg (f:Fa)(vs:List Value)(w:World)(h:aO w f.fl vs):
  Calls Tryz.prog 25 #[.agg vs.toArray] w fun e w'=>e=.returned (.bool (aOa f))/\w.grownBy w' none:=by
 have h0:=h;obtain⟨v0,_,rfl,⟨a0,c0,rfl,Ar,_⟩,v1,_,rfl,h1',rfl⟩:=h;obtain⟨a1,c1,rfl,h1⟩:=h1'.list;have x0:=Blk.new w 52 [.slice a0 f.name.length c0,.slice a1 (f.procs.map Fp.fl).length c1];have y0:=aC w (.cells #[.slice a0 f.name.length c0,.slice a1 (f.procs.map Fp.fl).length c1] 52 (0,0)) none;simp only[List.toArray]at x0;have HP:=aOu f _ _ (h0.below (aA y0));simp only[List.toArray]at HP;have h9:=h1.len9;have HL:=hid h1;rw[zB2]at x0 y0 HP h9 ⊢;generalize hnp:f.procs.length=np at *;have HNP:=hid hnp;clear h0 h1 h1' hnp Ar;go_enter Tryz.func25,Tryz.ntmps25;go_upto_region 1 with fail;generalize w.alloc (.cells #[.slice a0 f.name.length c0,.slice a1 np c1] 52 (0,0))=w0 at *;obtain⟨q0,q1⟩:=x0.c2;go_wp2_with fail;refine HP.mono ?_;rintro e w1 ⟨rfl,hg⟩;have yg:=aD y0 hg;replace x0:=x0.below (aA hg) x0.lt;clear HP q0 q1 y0 hg;have q1:=x0.k 1;clear x0
 cases hx:ix (f.procs.map Fp.name) aOv with
 | none=>
  have HF:Hid (aOa f=false):=by show _=_;unfold aOa;rw[hx]
  rw[cU hx];clear hx;exact U318
 | some j=>
  have HF:Hid (aOa f=decide ((f.procs[j]?.getD ⟨[],[]⟩).kinds.length=0)):=by show _=_;unfold aOa;rw[hx]
  rw[cJ hx];have hj:=(aIk hx).1;rw[zA2]at hj;obtain⟨p,hp,_⟩:=zF0.1 hj
  have Ai:j<np:=by have:=(zC1.1 hp).1;rw[HNP.out]at this;exact this
  obtain⟨b,off,ys,rfl,hys,Ab⟩:=aS.cellsAt HL.out (show(f.procs.map Fp.fl)[j]?=some p.fl by rw[zA2,hp];rfl)
  obtain⟨s0,_,rfl,_,s1,_,rfl,⟨e1,f1,rfl,_⟩,rfl⟩:=hys;have p1:=aB (Ab 1 _ rfl) (aA yg);rw[hp]at HF
  have HG:Hid (((p.kinds.length:Int) == 0)=aOa f):=by
   show _=_
   rw[HF.out,zI3]
   by_cases h:p.kinds.length=0
   .
    rw[zB3 h,h];rfl
   .
    rw[zC2 h];exact beq_eq_false_iff_ne.2 V6
  clear hx hj hp Ab HF;generalize p.kinds.length=nk at *;have hjn:(j:Int)<(np:Int):=V6;go_wp2;go_ret;exact⟨aE HG.out,yg⟩
theorem U305{p:Prop}(h:p:=by
 refine ta 20 ?_
 try simp only[nrm]
 refine zL0 V90 ?_ _
 have HYS:=hid HX.out
 have HW:=hid (aD HY.out (aI b0 none))
 clear Al HS1 b0 HI HCK2 HFO2 HLK HX HY
 go_wp2
 go_roundw
 case rel=>exact⟨j+1,by omega,by go_num,(show ∀i,i<j+1->_ from fun i hi=>(zK1 i j).elim (fun h=>Af.out i h) (fun h=>(show j=i by omega) ▸ HYS.out)),HW⟩
 case measure=>simp[intOf];omega):p:=h
theorem U309{p:Prop}(h:p:=by
 refine ta 19 ?_
 refine ta 20 ?_
 try simp only[nrm]
 refine zL0 V90 ?_ _
 have HNO:Hid (aN6 ck fo l fs=false):=by show _=_;unfold aN6;rw[zH3];exact⟨j,List.mem_range.2 V93,by rw[HX.out];simp⟩
 have HW:=hid (aD HY.out (aI b0 none))
 clear Al HS1 b0 HI HCK2 HFO2 HLK HX HY
 go_wp2
 go_ret
 exact⟨aE HNO.out.symm,HW.out⟩):p:=h
theorem M937{p q:Prop}(k:q)(h:Kx q->p:=by
 intro kQ
 refine ta 3 ?_
 refine ta 4 ?_
 try simp only[nrm]
 refine ta 5 ?_
 refine ta 6 ?_
 refine ta 7 ?_
 try simp only[nrm]
 exact kQ.o):p:=h ⟨k⟩
theorem M991{p q:Prop}(k:q)(h:Kx q->p:=by
 intro kQ
 try simp only[nrm]
 refine ta 13 ?_
 refine ta 14 ?_
 refine ta 15 ?_
 try simp only[nrm]
 refine ta 16 ?_
 try simp only[nrm]
 exact kQ.o):p:=h ⟨k⟩
theorem M9100{p q:Prop}(k:q)(h:Kx q->p:=by
 intro kQ
 try simp only[nrm]
 refine sa 14 ?_
 refine sa 15 ?_
 refine sa 16 ?_
 try simp only[nrm]
 exact kQ.o):p:=h ⟨k⟩
theorem M9118{p q:Prop}(k:q)(h:Kx q->p:=by
 intro kQ
 try simp only[nrm]
 refine sa 10 ?_
 refine sa 11 ?_
 refine sa 12 ?_
 try simp only[nrm]
 refine sa 13 ?_
 refine sa 14 ?_
 refine sa 15 ?_
 try simp only[nrm]
 refine sa 16 ?_
 refine sa 17 ?_
 exact kQ.o):p:=h ⟨k⟩
theorem M9162{p q:Prop}(k:q)(h:Kx q->p:=by
 intro kQ
 have p0:=aB (Ab 0 _ rfl) bw
 have p1:=aB (Ab 1 _ rfl) bw
 have p2:=aB (Ab 2 _ rfl) bw
 have p3:=aB (Ab 3 _ rfl) bw
 revert p3;revert p2;revert p1;revert p0
 exact kQ.o):p:=h ⟨k⟩
def aP5 (fs:List Fa):Prop:=∀f ∈ fs,f.name.length<=1048576/\∀q ∈ f.procs,q.name.length<=1048576
def aRk (F:Nat)(T:World->Prop)(ck:Mo->List Fa->Int):Prop:=
 ∀(m:Mo) (fs:List Fa) (vs:List Value) (b:Option Addr) (nf d:Nat) (w:World),T w->aO w m.fl vs->aH m.fl<=1048576->aS w b d 2 (fs.map Fa.fl)->fs.length=nf->aP5 fs →
  Calls Tryz.prog F #[.agg vs.toArray,.slice b nf d] w fun e w'=>e=.returned (.int .i64 (ck m fs))/\w.grownBy w' none
def aRj (F:Nat)(T:World->Prop)(fo:Mo->Fa):Prop:=
 ∀(m:Mo) (vs:List Value) (w:World),T w->aO w m.fl vs->aH m.fl<=1048576 →
  Calls Tryz.prog F #[.agg vs.toArray] w fun e w'=>∃nv pv,e=.returned (.agg #[nv,pv])/\aO w' (fo m).fl [nv,pv]/\w.grownBy w' none
def aN7 (ck:Mo->List Fa->Int)(fo:Mo->Fa)(fs:List Fa)(m:Mo)(i:Nat):Bool:=
 decide (m.name.length=0) || (decide (ck m (fs.take i)=0) && aN3 (fo m) (fs[i]?.getD ⟨[],[]⟩))
def aN6 (ck:Mo->List Fa->Int)(fo:Mo->Fa)(l:List Mo)(fs:List Fa):Bool:=(List.range l.length).all fun i=>aN7 ck fo fs (l[i]?.getD ⟨[],[],[],[]⟩) i
theorem aP2 (a:Option Addr)(n c:Nat)(v1 v2 v3:Value)(w:World)(hn:n<=9223372036854775807):
  Calls Tryz.prog 56 #[.agg #[.slice a n c,v1,v2,v3]] w fun e w'=>e=.returned (.bool ((n:Int) == 0))/\Below w.heap.size w w':=by
 have hb:Below w.heap.size w (w.alloc (.cells #[.slice a n c,v1,v2,v3] 48 (0,0))):=(zD2 _ _).alloc (zB0 _) _
 have q0:=aN w 48 #[.slice a n c,v1,v2,v3] 0 _ rfl;go_enter Tryz.func56,Tryz.ntmps56;exact U303
set_option maxHeartbeats 16000000 in
theorem aQr (T:World->Prop)(hT:∀w w',T w->Below w.heap.size w w'->T w')(ck:Mo->List Fa->Int)(fo:Mo->Fa)(HC:aRk 57 T ck)(HO:aRj 58 T fo)(hfo:∀m,aH m.fl<=1048576->∀p ∈ (fo m).procs,p.kinds.length<=1073741824)
  (l:List Mo) (fs:List Fa) (a:Option Addr) (n c:Nat) (b:Option Addr) (d:Nat) (w:World) (hTw:T w) (h:aS w a c 4 (l.map Mo.fl)) (hn:l.length=n) (hf:aS w b d 2 (fs.map Fa.fl)) (hfl:fs.length=n) (hs:∀m ∈ l,aH m.fl<=1048576) (hfs:aP5 fs):
  Calls Tryz.prog 28 #[.slice a n c,.slice b n d] w fun e w'=>e=.returned (.bool (aN6 ck fo l fs))/\w.grownBy w' none:=by
 have h9:=h.len9;rw[zB2,hn]at h9;have hcd:=hf.cap;rw[zB2,hfl]at hcd
 have hd9:d<=9223372036854775807:=by have:=hf.most;unfold maxLen at this;omega
 have HL:=hid h;have HF:=hid hf;have HN:=hid hn;have HK:=hid hfl;have HS:=hid hs;have HFS:=hid hfs
 have HT:Hid (∀w',w.grownBy w' none->T w'):=fun w' hg=>hT w w' hTw (aA hg)
 clear h hn hf hfl hs hfs hTw hT;go_enter Tryz.func28,Tryz.ntmps28;go_wp2_with fail
 go_loopw [5,6,9] (fun _ _ i wr=>∃j:Nat,j<=n/\i=.int .i64 j/\Hid (∀i,i<j->aN7 ck fo fs (l[i]?.getD ⟨[],[],[],[]⟩) i=true)/\Hid (w.grownBy wr none)) (fun _ _ i _=>n-(intOf i).toNat)
 case atStart=>exact⟨0,zD1 _,rfl,V101,aN0 _ _⟩
 case round=>
  obtain⟨j,hj,rfl,Af,Hg⟩:=hrel;have yw:=Hg.out;have bw:=aA yw
  by_cases Ai:j<n
  .
   obtain⟨x,hx⟩:∃x,l[j]?=some x:=⟨_,zA0 V93⟩
   obtain⟨y,hy⟩:∃y,fs[j]?=some y:=⟨_,zA0 (by rw[HK.out];exact Ai)⟩
   have HX:Hid (aN7 ck fo fs (l[j]?.getD ⟨[],[],[],[]⟩) j=(decide (x.name.length=0) || (decide (ck x (fs.take j)=0) && aN3 (fo x) y))):=by show _=_;rw[hx];unfold aN7;rw[hy];rfl
   have hsx:=HS.out x (zA3 hx);have hkx:=hfo x hsx
   obtain⟨bm,om,ys,rfl,hys,Ab⟩:=aS.cellsAt HL.out (show(l.map Mo.fl)[j]?=some x.fl by rw[zA2,hx];rfl)
   obtain⟨bf,of,zs,rfl,hzs,hcz⟩:=aS.cellsAt HF.out (show(fs.map Fa.fl)[j]?=some y.fl by rw[zA2,hy];rfl)
   have hys':=hys;have hzs':=hzs;obtain⟨s0,_,rfl,⟨a0,c0,rfl,_,hq1,hq2,_⟩,s1,_,rfl,hl1,s2,_,rfl,hl2,s3,_,rfl,hl3,rfl⟩:=hys';obtain⟨a1,c1,rfl,_⟩:=hl1.list;obtain⟨a2,c2,rfl,_⟩:=hl2.list;obtain⟨a3,c3,rfl,_⟩:=hl3.list;obtain⟨t0,_,rfl,⟨i0,j0,rfl,_⟩,t1,_,rfl,hl4,rfl⟩:=hzs';obtain⟨i1,j1,rfl,_⟩:=hl4.list
   have hn0:x.name.length<=9223372036854775807:=by unfold maxLen at hq2;omega
   refine M9162 ?_;intro p0 p1 p2 p3;have r0:=aB (hcz 0 _ rfl) bw;have r1:=aB (hcz 1 _ rfl) bw;rw[zG2]at p0 r0
   have HCK:Hid (∀w2,w.grownBy w2 none->Calls Tryz.prog 57 #[.agg #[.slice a0 x.name.length c0,.slice a1 (bH x.uses).length c1,.slice a2 (x.vars.map Va.fl).length c2,.slice a3 (x.procs.map Pr.fl).length c3],.slice (some ⟨bf,of,none⟩) j d] w2 fun e w'=>e=.returned (.int .i64 (ck x (fs.take j)))/\w2.grownBy w' none):=fun w2 hg=>
    HC x (fs.take j) _ _ j d w2 (HT.out w2 hg) (hys.below (aA hg)) hsx (by have:=(aS.take HF.out j).below (aA hg);rwa [<-List.map_take]at this) (by rw[List.length_take,HK.out];omega) (fun f hf=>HFS.out f (List.mem_of_mem_take hf))
   have HFO:Hid (∀w2,w.grownBy w2 none->Calls Tryz.prog 58 #[.agg #[.slice a0 x.name.length c0,.slice a1 (bH x.uses).length c1,.slice a2 (x.vars.map Va.fl).length c2,.slice a3 (x.procs.map Pr.fl).length c3]] w2 fun e w'=>∃nv pv,e=.returned (.agg #[nv,pv])/\aO w' (fo x).fl [nv,pv]/\w2.grownBy w' none):=fun w2 hg=>HO x _ w2 (HT.out w2 hg) (hys.below (aA hg)) hsx
   have HLK:Hid (∀w2 nv pv,w.grownBy w2 none->aO w2 (fo x).fl [nv,pv]->Calls Tryz.prog 59 #[.agg #[nv,pv],.agg #[.slice i0 y.name.length j0,.slice i1 (y.procs.map Fp.fl).length j1]] w2 fun e w'=>e=.returned (.bool (aN3 (fo x) y))/\w2.grownBy w' none):=fun w2 nv pv hg hr=>aRd (fo x) y _ _ w2 hr (hzs.below (aA hg)) hkx
   clear Ab hcz hx hy hys hzs hl1 hl2 hl3 hl4 hkx hsx hq1 hq2;generalize (bH x.uses).length=n1 at *;generalize (x.vars.map Va.fl).length=n2 at *;generalize (x.procs.map Pr.fl).length=n3 at *;generalize y.name.length=m0 at *;generalize (y.procs.map Fp.fl).length=m1 at *
   obtain⟨n0,hn0'⟩:∃z,z=x.name.length:=⟨_,rfl⟩
   rw[<-hn0']at p0 hn0 HX;have HCK2:=hid HCK.out;rw[<-hn0']at HCK2;have HFO2:=hid HFO.out;rw[<-hn0']at HFO2;clear hn0' HCK HFO;have hjn:(j:Int)<(n:Int):=V6;have hjd:(j:Int)<=(d:Int):=V6;go_upto_region 4 with fail
   have y1:Below wr.heap.size wr (wr.alloc (.cells #[.slice a0 n0 c0,.slice a1 n1 c1,.slice a2 n2 c2,.slice a3 n3 c3] 48 (0,0))):=(zD2 _ _).alloc (zB0 _) _
   have x1:=Blk.new wr 48 [.slice a0 n0 c0,.slice a1 n1 c1,.slice a2 n2 c2,.slice a3 n3 c3];simp only[List.toArray]at x1;have yg1:=aD yw (aI y1 none);replace r0:=aB r0 y1;replace r1:=aB r1 y1;generalize wr.alloc (.cells #[.slice a0 n0 c0,.slice a1 n1 c1,.slice a2 n2 c2,.slice a3 n3 c3] 48 (0,0))=w1 at *;generalize wr.heap.size=gm at x1 ⊢;have HY:=hid yg1
   have HS1:∀{wl:World},Below w1.heap.size w1 wl->(wl.cell? ⟨gm,0,none⟩=some (.slice a0 n0 c0)/\wl.cell? ⟨gm,1,none⟩=some (.slice a1 n1 c1)/\wl.cell? ⟨gm,2,none⟩=some (.slice a2 n2 c2)/\wl.cell? ⟨gm,3,none⟩=some (.slice a3 n3 c3)/\wl.cell? ⟨bf,of+j*2,none⟩=some (.slice i0 m0 j0)/\wl.cell? ⟨bf,of+j*2+1,none⟩=some (.slice i1 m1 j1)):=fun hb=>⟨aB (x1.k 0) hb,aB (x1.k 1) hb,aB (x1.k 2) hb,aB (x1.k 3) hb,aB r0 hb,aB r1 hb⟩
   have Al:=HS1 (wl:=w1.drew) (zD2 _ _).drew
   have b0:Below w1.heap.size w1 w1.drew:=(zD2 _ _).drew
   clear p0 p1 p2 p3 r0 r1 x1 y1 yw bw Hg yg1
   have HI:=fun w2=>aP2 a0 n0 c0 (.slice a1 n1 c1) (.slice a2 n2 c2) (.slice a3 n3 c3) w2 hn0
   generalize hcv:ck x (fs.take j)=cv at HX HCK2;generalize hlk:aN3 (fo x) y=lk at HX HLK;clear hcv hlk
   by_cases hz:n0=0
   .
    have hz1:((n0:Int) == 0)=true:=by rw[hz];rfl
    simp only[hz1]at HI
    replace HX:Hid (aN7 ck fo fs (l[j]?.getD ⟨[],[],[],[]⟩) j=true):=by show _=_;rw[HX.out,zB3 hz];rfl
    clear hz hz1
    refine zK3 (S:=fun wl=>(wl.cell? ⟨gm,0,none⟩=some (.slice a0 n0 c0)/\wl.cell? ⟨gm,1,none⟩=some (.slice a1 n1 c1)/\wl.cell? ⟨gm,2,none⟩=some (.slice a2 n2 c2)/\wl.cell? ⟨gm,3,none⟩=some (.slice a3 n3 c3)/\wl.cell? ⟨bf,of+j*2,none⟩=some (.slice i0 m0 j0)/\wl.cell? ⟨bf,of+j*2+1,none⟩=some (.slice i1 m1 j1))) V90 Al (fun Aa=>?_)
    generalize w1.drew=w2 at *;refine ta 0 ?_;try simp only[nrm]
    refine ra 1 fun K hK=>?_
    go_simp
    (with_reducible refine(HI _).mono ?_)
    rintro e w3 ⟨rfl,hb3⟩;replace b0:=b0.trans (hb3.mono b0.size);replace Al:=HS1 b0;go_wp2_with fail
    refine hK.out _ _ (Al) (fun Aa=>?_)
    clear hK K;try simp only[nrm]
    refine ta 2 ?_;refine ta 3 ?_;try simp only[nrm]
    refine sa 4 ?_;refine sa 5 ?_;refine sa 6 ?_;try simp only[nrm]
    refine sa 7 ?_;refine sa 8 ?_;refine sa 9 ?_;refine M9118 ?_;refine sa 18 ?_;try simp only[nrm]
    refine sa 19 ?_;try simp only[nrm]
    exact U305
   have hz1:((n0:Int) == 0)=false:=beq_eq_false_iff_ne.2 V6
   simp only[hz1]at HI
   replace HX:Hid (aN7 ck fo fs (l[j]?.getD ⟨[],[],[],[]⟩) j=(decide (cv=0) && lk)):=by show _=_;rw[HX.out,zC2 hz];rfl
   clear hz hz1
   by_cases hc:cv=0
   case neg=>
    have hc1:(cv != 0)=true:=by simpa using hc
    replace HX:Hid (aN7 ck fo fs (l[j]?.getD ⟨[],[],[],[]⟩) j=false):=by show _=_;rw[HX.out,zC2 hc];rfl
    clear hc
    refine zK3 (S:=fun wl=>(wl.cell? ⟨gm,0,none⟩=some (.slice a0 n0 c0)/\wl.cell? ⟨gm,1,none⟩=some (.slice a1 n1 c1)/\wl.cell? ⟨gm,2,none⟩=some (.slice a2 n2 c2)/\wl.cell? ⟨gm,3,none⟩=some (.slice a3 n3 c3)/\wl.cell? ⟨bf,of+j*2,none⟩=some (.slice i0 m0 j0)/\wl.cell? ⟨bf,of+j*2+1,none⟩=some (.slice i1 m1 j1))) V90 Al (fun Aa=>?_)
    generalize w1.drew=w2 at *;refine ta 0 ?_;try simp only[nrm]
    refine ra 1 fun K hK=>?_
    go_simp
    (with_reducible refine(HI _).mono ?_)
    rintro e w3 ⟨rfl,hb3⟩;replace b0:=b0.trans (hb3.mono b0.size);replace Al:=HS1 b0;go_wp2_with fail
    refine hK.out _ _ (Al) (fun Aa=>?_)
    clear hK K;try simp only[nrm]
    refine ta 2 ?_;refine M937 ?_
    refine ra 8 fun K hK=>?_
    go_simp
    (with_reducible refine(HCK2.out _ (aD HY.out (aI b0 none))).mono ?_)
    rintro e w4 ⟨rfl,Bg⟩;replace b0:=b0.trans ((aA Bg).mono b0.size);replace Al:=HS1 b0;go_wp2_with fail
    refine hK.out _ _ (Al) (fun Aa=>?_)
    clear hK K;try simp only[nrm]
    refine ta 9 ?_;refine ta 10 ?_;try simp only[nrm]
    refine sa 11 ?_;refine sa 12 ?_;refine sa 13 ?_;refine M9100 ?_;refine sa 17 ?_;refine sa 18 ?_;try simp only[nrm]
    exact U309
   subst hc
   have hc1:((0:Int) != 0)=false:=rfl
   replace HX:Hid (aN7 ck fo fs (l[j]?.getD ⟨[],[],[],[]⟩) j=lk):=by show _=_;rw[HX.out];rfl
   cases lk
   case false=>
    refine zK3 (S:=fun wl=>(wl.cell? ⟨gm,0,none⟩=some (.slice a0 n0 c0)/\wl.cell? ⟨gm,1,none⟩=some (.slice a1 n1 c1)/\wl.cell? ⟨gm,2,none⟩=some (.slice a2 n2 c2)/\wl.cell? ⟨gm,3,none⟩=some (.slice a3 n3 c3)/\wl.cell? ⟨bf,of+j*2,none⟩=some (.slice i0 m0 j0)/\wl.cell? ⟨bf,of+j*2+1,none⟩=some (.slice i1 m1 j1))) V90 Al (fun Aa=>?_)
    generalize w1.drew=w2 at *;refine ta 0 ?_;try simp only[nrm]
    refine ra 1 fun K hK=>?_
    go_simp
    (with_reducible refine(HI _).mono ?_)
    rintro e w3 ⟨rfl,hb3⟩;replace b0:=b0.trans (hb3.mono b0.size);replace Al:=HS1 b0;go_wp2_with fail
    refine hK.out _ _ (Al) (fun Aa=>?_)
    clear hK K;try simp only[nrm]
    refine ta 2 ?_;refine M937 ?_
    refine ra 8 fun K hK=>?_
    go_simp
    (with_reducible refine(HCK2.out _ (aD HY.out (aI b0 none))).mono ?_)
    rintro e w4 ⟨rfl,Bg⟩;replace b0:=b0.trans ((aA Bg).mono b0.size);replace Al:=HS1 b0;go_wp2_with fail
    refine hK.out _ _ (Al) (fun Aa=>?_)
    clear hK K;try simp only[nrm]
    refine ta 9 ?_;refine ta 10 ?_;refine ta 11 ?_;refine M991 ?_
    refine ra 12 fun K hK=>?_
    go_simp
    (with_reducible refine(HFO2.out _ (aD HY.out (aI b0 none))).mono ?_)
    rintro e w5 ⟨nv,pv,rfl,hr5,hg5⟩;replace b0:=b0.trans ((aA hg5).mono b0.size);replace Al:=HS1 b0;go_wp2_with fail
    refine hK.out _ _ (Al) (fun Aa=>?_)
    clear hK K;try simp only[nrm]
    refine ra 17 fun K hK=>?_
    go_simp
    (with_reducible refine(HLK.out _ nv pv (aD HY.out (aI b0 none)) hr5).mono ?_)
    rintro e w6 ⟨rfl,hg6⟩;replace b0:=b0.trans ((aA hg6).mono b0.size);replace Al:=HS1 b0;go_wp2_with fail
    refine hK.out _ _ (Al) (fun Aa=>?_)
    clear hK K;try simp only[nrm]
    refine ta 18 ?_;exact U309
   case true=>
    refine zK3 (S:=fun wl=>(wl.cell? ⟨gm,0,none⟩=some (.slice a0 n0 c0)/\wl.cell? ⟨gm,1,none⟩=some (.slice a1 n1 c1)/\wl.cell? ⟨gm,2,none⟩=some (.slice a2 n2 c2)/\wl.cell? ⟨gm,3,none⟩=some (.slice a3 n3 c3)/\wl.cell? ⟨bf,of+j*2,none⟩=some (.slice i0 m0 j0)/\wl.cell? ⟨bf,of+j*2+1,none⟩=some (.slice i1 m1 j1))) V90 Al (fun Aa=>?_)
    generalize w1.drew=w2 at *;refine ta 0 ?_;try simp only[nrm]
    refine ra 1 fun K hK=>?_
    go_simp
    (with_reducible refine(HI _).mono ?_)
    rintro e w3 ⟨rfl,hb3⟩;replace b0:=b0.trans (hb3.mono b0.size);replace Al:=HS1 b0;go_wp2_with fail
    refine hK.out _ _ (Al) (fun Aa=>?_)
    clear hK K;try simp only[nrm]
    refine ta 2 ?_;refine M937 ?_
    refine ra 8 fun K hK=>?_
    go_simp
    (with_reducible refine(HCK2.out _ (aD HY.out (aI b0 none))).mono ?_)
    rintro e w4 ⟨rfl,Bg⟩;replace b0:=b0.trans ((aA Bg).mono b0.size);replace Al:=HS1 b0;go_wp2_with fail
    refine hK.out _ _ (Al) (fun Aa=>?_)
    clear hK K;try simp only[nrm]
    refine ta 9 ?_;refine ta 10 ?_;refine ta 11 ?_;refine M991 ?_
    refine ra 12 fun K hK=>?_
    go_simp
    (with_reducible refine(HFO2.out _ (aD HY.out (aI b0 none))).mono ?_)
    rintro e w5 ⟨nv,pv,rfl,hr5,hg5⟩;replace b0:=b0.trans ((aA hg5).mono b0.size);replace Al:=HS1 b0;go_wp2_with fail
    refine hK.out _ _ (Al) (fun Aa=>?_)
    clear hK K;try simp only[nrm]
    refine ra 17 fun K hK=>?_
    go_simp
    (with_reducible refine(HLK.out _ nv pv (aD HY.out (aI b0 none)) hr5).mono ?_)
    rintro e w6 ⟨rfl,hg6⟩;replace b0:=b0.trans ((aA hg6).mono b0.size);replace Al:=HS1 b0;go_wp2_with fail
    refine hK.out _ _ (Al) (fun Aa=>?_)
    clear hK K;try simp only[nrm]
    refine ta 18 ?_;refine ta 19 ?_;exact U305
  .
   have hjn:j=n:=V6;subst hjn
   have HTT:Hid (aN6 ck fo l fs=true):=zF3.2 fun i hi=>Af.out i V96
   clear bw Af;go_wp2;go_ret;exact⟨aE HTT.out.symm,yw⟩
end Go.Proofs.YtegkhlkjfeafjaaGreatDoor

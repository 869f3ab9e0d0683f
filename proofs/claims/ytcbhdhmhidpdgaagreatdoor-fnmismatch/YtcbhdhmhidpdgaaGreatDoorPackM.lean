import Derived.Test.YtcbhdhmhidpdgaaGreatDoorPackL
import Derived.WalkKit
import Derived.ProofKit
import Derived.Below
import Derived.OwnWalk
import Derived.Deep.RegionHeld3
import Derived.Deep.Cut
import Derived.Deep.CutRange
import Derived.Deep.QuietTactic
import Derived.BigQuiet
import Derived.OpenShut
namespace Go.Proofs.YtcbhdhmhidpdgaaGreatDoor
open Go.RowKit
set_option linter.unusedVariables false
set_option linter.unusedSimpArgs false
set_option maxRecDepth 100000
theorem QA40{p:Prop}(h:p:=by
 go_wp2
 go_ret
 exact⟨_,_,_,_,rfl,by omega,Qk⟩):p:=h
theorem M939{p q:Prop}(k:q)(h:Kx q->p:=by
 intro kQ
 have My:=Hq.1.lt
 have hc5:=Cur.kept (show Cur ((w3.alloc (.cells #[] 5)).drew) g from Gj.alloc _) Az (fun k Cg=>by have h1:=Option.some.inj Cg;simp at h1;omega)
 have Ut:=hc5.kept Bt (fun k Cg=>by have:=(My k Cg).1;omega)
 have Ui:=cK (w1:=(w3.alloc (.cells #[] 5)).drew) (qR (cK Hh (World.grownBy_alloc w3 _ none) A33)) Az (fun k Cg=>by have h1:=Option.some.inj Cg;simp at h1;omega)
 have Uh:=cK Ui Bt (fun k Cg=>(My k Cg).1)
 obtain⟨a',c',hv,Qk⟩:=Iu.madeD ⟨Ut,Uh⟩
 revert Qk;revert hv;revert c';revert a';revert Uh;revert Ui;revert Ut;revert hc5;revert My
 exact kQ.o):p:=h ⟨k⟩
set_option maxRecDepth 100000 in
set_option maxHeartbeats 4000000 in
theorem aA4 (g:Nat)(a:Option Addr)(n c:Nat)(l:List Int)(w:World)(h:Cur w g)(hr:aV w a n l)(Ek:a=none->c=0)(hn:n<=100000):
  Calls Tryz.prog 118 #[.pointer (some ⟨g,0,none⟩),.slice a n c] w fun e w'=>∃a' n' c' l',e=.returned (.slice a' n' c')/\n'<=n+1/\aQk w w' g a' n' c' l':=by
 have Fb:=h.lt;have hE:=lP w;have hBE:=gV w;have hrE:=hr.below hBE;have hcE:Cur (w.alloc (.cells #[] 5)) g:=h.alloc _;clear hr h;go_enter Tryz.func118,Tryz.ntmps118;go_wp2_with (at_builtin;refine cC rfl _ _ rfl w.heap.size _ 0 [] rfl hE a n c l rfl hrE Ek A0 A8 ?_);intro v1 w1 ho1 hg1;have hkE:=hE.1.lt;have Gk:=hcE.kept hg1 (fun k hk=>by have:=(hkE k hk).1;omega);have Uj:w.grownBy w1 (some g):=cK (cK (World.grownBy.refl w (some g)) (World.grownBy_alloc w _ none) A33) hg1 (fun k hk=>(hkE k hk).1);have Hr:Own w1 w.heap.size v1 n l:=by simpa using ho1
 have Xu:=Uj.size;clear hE hBE hrE hcE Ek hg1 ho1 hkE;have Of:=Hr.1.lt;by_cases hn0:n=0
 .
  subst hn0;obtain⟨a1,c1,hv,_⟩:=Hr.shape;subst hv;go_wp2_with fail;refine(vE g _ Gk).mono ?_;rintro e w2 ⟨x,rfl,Fj,Fi,Dl,Cj⟩;have Mu:=Hr.keptBy Cj (fun k Cg e=>by have h1:=(Of k Cg).1;cases e;omega);have Gi:=aC Uj Cj;have De:=Gi.size;clear Hr Gk Cj Uj;go_wp2_with (at_builtin;refine cC rfl _ _ rfl w.heap.size _ 0 l rfl (Mu.alloc _) _ 1 1 _ rfl (oO _ _ A0 A0) (by intro hh;cases hh) A0 A10 ?_);intro v3 w3 Gf Bm;have Gj:=(Dl.alloc _).kept Bm (fun k Cg=>by have:=(Of k Cg).1;omega);have Af:=cK (cK Gi (World.grownBy_alloc w2 _ none) A33) Bm (fun k Cg=>(Of k Cg).1);obtain⟨a',c',hv,Qk⟩:=Gf.madeD ⟨Gj,Af⟩;subst hv;clear Bm Gi Dl Mu Of Gf Gj Af;exact QA40
 .
  have hq:∃q c1,v1=.slice (some ⟨q,0,none⟩) n c1/\n<=c1/\c1<=maxLen:=by
   rcases Hr.1.2 with⟨e,e2⟩|⟨q,cap,cur,e,_,_,h1,h2,_⟩
   .
    omega
   .
    exact⟨q,cap,e,h1,h2⟩
  obtain⟨q,c1,hv,hq1,Ta⟩:=hq;subst hv;have hqb:=(Of q rfl).1;clear Of;have It:∀k,(Value.slice (some ⟨q,0,none⟩) n c1).ownBlock=some k->k=q:=by
   intro k hk;have:some q=some k:=hk;exact(Option.some.inj this).symm
  have hnz:((n:Int) == 0)=false:=by simp;omega
  unfold maxLen at Ta;go_wp2_with fail;refine(aAw g _ _ Gk A0).mono ?_;rintro e w2 ⟨x,rfl,Fj,Fi,_,Dl,Cj⟩;replace Fi:x<n:=Fi A0;obtain⟨i,rfl⟩:=Int.eq_ofNat_of_zero_le Fj;have Mu:=Hr.keptBy Cj (fun k Cg e=>qQ It hqb Fb k Cg e);have Gi:=aC Uj Cj;clear Hr Gk Cj Uj;go_wp2_with fail;refine(aAw g _ _ Dl A0).mono ?_;rintro e w3 ⟨y,rfl,hy0,We,_,Gj,Cr⟩;replace We:y<5:=We A0;have Gf:=Mu.keptBy Cr (fun k Cg e=>qQ It hqb Fb k Cg e);have Hh:=aC Gi Cr;have Mr:=Hh.size;clear Mu Dl Cr Gi;have Au:=Gf.row;have hbyi:=kD Au.2.1 i;have As:w3.cell? ⟨q,i,none⟩=some (.int .u8 (l[i]?.getD 0)):=by
   obtain⟨b,off,e,hc⟩:=Au.2.2 A0;simp only[zG2,Addr.mk.injEq,and_true]at e;obtain⟨rfl,rfl⟩:=e;simpa using hc i A0
  have Uo:=Gf.1.frozenAt i;have hy:y=0\/y=1\/y=2\/y=3\/y=4:=A0;rcases hy with rfl|rfl|rfl|rfl|rfl
  .
   obtain⟨a',c',hv,Qk⟩:=(Gf.cut (i:=i) A0).madeD ⟨Gj,Hh⟩;simp only[Value.slice.injEq,true_and]at hv;obtain⟨rfl,rfl⟩:=hv;clear Gf Au As Uo;exact QA40
  .
   clear As Uo Au;go_wp2_with fail;refine(vE g _ Gj).mono ?_;rintro e w4 ⟨x,rfl,hx0',hx1',Ti,Kk⟩;have Hq:=Gf.keptBy Kk (fun k Cg e=>qQ It hqb Fb k Cg e);have Jy:=aC Hh Kk;have Mq:=Jy.size;clear Gf Gj Kk Hh;go_wp2_with (at_builtin;refine cC rfl _ _ rfl w.heap.size _ n l rfl (Hq.alloc _) _ 1 1 _ rfl (oO _ _ A0 A0) (by intro hh;cases hh) A0 A10 ?_);intro v3 w5 Iu Az;have hc5:=(Ti.alloc _).kept Az (fun k Cg=>by have h1:=It k Cg;omega);have Bt:=cK (cK Jy (World.grownBy_alloc w4 _ none) A33) Az (fun k Cg=>by have h1:=It k Cg;omega);obtain⟨a',c',hv,Qk⟩:=Iu.madeD ⟨hc5,Bt⟩;subst hv;clear Az Jy Ti Hq Iu hc5 Bt;exact QA40
  .
   go_wp2_with fail;refine(vE g _ Gj).mono ?_;rintro e w4 ⟨x,rfl,hx0',hx1',Ti,Kk⟩;have Hq:=Gf.keptBy Kk (fun k Cg e=>qQ It hqb Fb k Cg e);have Jy:=aC Hh Kk;have Nb:w4.cell? ⟨q,i,none⟩=some (.int .u8 (l[i]?.getD 0)):=Kk.cell As A10;have hfro4:=Hq.1.frozenAt i;obtain⟨Iu,Bt⟩:=Hq.storedB i x hx0' hx1';have Ut:=Ti.kept Bt (fun k Cg=>by have h1:=Option.some.inj Cg;omega);have Dx:=cK Jy Bt (fun k Cg=>by have h1:=Option.some.inj Cg;omega);obtain⟨a',c',hv,Qk⟩:=Iu.madeD ⟨Ut,Dx⟩;simp only[Value.slice.injEq,true_and]at hv;obtain⟨rfl,rfl⟩:=hv;clear Gf Gj Kk Hh Au As Uo Hq Iu Bt Ut Dx Jy Ti;exact QA40
  .
   clear Uo;have hE3:Own (w3.alloc (.cells #[] 5)) w.heap.size (.slice (some ⟨w3.heap.size,0,none⟩) 0 0) 0 []:=(lP w3).mono Mr;have hR1:aV (w3.alloc (.cells #[] 5)) (some ⟨q,0,none⟩) i (l.take i):=(Gf.cut (i:=i) A0).row.below (gV w3);have hic:i<=c1:=A0;have hin1:i+1<=n:=A0;have hin0:(0:Int)<=(i:Int)+1:=A0;have Wk:(i:Int)<=(i:Int)+1:=A0;have hin2:(i:Int)+1<=(n:Int):=A0;have hwr:IntKind.i64.wrap ((i:Int)+1)=(i:Int)+1:=by rw[IntKind.wrap_i64];omega
   have Co:q<w3.heap.size:=zI2 w3 _ As;have hR2:aV (w3.alloc (.cells #[] 5)) (some ⟨q,0+(i+1),none⟩) (n-(i+1)) (l.drop (i+1)):=(Au.tail (lo:=i+1) A0).below (gV w3);rw[zJ0]at hR2;clear As;by_cases Hk:c1=i+1
   .
    have Ae:n=i+1:=A0;subst Ae;subst Hk;have hZ:∀wx:World,aV wx (some ⟨q,0,none⟩) (i+1-(i+1)) []:=fun wx=>by rw[Nat.sub_self];exact aV.empty _
    have HZ:=hid hZ;clear hZ;go_wp2_with fail;go_region_law (first
     | (refine hH rfl (.tmp 59) (.tmp 62) rfl w.heap.size _ 0 [] rfl (by exact hE3) ⟨q,0,none⟩ i _ (l.take i) rfl (by exact hR1) A0 A10 ?_;intro v5 w5 Hq Az)
     | (refine hH rfl (.tmp 63) (.tmp 67) rfl w.heap.size _ (0+i) ([]++l.take i) rfl (by exact Hq) ⟨q,0,none⟩ _ _ [] rfl (by first|exact HZ.out _|exact aV.empty _) A0 (by have:=Az.size;simp at this;omega) ?_;intro v6 w6 Iu Bt))
    all_goals
     refine M939 ?_;intro My hc5 Ut Ui Uh a' c' hv Qk;subst hv;clear Gf Au hE3 hR1 hR2 HZ Hq Iu Az Bt hc5 Ut Ui Uh My Hh Gj;exact QA40
   .
    have hcc':¬c1=((i:Int)+1).toNat:=A0;go_wp2_with fail;go_region_law (first
     | (refine hH rfl (.tmp 59) (.tmp 62) rfl w.heap.size _ 0 [] rfl (by exact hE3) ⟨q,0,none⟩ i c1 (l.take i) rfl (by exact hR1) A0 A10 ?_;intro v5 w5 Hq Az;have hR5:=aV.grown (show aV ((w3.alloc (.cells #[] 5)).drew) _ _ _ from hR2) Az (fun b off e e2=>aNw e e2 Co))
     | (refine hH rfl (.tmp 63) (.tmp 67) rfl w.heap.size _ (0+i) ([]++l.take i) rfl (by exact Hq) ⟨q,i+1,none⟩ (n-(i+1)) _ (l.drop (i+1)) rfl (by exact hR5) A0 (by have:=Az.size;simp at this;omega) ?_;intro v6 w6 Iu Bt))
    all_goals
     refine M939 ?_;intro My hc5 Ut Ui Uh a' c' hv Qk;subst hv;clear Gf Au hE3 hR1 hR2 hR5 Hq Iu Az Bt hc5 Ut Ui Uh My Hh Gj;exact QA40
  .
   have Nb:Hid (∀w4:World,w3.grownBy w4 (some g)->w4.cell? ⟨q,i,none⟩=some (.int .u8 (l[i]?.getD 0))/\w4.frozen? ⟨q,i,none⟩=false):=by
    intro w4 Kk;exact⟨Kk.cell As A10,(Gf.keptBy Kk (fun k Cg e=>qQ It hqb Fb k Cg e)).1.frozenAt i⟩
   have Ad:(i:Int)<(n:Int):=A0;go_wp2_with fail;go_region_with (go_at_call 29;refine(aAw g _ _ (by exact Gj) A0).mono ?_;rintro e w4 ⟨z,rfl,Dd,Db,_,Kk⟩;have Wp:=uN Kk.2;obtain⟨Wi,hf4⟩:=Nb.out w4 Wp;replace Db:z<8:=Db A0);all_goals
    obtain⟨X,hX⟩:=zx (bits BinOp.xor IntKind.u8 (l[i]?.getD 0) (IntKind.u8.wrap (2 ^ z.toNat)));have hXb:0<=X/\X<=255:=by rw[hX];exact aMy _ _
    rw[<-hX];have Hq:=Gf.keptBy Wp (fun k Cg e=>qQ It hqb Fb k Cg e);have Jy:=aC Hh Wp;obtain⟨Iu,Bt⟩:=Hq.storedB i X hXb.1 hXb.2;have Ut:=Kk.1.kept Bt (fun k Cg=>by have h1:=Option.some.inj Cg;omega);have Dx:=cK Jy Bt (fun k Cg=>by have h1:=Option.some.inj Cg;omega);obtain⟨a',c',hv,Qk⟩:=Iu.madeD ⟨Ut,Dx⟩;simp only[Value.slice.injEq,true_and]at hv;obtain⟨rfl,rfl⟩:=hv;clear Gf Gj Kk Hh Au As Uo Hq Iu Bt Ut Dx Jy Wp Wi hf4 hX Nb;exact QA40
section
theorem A70{p:Prop}(h:p:=by rw[h.1];exact hk):p:=h
theorem QA39{p:Prop}(h:p:=by
 refine⟨h.1,fun hn=>?_⟩
 obtain⟨b,off,ha,hc⟩:=h.2 hn
 refine⟨b,off,ha,fun k v hv=>?_⟩
 have:=hc k v hv
 rw[hb.cell (zI2 w _ this)];exact this):p:=h
variable{g off:Nat}{w w':World}
structure In6 where
 o:Int
 a:Int
 b:Int
 c:Int
 n:Int
 m:Int
def In6.vals (x:In6):List Value:=[.int .i64 x.o,.int .i64 x.a,.int .i64 x.b,.int .i64 x.c,.int .i64 x.n,.int .i64 x.m]
def gP:List In6->List Value
 | []=>[]| x :: l=>x.vals++gP l
theorem aEi (l:List In6):(gP l).length=l.length*6:=by
 induction l with
 | nil=>rfl| cons x l ih=>simp[gP,In6.vals,ih];omega
theorem aHz (l:List In6)(k i:Nat)(hi:i<6)(x:In6)(hk:l[k]?=some x):(gP l)[k*6+i]?=x.vals[i]?:=by
 induction l generalizing k with
 | nil=>simp at hk| cons y l ih=>
  cases k with
  | zero=>
   simp only[List.getElem?_cons_zero,zG2]at hk;subst hk;rw[gP,Nat.zero_mul,zJ0,List.getElem?_append_left (by simpa [In6.vals] using hi)]
  | succ k=>
   rw[List.getElem?_cons_succ]at hk;have e:(k+1)*6+i=y.vals.length+(k*6+i):=by simp[In6.vals];omega
   rw[gP,e,List.getElem?_append_right A0,Nat.add_sub_cancel_left];exact ih k hk
theorem aEh (l:List In6)(k:Nat)(x:In6)(hk:k<l.length):
  ((((((gP l).set (k*6) (.int .i64 x.o)).set (k*6+1) (.int .i64 x.a)).set (k*6+2) (.int .i64 x.b)).set (k*6+3) (.int .i64 x.c)).set (k*6+4) (.int .i64 x.n)).set (k*6+5) (.int .i64 x.m)=gP (l.set k x):=by
 induction l generalizing k with
 | nil=>simp at hk| cons y l ih=>
  cases k with
  | zero=>simp[gP,In6.vals]| succ k=>
   have e':∀i v (m:List Value),((y.vals++m).set ((k+1)*6+i) v)=y.vals++m.set (k*6+i) v:=by
    intro i v m;have e1:(k+1)*6+i=y.vals.length+(k*6+i):=by simp[In6.vals];omega
    rw[e1,List.set_append_right _ _ A0,Nat.add_sub_cancel_left]
   have e0:∀v (m:List Value),((y.vals++m).set ((k+1)*6) v)=y.vals++m.set (k*6) v:=fun v m=>e' 0 v m;rw[gP,e0,e',e',e',e',e',ih k (by simpa using hk)];rfl
def aA0 (w:World)(a:Option Addr)(n:Nat)(l:List In6):Prop:=
 l.length=n/\(0<n->∃b off,a=some ⟨b,off,none⟩/\∀k v,(gP l)[k]?=some v->w.cell? ⟨b,off+k,none⟩=some v)
theorem aA0.below{a:Option Addr}{n:Nat}{l:List In6}(h:aA0 w a n l)(hb:Below w.heap.size w w'):aA0 w' a n l:=by
 exact QA39
theorem aKp{b k:Nat}{l:List In6}(hc:∀k v,(gP l)[k]?=some v->w.cell? ⟨b,off+k,none⟩=some v){x:In6}(hk:l[k]?=some x):
  w.cell? ⟨b,off+k*6,none⟩=some (.int .i64 x.o)/\w.cell? ⟨b,off+k*6+1,none⟩=some (.int .i64 x.a)/\w.cell? ⟨b,off+k*6+2,none⟩=some (.int .i64 x.b)/\w.cell? ⟨b,off+k*6+3,none⟩=some (.int .i64 x.c)/\w.cell? ⟨b,off+k*6+4,none⟩=some (.int .i64 x.n)/\w.cell? ⟨b,off+k*6+5,none⟩=some (.int .i64 x.m):=by
 have h:∀i,i<6->∀v,x.vals[i]?=some v->w.cell? ⟨b,off+k*6+i,none⟩=some v:=by
  intro i hi v hv;rw[Nat.add_assoc];exact hc _ _ ((aHz l k i hi x hk).trans hv)
 exact⟨h 0 A0 _ rfl,h 1 A0 _ rfl,h 2 A0 _ rfl,h 3 A0 _ rfl,h 4 A0 _ rfl,h 5 A0 _ rfl⟩
theorem aA0.el{b n:Nat}{l:List In6}(h:aA0 w (some ⟨b,off,none⟩) n l){k:Nat}(hk:k<n):∃x,l[k]?=some x/\w.cell? ⟨b,off+k*6,none⟩=some (.int .i64 x.o)/\w.cell? ⟨b,off+k*6+1,none⟩=some (.int .i64 x.a)/\w.cell? ⟨b,off+k*6+2,none⟩=some (.int .i64 x.b)/\w.cell? ⟨b,off+k*6+3,none⟩=some (.int .i64 x.c)/\w.cell? ⟨b,off+k*6+4,none⟩=some (.int .i64 x.n)/\w.cell? ⟨b,off+k*6+5,none⟩=some (.int .i64 x.m):=by
 obtain⟨b',Kw,e,hc⟩:=h.2 A0;simp only[zG2,Addr.mk.injEq,and_true]at e;obtain⟨rfl,rfl⟩:=e;exact⟨_,zA0 A70,aKp hc (zA0 A70)⟩
def IB (w:World)(g:Nat)(l:List In6):Prop:=w.heap[g]?=some (.cells (gP l).toArray 150 (0,0))
theorem IB.row{n:Nat}{l:List In6}(h:IB w g l)(hn:l.length=n):aA0 w (some ⟨g,0,none⟩) n l:=
 ⟨hn,fun _=>⟨g,0,rfl,fun k v hv=>by rw[cell_of_row w g (0+k) _ _ (0,0) h];simpa using hv⟩⟩
theorem IB.lt{l:List In6}(h:IB w g l):g<w.heap.size:=(zI3.1 h).1
theorem IB.below{B:Nat}{l:List In6}(h:IB w g l)(hb:Below B w w')(hg:g<B):IB w' g l:=(hb.block g hg).trans h
theorem aM7 (w:World)(g i:Nat)(cs:List Value)(v:Value)(h:w.heap[g]?=some (.cells cs.toArray 150 (0,0))):(w.setCell ⟨g,i,none⟩ v).heap[g]?=some (.cells (cs.set i v).toArray 150 (0,0)):=by
 rw[heap_setCell_same w g i _ _ _ h];simp
theorem IB.set {w:World}{g k:Nat}{l:List In6}(h:IB w g l)(x:In6)(hk:k<l.length):
  IB ((((((w.setCell ⟨g,k*6,none⟩ (.int .i64 x.o)).setCell ⟨g,k*6+1,none⟩ (.int .i64 x.a)).setCell ⟨g,k*6+2,none⟩ (.int .i64 x.b)).setCell ⟨g,k*6+3,none⟩ (.int .i64 x.c)).setCell ⟨g,k*6+4,none⟩ (.int .i64 x.n)).setCell ⟨g,k*6+5,none⟩ (.int .i64 x.m)) g (l.set k x):=by
 unfold IB;rw[<-aEh l k x hk];exact aM7 _ _ _ _ _ (aM7 _ _ _ _ _ (aM7 _ _ _ _ _ (aM7 _ _ _ _ _ (aM7 _ _ _ _ _ (aM7 _ _ _ _ _ h)))))
theorem aHm:(Tryz.prog.info? 150).map (fun i=>(i.zero,i.size,i.bytes))=some (some (.agg #[.int .i64 0,.int .i64 0,.int .i64 0,.int .i64 0,.int .i64 0,.int .i64 0]),6,48):=by kernel_rfl
structure But (w w':World) (g:Nat):Prop where
 below:Below g w w'
 rest:∀k,k<w.heap.size->k ≠ g->w'.heap[k]?=w.heap[k]?
theorem But.refl (w:World)(g:Nat):But w w g:=⟨zD2 _ _,fun _ _ _=>rfl⟩
theorem But.trans {w w1 w2:World}{g:Nat}(h1:But w w1 g)(h2:But w1 w2 g):But w w2 g:=
 ⟨h1.below.trans h2.below,fun k hk Ae=>(h2.rest k (Nat.lt_of_lt_of_le hk h1.below.size) Ae).trans (h1.rest k hk Ae)⟩
theorem But.set{w1:World}(h:But w w1 g)(i:Nat)(v:Value):But w (w1.setCell ⟨g,i,none⟩ v) g:=
 ⟨h.below.setCell (zB0 _) _,fun k hk Ae=>(heap_setCell_other w1 ⟨g,i,none⟩ k v Ae).trans (h.rest k hk Ae)⟩
end
def aQs (n:Int):List Int:=[n % 256,n % 4294967296 / 256 % 256,n % 4294967296 / 65536 % 256,n % 4294967296 / 16777216]
def aS7 (x:In6):List Int:=[x.o % 256,x.a % 256,x.b % 256,x.c % 256]++(aQs x.n++aQs x.m)
theorem zZ (w:World)(x0 x1 x2 x3:Int)(h0:0<=x0/\x0<=255)(h1:0<=x1/\x1<=255)(h2:0<=x2/\x2<=255)(h3:0<=x3/\x3<=255):aV (w.alloc (.cells #[.int .u8 x0,.int .u8 x1,.int .u8 x2,.int .u8 x3] 5)) (some ⟨w.heap.size,0,none⟩) 4 [x0,x1,x2,x3]:=by
 refine⟨rfl, ?_,fun _=>⟨w.heap.size,0,rfl,fun i hi=>?_⟩⟩
 .
  intro x hx;simp only[zG3,List.not_mem_nil,or_false]at hx;rcases hx with rfl|rfl|rfl|rfl <;> assumption
 .
  have:i=0\/i=1\/i=2\/i=3:=A0;rcases this with rfl|rfl|rfl|rfl <;> simp
theorem aBz (n:Int):(0<=n % 256/\n % 256<=255)/\(0<=n % 4294967296 / 256 % 256/\n % 4294967296 / 256 % 256<=255)/\(0<=n % 4294967296 / 65536 % 256/\n % 4294967296 / 65536 % 256<=255)/\(0<=n % 4294967296 / 16777216/\n % 4294967296 / 16777216<=255):=A0
set_option maxHeartbeats 4000000 in
theorem aPr (base:Nat)(v:Value)(n:Nat)(l:List Int)(m:Int)(w wx:World)(h:Own w base v n l)(hb:Below base wx w)(hB:base<=w.heap.size)(hn:n<=1073741824):
  Calls Tryz.prog 114 #[v,.int .i64 m] w fun e w'=>∃v',e=.returned v'/\Own w' base v' (n+4) (l++aQs m)/\Below base wx w'/\base<=w'.heap.size:=by
 obtain⟨b0,b1,b2,b3⟩:=aBz m;have HO:=hid h;have HB:=hid hb;clear h hb;go_enter Tryz.func114,Tryz.ntmps114;go_wp2_with (at_builtin;refine cC rfl _ _ rfl base _ n l rfl (HO.out.alloc _) _ 4 4 _ rfl (zZ _ _ _ _ _ b0 b1 b2 b3) (by intro hh;cases hh) A0 A10 ?_);intro v2 w2 Hr hg2;have hb2:=(HO.out.alloc _).grown hg2 (HB.out.alloc hB _) A10;have De:=hg2.size;simp at De;clear hg2;go_wp2;go_ret;exact⟨_,rfl,Hr,hb2,by omega⟩
theorem A5{p:Prop}(h:p:=by kernel_rfl):p:=h
def aCd (l:List In6):List Int:=l.flatMap aS7
theorem aEx {l:List In6}{k:Nat}{x:In6}(h:l[k]?=some x):aCd (l.take (k+1))=aCd (l.take k)++aS7 x:=by
 obtain⟨hk,rfl⟩:=zC1.1 h;unfold aCd;rw[zF1 hk,List.flatMap_append];simp only[List.flatMap_cons,List.flatMap_nil,List.append_nil]
theorem aA3 {w:World}{o:Oper}{a:Act}{K:Act->World->Prop}{Q:Exit->Act->World->Prop}(s x:Operand)
  (ho:o.op=.call { callee:=.builtin .append,args:=#[s,x],argTypes:=#[22,22] })
  (base:Nat) (v:Value) (n:Nat) (l:List Int) (hs:a.eval s=v) (Aj:Own w base v n l)
  (ad:Addr) (m c:Nat) (l2:List Int) (hx:a.eval x=.slice (some ad) m c) (hr:aV w (some ad) m l2)
  (Bg:n+m<=1099511627776) (Bw:base<=w.heap.size)
  (h:∀v' w',Own w' base v' (n+m) (l++l2)->w.grownBy w' v.ownBlock->K (a.put o.dst v') w'):Oper.wp Tryz.prog o a w K Q:=by
 refine M955 ?_;intro i0 hi Dd Db Cz Bv;refine wp_append_own w s x 22 ho base 5 i0 (.int .u8 0) 1 1 Tryz.underlying22 hi Dd Db Cz rfl A6 v n _ hs Aj.1 ad m c (l2.map (Value.int .u8)) hx (by simp[hr.1]) ?_ (ints_oneCell _ _) A11 A0 Bw ?_
 .
  exact QA24
 .
  exact QA72
theorem aFz (x:Int):0<=IntKind.u8.wrap x/\IntKind.u8.wrap x<=255:=by rw[IntKind.wrap_u8];omega
theorem Own.drew {w:World}{base:Nat}{v:Value}{n:Nat}{l:List Int}(h:Own w base v n l):Own w.drew base v n l:=h
theorem aDd (w:World)(base:Nat):Own w base (.slice none 0 0) 0 []:=⟨⟨rfl,.inl ⟨rfl,rfl⟩⟩,by simp⟩
theorem aGq {w:World}{base:Nat}{v:Value}{n m:Nat}{l k:List Int}(h:Own w base v n l)(e:n=m)(e2:l=k):Own w base v m k:=by subst e;subst e2;exact h
set_option maxHeartbeats 8000000 in
theorem aP6 (b off n c:Nat)(l:List In6)(w:World)(h:aA0 w (some ⟨b,off,none⟩) n l)(hp:0<n)(hn:n<=1000000):
  Calls Tryz.prog 57 #[.slice (some ⟨b,off,none⟩) n c] w fun e w'=>∃v,e=.returned v/\Own w' w.heap.size v (12*n) (aCd l)/\Below w.heap.size w w':=by
 have Hl:Hid (l.length=n):=h.1;have HI:Hid (aA0 w (some ⟨b,off,none⟩) n l):=h;have Ck:b<w.heap.size:=by
  obtain⟨x,hx,p0,_⟩:=h.el hp;exact zI2 w _ p0
 clear h;go_enter Tryz.func57,Tryz.ntmps57;go_wp2_with fail;go_loopw [3,4] (fun out i wr=>∃k:Nat,k<=n/\i=.int .i64 k/\Hid (Own wr w.heap.size out (12*k) (aCd (l.take k)))/\Hid (Below w.heap.size w wr)) (fun _ i _=>n-(intOf i).toNat)
 case atStart=>exact⟨0,zD1 _,rfl,aDd _ _,zD2 _ _⟩
 case round=>
  obtain⟨k,hk,rfl,ho,hb⟩:=hrel;by_cases Ad:k<n
  .
   obtain⟨x,hx,p0,p1,p2,p3,p4,p5⟩:=aA0.el (aA0.below (show aA0 w (some ⟨b,off,none⟩) n l from HI.out) hb.out) Ad;have HX:Hid _:=hx;have HS:Hid (∀{wx:World},Below w.heap.size w wx->wx.cell? ⟨b,off+k*6,none⟩=some (.int .i64 x.o)/\wx.cell? ⟨b,off+k*6+1,none⟩=some (.int .i64 x.a)/\wx.cell? ⟨b,off+k*6+2,none⟩=some (.int .i64 x.b)/\wx.cell? ⟨b,off+k*6+3,none⟩=some (.int .i64 x.c)/\wx.cell? ⟨b,off+k*6+4,none⟩=some (.int .i64 x.n)/\wx.cell? ⟨b,off+k*6+5,none⟩=some (.int .i64 x.m)):=by
    intro wx Cb;have e1:∀j,wx.cell? ⟨b,j,none⟩=wr.cell? ⟨b,j,none⟩:=fun j=>(Cb.cell (p:=⟨b,j,none⟩) Ck).trans (hb.out.cell (p:=⟨b,j,none⟩) Ck).symm;simp only[e1];exact⟨p0,p1,p2,p3,p4,p5⟩
   clear hx p0 p1 p2 p3 p4 p5;go_upto_region 5 with fail;have Pz:Hid (Below w.heap.size wr wr.drew):=(zD2 _ _).drew;have HO0:Hid (Own wr.drew w.heap.size u3 (12*k) (aCd (l.take k))):=ho.out;have HW0:Hid (Below w.heap.size w wr.drew):=hb.out.drew;refine zJ3 (S:=fun wx=>wx.cell? ⟨b,off+k*6,none⟩=some (.int .i64 x.o)/\wx.cell? ⟨b,off+k*6+1,none⟩=some (.int .i64 x.a)/\wx.cell? ⟨b,off+k*6+2,none⟩=some (.int .i64 x.b)/\wx.cell? ⟨b,off+k*6+3,none⟩=some (.int .i64 x.c)/\wx.cell? ⟨b,off+k*6+4,none⟩=some (.int .i64 x.n)/\wx.cell? ⟨b,off+k*6+5,none⟩=some (.int .i64 x.m)) A5 (HS.out HW0.out) (fun Aa=>?_);generalize wr.drew=wS at Pz HO0 HW0 Aa ⊢;have hs0:w.heap.size<=wS.heap.size:=HW0.out.size;refine ta 0 ?_;refine ta 1 ?_;refine ta 2 ?_;refine ta 3 ?_;refine ta 4 ?_;refine ta 5 ?_;refine ta 6 ?_;refine ta 7 ?_;refine ta 8 ?_;refine ta 9 ?_;refine ta 10 ?_;refine ta 11 ?_;refine ta 12 ?_;refine ta 13 ?_;refine ta 14 ?_;refine ta 15 ?_;refine ta 16 ?_;refine ta 17 ?_;refine ta 18 ?_;refine ta 19 ?_;refine ta 20 ?_;refine ta 21 ?_;refine ta 22 ?_;refine ta 23 ?_;refine ta 24 ?_;try simp only[nrm]
   refine ra 25 fun K hK=>?_;go_simp;have hr5:=zZ wS (IntKind.u8.wrap x.o) (IntKind.u8.wrap x.a) (IntKind.u8.wrap x.b) (IntKind.u8.wrap x.c) (aFz _) (aFz _) (aFz _) (aFz _);have Hq:=HO0.out.alloc (.cells #[.int .u8 (IntKind.u8.wrap x.o),.int .u8 (IntKind.u8.wrap x.a),.int .u8 (IntKind.u8.wrap x.b),.int .u8 (IntKind.u8.wrap x.c)] 5);have hb5:=Pz.out.alloc hs0 (.cells #[.int .u8 (IntKind.u8.wrap x.o),.int .u8 (IntKind.u8.wrap x.a),.int .u8 (IntKind.u8.wrap x.b),.int .u8 (IntKind.u8.wrap x.c)] 5);have hw5:=HW0.out.alloc hs0 (.cells #[.int .u8 (IntKind.u8.wrap x.o),.int .u8 (IntKind.u8.wrap x.a),.int .u8 (IntKind.u8.wrap x.b),.int .u8 (IntKind.u8.wrap x.c)] 5);generalize wS.alloc (.cells #[.int .u8 (IntKind.u8.wrap x.o),.int .u8 (IntKind.u8.wrap x.a),.int .u8 (IntKind.u8.wrap x.b),.int .u8 (IntKind.u8.wrap x.c)] 5)=w5 at *;generalize wS.heap.size=g5 at *;have HR5:Hid (aV w5 (some ⟨g5,0,none⟩) 4 [IntKind.u8.wrap x.o,IntKind.u8.wrap x.a,IntKind.u8.wrap x.b,IntKind.u8.wrap x.c]):=hr5;have HO5:Hid (Own w5 w.heap.size u3 (12*k) (aCd (l.take k))):=Hq;have Nz:Hid _:=hb5;have HW5:Hid (Below w.heap.size w w5):=hw5;clear hr5 Hq hb5 hw5 HO0 Pz HW0;refine hK.out _ _ (HS.out HW5.out) (fun Aa=>?_);clear hK K;try simp only[nrm]
   refine ra 26 fun K hK=>?_;rw[if_pos A5];refine aA3 _ _ rfl w.heap.size _ (12*k) (aCd (l.take k)) rfl HO5.out _ 4 4 _ rfl HR5.out A0 HW5.out.size ?_;intro v6 w6 Iu Bt;have Wq:=HO5.out.grown Bt Nz.out HW5.out.size;have hw6:=HO5.out.grown Bt HW5.out HW5.out.size;have HO6:Hid (Own w6 w.heap.size v6 (12*k+4) (aCd (l.take k)++[IntKind.u8.wrap x.o,IntKind.u8.wrap x.a,IntKind.u8.wrap x.b,IntKind.u8.wrap x.c])):=Iu;have HB6:Hid (Below w.heap.size wr w6):=Wq;have HW6:Hid (Below w.heap.size w w6):=hw6;clear Iu Bt Wq hw6 HR5 HO5 Nz HW5;refine hK.out _ _ (HS.out HW6.out) (fun Aa=>?_);clear hK K;try simp only[nrm]
   refine ta 27 ?_;try simp only[nrm]
   refine zK0 A5 ?_ _;go_upto_region 6 with fail;have HB7:Hid (Below w.heap.size wr w6.drew):=HB6.out.drew;have HO7:Hid (Own w6.drew w.heap.size v6 (12*k+4) (aCd (l.take k)++[IntKind.u8.wrap x.o,IntKind.u8.wrap x.a,IntKind.u8.wrap x.b,IntKind.u8.wrap x.c])):=HO6.out;have HW7:Hid (Below w.heap.size w w6.drew):=HW6.out.drew;refine zJ3 (S:=fun wx=>wx.cell? ⟨b,off+k*6,none⟩=some (.int .i64 x.o)/\wx.cell? ⟨b,off+k*6+1,none⟩=some (.int .i64 x.a)/\wx.cell? ⟨b,off+k*6+2,none⟩=some (.int .i64 x.b)/\wx.cell? ⟨b,off+k*6+3,none⟩=some (.int .i64 x.c)/\wx.cell? ⟨b,off+k*6+4,none⟩=some (.int .i64 x.n)/\wx.cell? ⟨b,off+k*6+5,none⟩=some (.int .i64 x.m)) A5 (HS.out HW7.out) (fun Aa=>?_);generalize w6.drew=w7 at HB7 HO7 HW7 Aa ⊢;clear HB6 HO6 HW6;refine ta 0 ?_;refine ta 1 ?_;refine ta 2 ?_;refine ta 3 ?_;refine ta 4 ?_;refine ta 5 ?_;refine ta 7 ?_;refine ta 8 ?_;refine ta 9 ?_;refine ta 10 ?_;refine ta 11 ?_;try simp only[nrm]
   refine ra 6 fun K hK=>?_;go_simp
   (with_reducible refine(aPr w.heap.size v6 (12*k+4) _ x.n w7 w HO7.out HW7.out HW7.out.size A0).mono ?_)
   rintro e w8 ⟨v8,rfl,ho8,hw8,hs8⟩;have HO8:Hid (Own w8 w.heap.size v8 (12*k+4+4) ((aCd (l.take k)++[IntKind.u8.wrap x.o,IntKind.u8.wrap x.a,IntKind.u8.wrap x.b,IntKind.u8.wrap x.c])++aQs x.n)):=ho8;have HW8:Hid (Below w.heap.size w w8):=hw8;clear ho8 hw8 HO7 HW7;go_wp2_with fail;refine hK.out _ _ (HS.out HW8.out) (fun Aa=>?_);clear hK K;try simp only[nrm]
   refine ra 12 fun K hK=>?_;go_simp
   (with_reducible refine(aPr w.heap.size v8 (12*k+4+4) _ x.m w8 w HO8.out HW8.out HW8.out.size A0).mono ?_)
   rintro e w9 ⟨v9,rfl,Hp,hw9,Xt⟩;have HO9:Hid (Own w9 w.heap.size v9 (12*(k+1)) (aCd (l.take (k+1)))):=by
    refine aGq Hp A0 ?_;rw[aEx HX.out,aS7];simp only[IntKind.wrap_u8,zD0]
   have HW9:Hid (Below w.heap.size w w9):=hw9;clear Hp hw9 HO8 HW8;go_wp2_with fail;refine hK.out _ _ (HS.out HW9.out) (fun Aa=>?_);clear hK K;try simp only[nrm]
   refine ta 13 ?_;try simp only[nrm]
   refine zK0 A5 ?_ _;go_wp2;go_roundw
   case rel=>exact⟨k+1,by omega,by go_num,HO9,HW9⟩
   case measure=>simp[intOf];omega
  .
   have:k=n:=A0;subst this;go_wp2;go_ret;exact⟨_,rfl,by have:=ho.out;rwa [zD3 (by rw[Hl.out];exact zB0 _)]at this,hb.out⟩
theorem below_drewN {B:Nat}{a w:World}(h:Below B a w)(d:Nat):Below B a (w.drewN d):=⟨h.os,h.tape,h.output,h.size,h.block⟩
def wr (n:Int):Int:=wrap64 (wrap32 n)
def Ops (w:World):Prop:=∀i:Nat,i<=22->w.cell? ⟨3,i*4,none⟩=some (.bool (decide (1<=i)))
theorem Ops.below {w w':World}(h:Ops w)(hb:Below w.heap.size w w'):Ops w':=fun i hi=>by
 have:=h i hi;exact QA55
end Go.Proofs.YtcbhdhmhidpdgaaGreatDoor

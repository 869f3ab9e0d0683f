import Derived.WalkKit
import Derived.ProofKit
import Derived.Below
import Derived.OwnWalk
import Derived.Deep.RegionHeld3
import Derived.Deep.Cut
import Derived.Deep.CutRange
import Derived.Test.YtcbhdhmhidpdgaaGreatWords
import Derived.Deep.QuietTactic
import Derived.BigQuiet
import Derived.OpenShut
import Derived.Test.YtcbhdhmhidpdgaaGreatSpoilLong
import Derived.Test.YtcbhdhmhidpdgaaGreatCpN
namespace Go.Proofs.YtcbhdhmhidpdgaaGreat
open Go.RowKit
set_option linter.unusedVariables false
set_option linter.unusedSimpArgs false
set_option maxRecDepth 100000
section
variable{g off:Nat}{w w':World}
structure In6 where
 o:Int
 a:Int
 b:Int
 c:Int
 n:Int
 m:Int
def In6.vals (x:In6):List Value:=[.int .i64 x.o,.int .i64 x.a,.int .i64 x.b,.int .i64 x.c,.int .i64 x.n,.int .i64 x.m]
def gV:List In6->List Value
 | []=>[]| x :: l=>x.vals++gV l
theorem aE0 (l:List In6):(gV l).length=l.length*6:=by
 induction l with
 | nil=>rfl| cons x l ih=>simp[gV,In6.vals,ih];omega
theorem aIj (l:List In6)(k i:Nat)(hi:i<6)(x:In6)(hk:l[k]?=some x):(gV l)[k*6+i]?=x.vals[i]?:=by
 induction l generalizing k with
 | nil=>simp at hk| cons y l ih=>
  cases k with
  | zero=>
   simp only[List.getElem?_cons_zero,zG2]at hk;subst hk;rw[gV,Nat.zero_mul,zJ1,List.getElem?_append_left (by simpa [In6.vals] using hi)]
  | succ k=>
   rw[List.getElem?_cons_succ]at hk;have e:(k+1)*6+i=y.vals.length+(k*6+i):=by simp[In6.vals];omega
   rw[gV,e,List.getElem?_append_right A0,Nat.add_sub_cancel_left];exact ih k hk
theorem aEz (l:List In6)(k:Nat)(x:In6)(hk:k<l.length):
  ((((((gV l).set (k*6) (.int .i64 x.o)).set (k*6+1) (.int .i64 x.a)).set (k*6+2) (.int .i64 x.b)).set (k*6+3) (.int .i64 x.c)).set (k*6+4) (.int .i64 x.n)).set (k*6+5) (.int .i64 x.m)=gV (l.set k x):=by
 induction l generalizing k with
 | nil=>simp at hk| cons y l ih=>
  cases k with
  | zero=>simp[gV,In6.vals]| succ k=>
   have e':∀i v (m:List Value),((y.vals++m).set ((k+1)*6+i) v)=y.vals++m.set (k*6+i) v:=by
    intro i v m;have e1:(k+1)*6+i=y.vals.length+(k*6+i):=by simp[In6.vals];omega
    rw[e1,List.set_append_right _ _ A0,Nat.add_sub_cancel_left]
   have e0:∀v (m:List Value),((y.vals++m).set ((k+1)*6) v)=y.vals++m.set (k*6) v:=fun v m=>e' 0 v m;rw[gV,e0,e',e',e',e',e',ih k (by simpa using hk)];rfl
def aBc (w:World)(a:Option Addr)(n:Nat)(l:List In6):Prop:=
 l.length=n/\(0<n->∃b off,a=some ⟨b,off,none⟩/\∀k v,(gV l)[k]?=some v->w.cell? ⟨b,off+k,none⟩=some v)
theorem aBc.below{a:Option Addr}{n:Nat}{l:List In6}(h:aBc w a n l)(hb:Below w.heap.size w w'):aBc w' a n l:=by
 exact QA39
theorem aLi{b k:Nat}{l:List In6}(hc:∀k v,(gV l)[k]?=some v->w.cell? ⟨b,off+k,none⟩=some v){x:In6}(hk:l[k]?=some x):
  w.cell? ⟨b,off+k*6,none⟩=some (.int .i64 x.o)/\w.cell? ⟨b,off+k*6+1,none⟩=some (.int .i64 x.a)/\w.cell? ⟨b,off+k*6+2,none⟩=some (.int .i64 x.b)/\w.cell? ⟨b,off+k*6+3,none⟩=some (.int .i64 x.c)/\w.cell? ⟨b,off+k*6+4,none⟩=some (.int .i64 x.n)/\w.cell? ⟨b,off+k*6+5,none⟩=some (.int .i64 x.m):=by
 have h:∀i,i<6->∀v,x.vals[i]?=some v->w.cell? ⟨b,off+k*6+i,none⟩=some v:=by
  intro i hi v hv;rw[Nat.add_assoc];exact hc _ _ ((aIj l k i hi x hk).trans hv)
 exact⟨h 0 A0 _ rfl,h 1 A0 _ rfl,h 2 A0 _ rfl,h 3 A0 _ rfl,h 4 A0 _ rfl,h 5 A0 _ rfl⟩
theorem aBc.el{b n:Nat}{l:List In6}(h:aBc w (some ⟨b,off,none⟩) n l){k:Nat}(hk:k<n):∃x,l[k]?=some x/\w.cell? ⟨b,off+k*6,none⟩=some (.int .i64 x.o)/\w.cell? ⟨b,off+k*6+1,none⟩=some (.int .i64 x.a)/\w.cell? ⟨b,off+k*6+2,none⟩=some (.int .i64 x.b)/\w.cell? ⟨b,off+k*6+3,none⟩=some (.int .i64 x.c)/\w.cell? ⟨b,off+k*6+4,none⟩=some (.int .i64 x.n)/\w.cell? ⟨b,off+k*6+5,none⟩=some (.int .i64 x.m):=by
 obtain⟨b',Lg,e,hc⟩:=h.2 A0;simp only[zG2,Addr.mk.injEq,and_true]at e;obtain⟨rfl,rfl⟩:=e;exact⟨_,zA0 (by rw[h.1];exact hk),aLi hc (zA0 (by rw[h.1];exact hk))⟩
def IB (w:World)(g:Nat)(l:List In6):Prop:=w.heap[g]?=some (.cells (gV l).toArray 126 (0,0))
theorem IB.row{n:Nat}{l:List In6}(h:IB w g l)(hn:l.length=n):aBc w (some ⟨g,0,none⟩) n l:=
 ⟨hn,fun _=>⟨g,0,rfl,fun k v hv=>by rw[cell_of_row w g (0+k) _ _ (0,0) h];simpa using hv⟩⟩
theorem IB.lt{l:List In6}(h:IB w g l):g<w.heap.size:=(zI3.1 h).1
theorem IB.below{B:Nat}{l:List In6}(h:IB w g l)(hb:Below B w w')(hg:g<B):IB w' g l:=(hb.block g hg).trans h
theorem aN4 (w:World)(g i:Nat)(cs:List Value)(v:Value)(h:w.heap[g]?=some (.cells cs.toArray 126 (0,0))):(w.setCell ⟨g,i,none⟩ v).heap[g]?=some (.cells (cs.set i v).toArray 126 (0,0)):=by
 rw[heap_setCell_same w g i _ _ _ h];simp
theorem IB.set {w:World}{g k:Nat}{l:List In6}(h:IB w g l)(x:In6)(hk:k<l.length):
  IB ((((((w.setCell ⟨g,k*6,none⟩ (.int .i64 x.o)).setCell ⟨g,k*6+1,none⟩ (.int .i64 x.a)).setCell ⟨g,k*6+2,none⟩ (.int .i64 x.b)).setCell ⟨g,k*6+3,none⟩ (.int .i64 x.c)).setCell ⟨g,k*6+4,none⟩ (.int .i64 x.n)).setCell ⟨g,k*6+5,none⟩ (.int .i64 x.m)) g (l.set k x):=by
 unfold IB;rw[<-aEz l k x hk];exact aN4 _ _ _ _ _ (aN4 _ _ _ _ _ (aN4 _ _ _ _ _ (aN4 _ _ _ _ _ (aN4 _ _ _ _ _ (aN4 _ _ _ _ _ h)))))
theorem aH4:(Tryz.prog.info? 126).map (fun i=>(i.zero,i.size,i.bytes))=some (some (.agg #[.int .i64 0,.int .i64 0,.int .i64 0,.int .i64 0,.int .i64 0,.int .i64 0]),6,48):=by kernel_rfl
structure But (w w':World) (g:Nat):Prop where
 below:Below g w w'
 rest:∀k,k<w.heap.size->k ≠ g->w'.heap[k]?=w.heap[k]?
theorem But.refl (w:World)(g:Nat):But w w g:=⟨zD2 _ _,fun _ _ _=>rfl⟩
theorem But.trans {w w1 w2:World}{g:Nat}(h1:But w w1 g)(h2:But w1 w2 g):But w w2 g:=
 ⟨h1.below.trans h2.below,fun k hk Ae=>(h2.rest k (Nat.lt_of_lt_of_le hk h1.below.size) Ae).trans (h1.rest k hk Ae)⟩
theorem But.set{w1:World}(h:But w w1 g)(i:Nat)(v:Value):But w (w1.setCell ⟨g,i,none⟩ v) g:=
 ⟨h.below.setCell (zB0 _) _,fun k hk Ae=>(heap_setCell_other w1 ⟨g,i,none⟩ k v Ae).trans (h.rest k hk Ae)⟩
end
def aRr (n:Int):List Int:=[n % 256,n % 4294967296 / 256 % 256,n % 4294967296 / 65536 % 256,n % 4294967296 / 16777216]
def aT9 (x:In6):List Int:=[x.o % 256,x.a % 256,x.b % 256,x.c % 256]++(aRr x.n++aRr x.m)
theorem aAk (w:World)(x0 x1 x2 x3:Int)(h0:0<=x0/\x0<=255)(h1:0<=x1/\x1<=255)(h2:0<=x2/\x2<=255)(h3:0<=x3/\x3<=255):aV (w.alloc (.cells #[.int .u8 x0,.int .u8 x1,.int .u8 x2,.int .u8 x3] 5)) (some ⟨w.heap.size,0,none⟩) 4 [x0,x1,x2,x3]:=by
 refine⟨rfl, ?_,fun _=>⟨w.heap.size,0,rfl,fun i hi=>?_⟩⟩
 .
  intro x hx;simp only[zG3,List.not_mem_nil,or_false]at hx;rcases hx with rfl|rfl|rfl|rfl <;> assumption
 .
  have:i=0\/i=1\/i=2\/i=3:=A0;rcases this with rfl|rfl|rfl|rfl <;> simp
theorem aCa (n:Int):(0<=n % 256/\n % 256<=255)/\(0<=n % 4294967296 / 256 % 256/\n % 4294967296 / 256 % 256<=255)/\(0<=n % 4294967296 / 65536 % 256/\n % 4294967296 / 65536 % 256<=255)/\(0<=n % 4294967296 / 16777216/\n % 4294967296 / 16777216<=255):=A0
set_option maxHeartbeats 4000000 in
theorem aQr (base:Nat)(v:Value)(n:Nat)(l:List Int)(m:Int)(w wx:World)(h:Own w base v n l)(hb:Below base wx w)(hB:base<=w.heap.size)(hn:n<=1073741824):
  Calls Tryz.prog 83 #[v,.int .i64 m] w fun e w'=>∃v',e=.returned v'/\Own w' base v' (n+4) (l++aRr m)/\Below base wx w'/\base<=w'.heap.size:=by
 obtain⟨b0,b1,b2,b3⟩:=aCa m;have HO:=hid h;have HB:=hid hb;clear h hb;go_enter Tryz.func83,Tryz.ntmps83;go_wp2_with (at_builtin;refine cC rfl _ _ rfl base _ n l rfl (HO.out.alloc _) _ 4 4 _ rfl (aAk _ _ _ _ _ b0 b1 b2 b3) (by intro hh;cases hh) A0 A12 ?_);intro v2 w2 Hw hg2;have hb2:=(HO.out.alloc _).grown hg2 (HB.out.alloc hB _) A12;have Df:=hg2.size;simp at Df;clear hg2;go_wp2;go_ret;exact⟨_,rfl,Hw,hb2,by omega⟩
theorem A5{p:Prop}(h:p:=by kernel_rfl):p:=h
def aCp (l:List In6):List Int:=l.flatMap aT9
theorem aFd {l:List In6}{k:Nat}{x:In6}(h:l[k]?=some x):aCp (l.take (k+1))=aCp (l.take k)++aT9 x:=by
 obtain⟨hk,rfl⟩:=zC1.1 h;unfold aCp;rw[zF1 hk,List.flatMap_append];simp only[List.flatMap_cons,List.flatMap_nil,List.append_nil]
theorem aBf {w:World}{o:Oper}{a:Act}{K:Act->World->Prop}{Q:Exit->Act->World->Prop}(s x:Operand)
  (ho:o.op=.call { callee:=.builtin .append,args:=#[s,x],argTypes:=#[22,22] })
  (base:Nat) (v:Value) (n:Nat) (l:List Int) (hs:a.eval s=v) (Ak:Own w base v n l)
  (ad:Addr) (m c:Nat) (l2:List Int) (hx:a.eval x=.slice (some ad) m c) (hr:aV w (some ad) m l2)
  (Bg:n+m<=1099511627776) (Ca:base<=w.heap.size)
  (h:∀v' w',Own w' base v' (n+m) (l++l2)->w.grownBy w' v.ownBlock->K (a.put o.dst v') w'):Oper.wp Tryz.prog o a w K Q:=by
 refine M956 ?_;intro i0 hi Dc De Db Bu;refine wp_append_own w s x 22 ho base 5 i0 (.int .u8 0) 1 1 Tryz.underlying22 hi Dc De Db rfl A6 v n _ hs Ak.1 ad m c (l2.map (Value.int .u8)) hx (by simp[hr.1]) ?_ (ints_oneCell _ _) A13 A0 Ca ?_
 .
  exact QA24
 .
  exact QA73
theorem aGi (x:Int):0<=IntKind.u8.wrap x/\IntKind.u8.wrap x<=255:=by rw[IntKind.wrap_u8];omega
theorem Own.drew {w:World}{base:Nat}{v:Value}{n:Nat}{l:List Int}(h:Own w base v n l):Own w.drew base v n l:=h
theorem aDs (w:World)(base:Nat):Own w base (.slice none 0 0) 0 []:=⟨⟨rfl,.inl ⟨rfl,rfl⟩⟩,by simp⟩
theorem aHa {w:World}{base:Nat}{v:Value}{n m:Nat}{l k:List Int}(h:Own w base v n l)(e:n=m)(e2:l=k):Own w base v m k:=by subst e;subst e2;exact h
set_option maxHeartbeats 8000000 in
theorem aQ5 (b off n c:Nat)(l:List In6)(w:World)(h:aBc w (some ⟨b,off,none⟩) n l)(hp:0<n)(hn:n<=1000000):
  Calls Tryz.prog 50 #[.slice (some ⟨b,off,none⟩) n c] w fun e w'=>∃v,e=.returned v/\Own w' w.heap.size v (12*n) (aCp l)/\Below w.heap.size w w':=by
 have Hl:Hid (l.length=n):=h.1;have HI:Hid (aBc w (some ⟨b,off,none⟩) n l):=h;have Ck:b<w.heap.size:=by
  obtain⟨x,hx,p0,_⟩:=h.el hp;exact zI2 w _ p0
 clear h;go_enter Tryz.func50,Tryz.ntmps50;go_wp2_with fail;go_loopw [3,4] (fun out i wr=>∃k:Nat,k<=n/\i=.int .i64 k/\Hid (Own wr w.heap.size out (12*k) (aCp (l.take k)))/\Hid (Below w.heap.size w wr)) (fun _ i _=>n-(intOf i).toNat)
 case atStart=>exact⟨0,zD1 _,rfl,aDs _ _,zD2 _ _⟩
 case round=>
  obtain⟨k,hk,rfl,ho,hb⟩:=hrel;by_cases Ad:k<n
  .
   obtain⟨x,hx,p0,p1,p2,p3,p4,p5⟩:=aBc.el (aBc.below (show aBc w (some ⟨b,off,none⟩) n l from HI.out) hb.out) Ad;have HX:Hid _:=hx;have HS:Hid (∀{wx:World},Below w.heap.size w wx->wx.cell? ⟨b,off+k*6,none⟩=some (.int .i64 x.o)/\wx.cell? ⟨b,off+k*6+1,none⟩=some (.int .i64 x.a)/\wx.cell? ⟨b,off+k*6+2,none⟩=some (.int .i64 x.b)/\wx.cell? ⟨b,off+k*6+3,none⟩=some (.int .i64 x.c)/\wx.cell? ⟨b,off+k*6+4,none⟩=some (.int .i64 x.n)/\wx.cell? ⟨b,off+k*6+5,none⟩=some (.int .i64 x.m)):=by
    intro wx Ce;have e1:∀j,wx.cell? ⟨b,j,none⟩=wr.cell? ⟨b,j,none⟩:=fun j=>(Ce.cell (p:=⟨b,j,none⟩) Ck).trans (hb.out.cell (p:=⟨b,j,none⟩) Ck).symm;simp only[e1];exact⟨p0,p1,p2,p3,p4,p5⟩
   clear hx p0 p1 p2 p3 p4 p5;go_upto_region 5 with fail;have Qn:Hid (Below w.heap.size wr wr.drew):=(zD2 _ _).drew;have HO0:Hid (Own wr.drew w.heap.size u3 (12*k) (aCp (l.take k))):=ho.out;have HW0:Hid (Below w.heap.size w wr.drew):=hb.out.drew;refine zK0 (S:=fun wx=>wx.cell? ⟨b,off+k*6,none⟩=some (.int .i64 x.o)/\wx.cell? ⟨b,off+k*6+1,none⟩=some (.int .i64 x.a)/\wx.cell? ⟨b,off+k*6+2,none⟩=some (.int .i64 x.b)/\wx.cell? ⟨b,off+k*6+3,none⟩=some (.int .i64 x.c)/\wx.cell? ⟨b,off+k*6+4,none⟩=some (.int .i64 x.n)/\wx.cell? ⟨b,off+k*6+5,none⟩=some (.int .i64 x.m)) A5 (HS.out HW0.out) (fun Aa=>?_);generalize wr.drew=wS at Qn HO0 HW0 Aa ⊢;have hs0:w.heap.size<=wS.heap.size:=HW0.out.size;refine ta 0 ?_;refine ta 1 ?_;refine ta 2 ?_;refine ta 3 ?_;refine ta 4 ?_;refine ta 5 ?_;refine ta 6 ?_;refine ta 7 ?_;refine ta 8 ?_;refine ta 9 ?_;refine ta 10 ?_;refine ta 11 ?_;refine ta 12 ?_;refine ta 13 ?_;refine ta 14 ?_;refine ta 15 ?_;refine ta 16 ?_;refine ta 17 ?_;refine ta 18 ?_;refine ta 19 ?_;refine ta 20 ?_;refine ta 21 ?_;refine ta 22 ?_;refine ta 23 ?_;refine ta 24 ?_;try simp only[nrm]
   refine ra 25 fun K hK=>?_;go_simp;have hr5:=aAk wS (IntKind.u8.wrap x.o) (IntKind.u8.wrap x.a) (IntKind.u8.wrap x.b) (IntKind.u8.wrap x.c) (aGi _) (aGi _) (aGi _) (aGi _);have Hv:=HO0.out.alloc (.cells #[.int .u8 (IntKind.u8.wrap x.o),.int .u8 (IntKind.u8.wrap x.a),.int .u8 (IntKind.u8.wrap x.b),.int .u8 (IntKind.u8.wrap x.c)] 5);have hb5:=Qn.out.alloc hs0 (.cells #[.int .u8 (IntKind.u8.wrap x.o),.int .u8 (IntKind.u8.wrap x.a),.int .u8 (IntKind.u8.wrap x.b),.int .u8 (IntKind.u8.wrap x.c)] 5);have hw5:=HW0.out.alloc hs0 (.cells #[.int .u8 (IntKind.u8.wrap x.o),.int .u8 (IntKind.u8.wrap x.a),.int .u8 (IntKind.u8.wrap x.b),.int .u8 (IntKind.u8.wrap x.c)] 5);generalize wS.alloc (.cells #[.int .u8 (IntKind.u8.wrap x.o),.int .u8 (IntKind.u8.wrap x.a),.int .u8 (IntKind.u8.wrap x.b),.int .u8 (IntKind.u8.wrap x.c)] 5)=w5 at *;generalize wS.heap.size=g5 at *;have HR5:Hid (aV w5 (some ⟨g5,0,none⟩) 4 [IntKind.u8.wrap x.o,IntKind.u8.wrap x.a,IntKind.u8.wrap x.b,IntKind.u8.wrap x.c]):=hr5;have HO5:Hid (Own w5 w.heap.size u3 (12*k) (aCp (l.take k))):=Hv;have Mw:Hid _:=hb5;have HW5:Hid (Below w.heap.size w w5):=hw5;clear hr5 Hv hb5 hw5 HO0 Qn HW0;refine hK.out _ _ (HS.out HW5.out) (fun Aa=>?_);clear hK K;try simp only[nrm]
   refine ra 26 fun K hK=>?_;rw[if_pos A5];refine aBf _ _ rfl w.heap.size _ (12*k) (aCp (l.take k)) rfl HO5.out _ 4 4 _ rfl HR5.out A0 HW5.out.size ?_;intro v6 w6 Ja Bs;have Xt:=HO5.out.grown Bs Mw.out HW5.out.size;have hw6:=HO5.out.grown Bs HW5.out HW5.out.size;have HO6:Hid (Own w6 w.heap.size v6 (12*k+4) (aCp (l.take k)++[IntKind.u8.wrap x.o,IntKind.u8.wrap x.a,IntKind.u8.wrap x.b,IntKind.u8.wrap x.c])):=Ja;have HB6:Hid (Below w.heap.size wr w6):=Xt;have HW6:Hid (Below w.heap.size w w6):=hw6;clear Ja Bs Xt hw6 HR5 HO5 Mw HW5;refine hK.out _ _ (HS.out HW6.out) (fun Aa=>?_);clear hK K;try simp only[nrm]
   refine ta 27 ?_;try simp only[nrm]
   refine zK1 A5 ?_ _;go_upto_region 6 with fail;have HB7:Hid (Below w.heap.size wr w6.drew):=HB6.out.drew;have HO7:Hid (Own w6.drew w.heap.size v6 (12*k+4) (aCp (l.take k)++[IntKind.u8.wrap x.o,IntKind.u8.wrap x.a,IntKind.u8.wrap x.b,IntKind.u8.wrap x.c])):=HO6.out;have HW7:Hid (Below w.heap.size w w6.drew):=HW6.out.drew;refine zK0 (S:=fun wx=>wx.cell? ⟨b,off+k*6,none⟩=some (.int .i64 x.o)/\wx.cell? ⟨b,off+k*6+1,none⟩=some (.int .i64 x.a)/\wx.cell? ⟨b,off+k*6+2,none⟩=some (.int .i64 x.b)/\wx.cell? ⟨b,off+k*6+3,none⟩=some (.int .i64 x.c)/\wx.cell? ⟨b,off+k*6+4,none⟩=some (.int .i64 x.n)/\wx.cell? ⟨b,off+k*6+5,none⟩=some (.int .i64 x.m)) A5 (HS.out HW7.out) (fun Aa=>?_);generalize w6.drew=w7 at HB7 HO7 HW7 Aa ⊢;clear HB6 HO6 HW6;refine ta 0 ?_;refine ta 1 ?_;refine ta 2 ?_;refine ta 3 ?_;refine ta 4 ?_;refine ta 5 ?_;refine ta 7 ?_;refine ta 8 ?_;refine ta 9 ?_;refine ta 10 ?_;refine ta 11 ?_;try simp only[nrm]
   refine ra 6 fun K hK=>?_;go_simp
   (with_reducible refine(aQr w.heap.size v6 (12*k+4) _ x.n w7 w HO7.out HW7.out HW7.out.size A0).mono ?_)
   rintro e w8 ⟨v8,rfl,ho8,hw8,hs8⟩;have HO8:Hid (Own w8 w.heap.size v8 (12*k+4+4) ((aCp (l.take k)++[IntKind.u8.wrap x.o,IntKind.u8.wrap x.a,IntKind.u8.wrap x.b,IntKind.u8.wrap x.c])++aRr x.n)):=ho8;have HW8:Hid (Below w.heap.size w w8):=hw8;clear ho8 hw8 HO7 HW7;go_wp2_with fail;refine hK.out _ _ (HS.out HW8.out) (fun Aa=>?_);clear hK K;try simp only[nrm]
   refine ra 12 fun K hK=>?_;go_simp
   (with_reducible refine(aQr w.heap.size v8 (12*k+4+4) _ x.m w8 w HO8.out HW8.out HW8.out.size A0).mono ?_)
   rintro e w9 ⟨v9,rfl,Hu,hw9,Yr⟩;have HO9:Hid (Own w9 w.heap.size v9 (12*(k+1)) (aCp (l.take (k+1)))):=by
    refine aHa Hu A0 ?_;rw[aFd HX.out,aT9];simp only[IntKind.wrap_u8,zD0]
   have HW9:Hid (Below w.heap.size w w9):=hw9;clear Hu hw9 HO8 HW8;go_wp2_with fail;refine hK.out _ _ (HS.out HW9.out) (fun Aa=>?_);clear hK K;try simp only[nrm]
   refine ta 13 ?_;try simp only[nrm]
   refine zK1 A5 ?_ _;go_wp2;go_roundw
   case rel=>exact⟨k+1,by omega,by go_num,HO9,HW9⟩
   case measure=>simp[intOf];omega
  .
   have:k=n:=A0;subst this;go_wp2;go_ret;exact⟨_,rfl,by have:=ho.out;rwa [zD3 (by rw[Hl.out];exact zB0 _)]at this,hb.out⟩
def wr (n:Int):Int:=wrap64 (wrap32 n)
theorem aQ6 (a:Option Addr)(c:Nat)(w:World):
  Calls Tryz.prog 50 #[.slice a 0 c] w fun e w'=>e=.returned (.slice none 0 0)/\w'=w:=by
 go_enter Tryz.func50,Tryz.ntmps50;go_wp2_with fail;refine zH1 1 ?_;rw[zE2];go_wp2;go_ret;exact⟨rfl,rfl⟩
theorem aA2 (a:Option Addr)(n c:Nat)(l:List In6)(w:World)(h:aBc w a n l)(hn:n<=1000000):
  Calls Tryz.prog 50 #[.slice a n c] w fun e w'=>∃v,e=.returned v/\Own w' w.heap.size v (12*n) (aCp l)/\Below w.heap.size w w':=by
 rcases zG0 n with h0|hp
 .
  subst h0;have:l=[]:=List.length_eq_zero_iff.1 h.1;subst this;refine(aQ6 a c w).mono ?_;rintro e w' ⟨rfl,rfl⟩;exact⟨_,rfl,aDs _ _,zD2 _ _⟩
 .
  obtain⟨b,off,rfl,_⟩:=h.2 hp;exact aQ5 b off n c l w h hp hn
section
namespace Eg
variable{C:Cx}{base:Nat}{τ:Sm}{v:Value}{w:World}
theorem Fr.own{k:Rs}{n:Nat}{xss:List (List Value)}(h:Fr C τ w)(ho:w.ownsRow base k.ty k.k v n xss.flatten)(hx:∀us ∈ xss,EV τ false k us)(hl:xss.length=n)(hb:C.w0.heap.size<=base)(hn:∀g,v.ownBlock=some g->τ g=none):
  ∃τ',Fr C τ' w/\SV τ' k n v/\Sub τ τ'/\(∀b,v.ownBlock ≠ some b->τ' b=τ b)/\(Tg τ->Tg τ'):=by
 rcases ho.2 with⟨rfl,rfl⟩|⟨g,cap,cur,rfl,Lr,hgh,Hr,Do,Hq,Tu⟩
 .
  exact⟨τ,h,SV.nil k,Sub.refl _,fun _ _=>rfl,fun h=>h⟩
 .
  have hg:τ g=none:=hn g rfl;have hs:=rN (s:=⟨k,false,n,cap⟩) hg;refine⟨upd τ g ⟨k,false,n,cap⟩,⟨h.th.upd hs (fun b _ _=>rfl) ⟨⟨cur,(0,0),hgh,fun _=>rfl,Hq⟩,Hr,Do,fun i hi=>?_⟩,h.sub.trans hs,h.os,h.tape,h.output,h.size,fun b Em Be=>(eJ A0).trans (h.non b Em Be),h.blk,fun hst b Em Be=>?_⟩,.inr ⟨g,0,cap,_,by rw[Nat.zero_mul],lU _ _ _,rfl,by simp,Hr,by simp⟩,hs,fun b Ae=>eJ (fun e=>Ae A80),fun ht=>ht.upd rfl⟩
  .
   have hi:i<xss.length:=by rw[hl];exact hi
   have hm:=List.getElem_mem hi;refine⟨xss[i],(hx _ hm).length,(hx _ hm).sub hs,fun j u hu=>?_⟩;have e:=flat_get xss i _ j u (fun us hu=>(hx us hu).length) (zA0 hi) hu;rw[<-Tu,List.getElem?_take]at e;rw[cell_of_row w g _ _ _ (0,0) hgh];split at e
   .
    simpa using e
   .
    cases e
  .
   obtain⟨e1,e2⟩:=h.str hst b Em Be;exact⟨(eJ A0).trans e1,e2⟩
theorem aIh (l:List Int)(k:IntKind):(l.map fun x=>[Value.int k x]).flatten=l.map (Value.int k):=by
 induction l with
 | nil=>rfl| cons x l ih=>simp[ih]
theorem Fr.bytes{n:Nat}{l:List Int}(h:Fr C τ w)(ho:Own w base v n l)(hb:C.w0.heap.size<=base)(hn:∀g,v.ownBlock=some g->τ g=none):
  ∃τ',Fr C τ' w/\SV τ' .bt n v/\Sub τ τ'/\(∀b,v.ownBlock ≠ some b->τ' b=τ b)/\(Tg τ->Tg τ'):=
 h.own (k:=.bt) (xss:=l.map fun x=>[.int .u8 x]) (by rw[aIh];exact ho.1) (fun us hu=>by
  obtain⟨x,hx,rfl⟩:=zE1.1 hu;exact⟨x,rfl,ho.2 x hx⟩) (by
  have:=ho.1.1;simp at this ⊢;exact this) hb hn
theorem sv_ln{k:Rs}{n:Nat}(h:SV τ k n v):ln v=n:=by
 rcases h with⟨rfl,rfl⟩|⟨_,_,_,_,rfl,_⟩ <;> rfl
theorem aJh{k:Rs}{n lo hi:Nat}(h:SV τ k n v)(h1:lo<=n)(h2:n<=hi):SVb τ k lo hi v:=by
 have:=sv_ln h;exact⟨by rw[this];exact h,by omega,by omega⟩
theorem oK{c:Con}{I:Inp}(h:bH c.args=false)(h':eO c.args=false):c.After w I:=⟨(fun h9=>by rw[h]at h9;cases h9),(fun h9=>by rw[h']at h9;cases h9)⟩
set_option maxHeartbeats 1000000 in
theorem aS7:ConOk vP:=by
 intro τ w I vs hT Dp Eo Br;obtain⟨v0,_,rfl,⟨x,rfl,h1,h2⟩,rfl⟩:=Br;show Calls Tryz.prog 123 #[.int .i64 x] w _
 have fin:∀z:Int,mn<=z->z<=mx->∃v τ',Ending.returned (.int .i64 z)=.returned v/\Fr ⟨vP.st,vP.K I,τ,w⟩ τ' w/\(vP.st=true->Tg τ->Tg τ')/\vP.After w I/\vP.res.ok vP.st τ' w.heap.size I v:=fun z z1 z2=>⟨_,τ,rfl,Fr.refl hT,fun _ h=>h,oK rfl rfl,z,rfl,z1,z2⟩;clear hT Dp Eo h1 h2;go_enter Tryz.func123,Tryz.ntmps123;go_wp2;go_ret;exact fin _ (by unfold mn wrap64 wrap32;omega) (by unfold mx wrap64 wrap32;omega)
theorem aPr:ConOk aKn:=by
 intro τ w I vs hT Dp Eo Br;obtain⟨v0,_,rfl,rfl,v1,_,rfl,hv,rfl⟩:=Br;have hc:=Eo.cur rfl;obtain⟨l,⟨a,c,e,hb,Fu,_,Ej⟩,hl⟩:=rd_b (m:=9000) hT ⟨ln v1,hv.2.2,hv.1⟩;subst e;refine(aBg I.cb a l.length c l w hc.cur hb Ej A0).mono ?_;rintro e w' ⟨a',n',c',l',rfl,Yw,hm⟩;have hd:=hm.drawn;have Ae:∀g s,τ g=some s->some g ≠ some I.cb:=by rintro g s hg e9;cases e9;rw[hc.nc]at hg;cases hg
 have fr:Fr ⟨true,[I.cb],τ,w⟩ τ w':=⟨hT.on fun g s hg=>hd.2.block g (hT.lt hg) (Ae g s hg),Sub.refl _,hd.2.os,hd.2.tape,hd.2.output,hd.2.size,fun _ _ h9=>h9,fun g hg _ hk=>hd.2.block g hg (by intro e9;cases e9;simp at hk),fun _ g hg Dh=>⟨rfl,hd.2.block g hg (by
  cases e9:τ g with
  | none=>exact absurd e9 Dh| some s=>exact Ae g s e9)⟩⟩
 obtain⟨τ',f1,f2,f3,f4,f5⟩:=fr.bytes hm.own (zB0 _) (fun g hg=>hT.fresh (hm.block g hg).1);exact⟨_,τ',rfl,f1,fun _ h=>f5 h,⟨fun h9=> A16,fun _=>hd.1⟩,aJh f2 (zD1 _) A0,fun _ g hg=>(hm.block g hg).1⟩
theorem aQh{n:Nat}(hT:TH τ w)(h:SV τ (.rc 21) n v):∃a c l,v=.slice a n c/\aBc w a n l:=by
 obtain⟨a,c,rfl,h1,h2,h3⟩:=h.sh hT;rcases zG0 n with rfl|h0
 .
  exact⟨a,c,[],rfl,rfl,fun h=>by cases h⟩
 obtain⟨b,j,c',s,e,_,_,hs,hk,_,_,hg⟩:=h.get hT h0;simp only[Value.slice.injEq,true_and]at e;obtain⟨rfl,rfl⟩:=e;have Cd:∀q,q<=n->∃l:List In6,l.length=q/\∀z u,(gV l)[z]?=some u->w.cell? ⟨b,j*6+z,none⟩=some u:=by
  intro q;induction q with
  | zero=>intro _;exact⟨[],rfl,fun z u h=>by simp[gV]at h⟩
  | succ q ih=>
   intro hq;obtain⟨l,l1,l2⟩:=ih A0;obtain⟨vs,v1,v2⟩:=hg q A0;have v1:RV τ (if s.q then Lt 21 else (Dt 21).2) vs:=v1;have v1:RV τ (Dt 21).2 vs:=by split at v1 <;> exact v1
   obtain⟨x0,_,rfl,⟨y0,rfl,_⟩,x1,_,rfl,⟨y1,rfl,_⟩,x2,_,rfl,⟨y2,rfl,_⟩,x3,_,rfl,⟨y3,rfl,_⟩,x4,_,rfl,⟨y4,rfl,_⟩,x5,_,rfl,⟨y5,rfl,_⟩,rfl⟩:=v1;refine⟨l++[⟨y0,y1,y2,y3,y4,y5⟩],by simp[l1],fun z u hu=>?_⟩;have Ia:(gV (l++[⟨y0,y1,y2,y3,y4,y5⟩]))=gV l++(In6.vals ⟨y0,y1,y2,y3,y4,y5⟩):=by
    clear hu l2 l1 v2 ih hg;induction l with
    | nil=>simp[gV]| cons x l ih=>simp[gV,ih]
   rw[Ia]at hu;by_cases hz:z<(gV l).length
   .
    rw[List.getElem?_append_left hz]at hu;exact l2 z u hu
   .
    rw[List.getElem?_append_right A0]at hu;have h9:=v2 (z-(gV l).length) u hu;have hl6:=aE0 l;rw[show(j+q)*(Rs.rc 21).k+(z-(gV l).length)=j*6+z by show(j+q)*6+_=_;omega]at h9;exact h9
 obtain⟨l,l1,l2⟩:=Cd n (zB0 _);exact⟨_,_,l,rfl,l1,fun _=>⟨b,j*6,rfl,l2⟩⟩
theorem kL4 (m:Nat)(hm:m<=1000000):ConOk (cL4 m):=by
 intro τ w I vs hT Dp Eo Br;obtain⟨v0,_,rfl,hv,rfl⟩:=Br;obtain⟨a,c,l,e,hI⟩:=aQh hT hv.1;have Ci:=hv.2.2;obtain⟨n,hn⟩:=zx (ln v0);rw[<-hn]at e hI Ci;subst e;refine(aA2 a n c l w hI A0).mono ?_;rintro e w' ⟨v,rfl,ho,hb⟩;have fr:=((Fr.refl (st:=true) (K:=[]) hT).below hb).fr;obtain⟨τ',f1,f2,f3,f4,f5⟩:=fr.bytes ho (zB0 _) (fun g hg=>hT.fresh (ho.1.lt g hg).1);exact⟨_,τ',rfl,f1,fun _ h=>f5 h,oK rfl rfl,aJh f2 (zD1 _) A0,fun _ g hg=>(ho.1.lt g hg).1⟩
theorem aPy:ConOk (cL4 100):=kL4 100 A6
theorem aU9:ConOk aUq:=by
 intro τ w I vs hT Dp Eo Br;obtain⟨v0,_,rfl,hv,v1,_,rfl,Qq,rfl⟩:=Br;obtain⟨l,⟨a,c,e,hb,Fu,_,Ej⟩,hl⟩:=rd_b (m:=4) hT ⟨ln v0,hv.2.2,hv.1⟩;subst e;obtain⟨l2,⟨a2,c2,e,hb2,hnc2,_,hnil2⟩,Dx⟩:=aU4 (m:=3) hT ⟨ln v1,Qq.2.2,Qq.1⟩;subst e;refine(kP a l.length c l a2 l2.length c2 l2 w hb Ej hb2 A0 A0).mono ?_;rintro e w' ⟨rfl,Fi⟩;have h9:=kN (l++cZ l2) (l.length+l2.length);exact⟨_,τ,rfl,((Fr.refl (st:=true) (K:=[]) hT).below Fi).fr,fun _ h=>h,oK rfl rfl,_,rfl,by unfold mn;omega,by unfold mx;omega⟩
end Eg
end
section
namespace Eg
section
variable {τ:Sm} {w:World}
def xpF (r:List Fl):Prop:=∃x:Xp,r=x.fl
def ipF (r:List Fl):Prop:=∃x:Ip,r=x.fl
def ojF (r:List Fl):Prop:=(∃x:Oj,r=x.fl)/\aP r<=9126
theorem aVw (hT:TH τ w):RdT τ w 18 4 xpF:=by
 rintro us ⟨v0,_,rfl,h0,v1,_,rfl,⟨x,rfl,_⟩,v2,_,rfl,⟨y,rfl,_⟩,rfl⟩;obtain⟨l,r0,n0⟩:=rd_b hT h0;exact⟨_,⟨⟨l,x,y⟩,rfl⟩,⟨_,_,rfl,r0,_,_,rfl,rfl,_,_,rfl,rfl,rfl⟩,by simp[Xp.fl,aP,Fl.len];omega⟩
theorem aVv (hT:TH τ w):RdT τ w 19 8 ipF:=by
 rintro us ⟨v0,_,rfl,h0,v1,_,rfl,h1,v2,_,rfl,⟨y,rfl,_⟩,rfl⟩;obtain⟨l,r0,n0⟩:=rd_b hT h0;obtain⟨m,r1,n1⟩:=rd_b hT h1;exact⟨_,⟨⟨l,m,y⟩,rfl⟩,⟨_,_,rfl,r0,_,_,rfl,r1,_,_,rfl,rfl,rfl⟩,by simp[Ip.fl,aP,Fl.len];omega⟩
theorem rdOj {M1 M2 M3:Nat}(hT:TH τ w){us:List Value}(h:RV τ [.b 4,.l 18 0 M1,.l 19 0 M2,.n,.b M3] us):∃o:Oj,aL w o.fl us/\o.ex.length<=M1/\o.im.length<=M2/\o.code.length<=M3/\aP o.fl<=4+M1*5+M2*9+M3:=by
 obtain⟨v0,_,rfl,h0,v1,_,rfl,h1,v2,_,rfl,h2,v3,_,rfl,⟨y,rfl,_⟩,v4,_,rfl,h4,rfl⟩:=h;obtain⟨l0,r0,n0⟩:=rd_b hT h0;obtain⟨s1,f1,r1,n1,m1⟩:=aCx hT h1 fun _=>aVw hT;obtain⟨s2,f2,r2,n2,m2⟩:=aCx hT h2 fun _=>aVv hT;obtain⟨l4,r4,n4⟩:=rd_b hT h4;obtain⟨l1,rfl⟩:=gP Xp.fl s1 f1;obtain⟨l2,rfl⟩:=gP Ip.fl s2 f2;rw[zB2]at n1 m1 n2 m2;refine⟨⟨l0,l1,l2,y,l4⟩,⟨_,_,rfl,r0,_,_,rfl,r1,_,_,rfl,r2,_,_,rfl,rfl,_,_,rfl,r4,rfl⟩,n1,n2,n4, ?_⟩;simp only[Oj.fl,aP,Fl.len,zB2];omega
theorem aVu (hT:TH τ w):RdT τ w 20 9126 ojF:=fun us h=>by
 obtain⟨o,h1,_,_,_,h5⟩:=rdOj (M1:=8) (M2:=9) (M3:=9001) hT h;exact⟨_,⟨⟨o,rfl⟩,by omega⟩,h1,by omega⟩
theorem rdOjs (hT:TH τ w){n:Nat}{v:Value}(h:SV τ (.rc 20) n v):∃l:List Oj,l.length=n/\(Fl.l 5 (l.map Oj.fl)).Rd w v/\∀o ∈ l,aP o.fl<=9126:=by
 obtain⟨rs,h1,h2,h3,h4⟩:=aSt hT h fun _=>aVu hT;obtain⟨l,rfl⟩:=gP Oj.fl rs (fun r hr=>(h1 r hr).1);rw[zB2]at h3;exact⟨l,h3,h2,fun o ho=>(h1 _ (List.mem_map_of_mem ho)).2⟩
end
end Eg
end
section
theorem QA50{p:Prop}(h:p:=by
 have:t=0\/t=1\/t=2:=A0
 rcases this with rfl|rfl|rfl <;> cases hq:s.q <;> rw[hq]at hu <;> exact Eg.RV.length hu):p:=h
namespace Cp
variable{W:World}
def BT (τ:Eg.Sm)(t n:Nat)(v:Value):Prop:=n=0\/(t<=2/\Eg.SV τ (.rc (9+t)) n v)
theorem aV7{τ:Eg.Sm}(hT:Eg.TH τ W){nk ck i:Nat}{ak:Option Addr}{m:Nat}(h:Eg.FV τ (.l 8 0 m) (.slice ak nk ck))(hi:i<nk):
  ∃b off us,ak=some ⟨b,off,none⟩/\Eg.RV τ (XF 3) us/\us.length=5/\∀z u,us[z]?=some u->W.cell? ⟨b,off+i*5+z,none⟩=some u:=by
 obtain⟨k,hk,hs⟩:=h;obtain⟨a,c,e,_⟩:=hs.sh hT;cases e;obtain⟨b,j,c',s,e,_,_,_,_,_,_,hg⟩:=hs.get hT A0;simp only[Value.slice.injEq,true_and]at e;obtain⟨rfl,rfl⟩:=e;have Ra:(Eg.Rs.rc 8).k=5:=rfl;rw[Ra]at hg ⊢;obtain⟨us,hu,hc⟩:=hg i hi;have Ir:Eg.RV τ (XF 3) us:=by
  have:=aRd (n:=3) A0 s.q;rw[<-this];exact hu
 exact⟨b,j*5,us,rfl,Ir,Eg.RV.length Ir,fun z u hz=>by rw[<-Nat.add_mul];exact hc z u hz⟩
theorem aPk{τ:Eg.Sm}(hT:Eg.TH τ W){ks:List Ex}{a:Option Addr}{q i m:Nat}{e:Ex}(h:aX W a q 5 (exs ks))(ht:Eg.FV τ (.l 8 0 m) (.slice a ks.length q))(hi:ks[i]?=some e):∃b off u0 u1 u2 u3 u4,a=some ⟨b,off,none⟩/\aL W e.fl [u0,u1,u2,u3,u4]/\Eg.RV τ (XF 3) [u0,u1,u2,u3,u4]/\W.cell? ⟨b,off+i*5,none⟩=some u0/\W.cell? ⟨b,off+i*5+1,none⟩=some u1/\W.cell? ⟨b,off+i*5+2,none⟩=some u2/\W.cell? ⟨b,off+i*5+3,none⟩=some u3/\W.cell? ⟨b,off+i*5+4,none⟩=some u4:=by
 obtain⟨b,off,u0,u1,u2,u3,u4,rfl,hr,r0,r1,r2,r3,r4⟩:=mC h hi;obtain⟨b',Lg,us,e9,hu,hl,hc⟩:=aV7 hT ht (i:=i) (zC1.1 hi).1;cases e9
 match us,hl with
 | [x0,x1,x2,x3,x4],_=>
  have q0:=hc 0 _ rfl;have q1:=hc 1 _ rfl;have q2:=hc 2 _ rfl;have q3:=hc 3 _ rfl;have q4:=hc 4 _ rfl;rw[zG1,r0]at q0;rw[r1]at q1;rw[r2]at q2;rw[r3]at q3;rw[r4]at q4;cases q0;cases q1;cases q2;cases q3;cases q4;exact⟨b,off,_,_,_,_,_,rfl,hr,hu,r0,r1,r2,r3,r4⟩
theorem aK8{τ:Eg.Sm}(hT:Eg.TH τ W){l:List Go.Proofs.YtcbhdhmhidpdgaaGreat.St}{a:Option Addr}{q i t:Nat}{e:Go.Proofs.YtcbhdhmhidpdgaaGreat.St}(h:aX W a q 6 (sts l))(ht:BT τ t l.length (.slice a l.length q))(hi:l[i]?=some e):
  ∃b off v0 v1 v2 v3 v4 v5,a=some ⟨b,off,none⟩/\aL W e.fl [v0,v1,v2,v3,v4,v5]/\Eg.FV τ (.l 8 0 2) v3/\(∃t' n',BT τ t' n' v4/\∃a' c',v4=.slice a' n' c')/\(∃t' n',BT τ t' n' v5/\∃a' c',v5=.slice a' n' c')/\W.cell? ⟨b,off+i*6+3,none⟩=some v3/\W.cell? ⟨b,off+i*6+4,none⟩=some v4/\W.cell? ⟨b,off+i*6+5,none⟩=some v5:=by
 obtain⟨b,off,v0,v1,v2,v3,v4,v5,rfl,hr,r0,r1,r2,r3,r4,r5⟩:=aJj h hi;have Xn:=(zC1.1 hi).1;rcases ht with h0|⟨ht2,hs⟩
 .
  omega
 obtain⟨b',j,c',s,e9,_,_,_,_,_,_,hg⟩:=hs.get hT A0;have hk6:(Eg.Rs.rc (9+t)).k=6:=by
  have:t=0\/t=1\/t=2:=A0;exact QA127
 rw[hk6]at e9 hg;simp only[Value.slice.injEq,zG2,Addr.mk.injEq,true_and,and_true]at e9;obtain⟨⟨rfl,rfl⟩,rfl⟩:=e9;obtain⟨us,hu,hc⟩:=hg i Xn;have q3:us[3]?=some v3:=by
  have hl:us.length=6:=by
   exact QA50
  obtain⟨u,hz⟩:∃u,us[3]?=some u:=⟨_,zA0 A0⟩
  have:=hc 3 u hz;rw[Nat.add_mul,r3]at this;cases this;exact hz
 have q4:us[4]?=some v4:=by
  have hl:us.length=6:=by
   exact QA50
  obtain⟨u,hz⟩:∃u,us[4]?=some u:=⟨_,zA0 A0⟩
  have:=hc 4 u hz;rw[Nat.add_mul,r4]at this;cases this;exact hz
 have q5:us[5]?=some v5:=by
  have hl:us.length=6:=by
   exact QA50
  obtain⟨u,hz⟩:∃u,us[5]?=some u:=⟨_,zA0 A0⟩
  have:=hc 5 u hz;rw[Nat.add_mul,r5]at this;cases this;exact hz
 have none0:∀v,Eg.FV τ (.l 0 0 0) v->∃t' n',BT τ t' n' v/\∃a' c',v=.slice a' n' c':=fun v ⟨k,hk,hs⟩=>by
  obtain⟨a,c,e,_⟩:=hs.sh hT;exact⟨0,k,.inl A0,a,c,e⟩
 have Ou:∀v t9 m,t9<=2->Eg.FV τ (.l (9+t9) 0 m) v->∃t' n',BT τ t' n' v/\∃a' c',v=.slice a' n' c':=fun v t9 m ht9 ⟨k,hk,hs⟩=>by
  obtain⟨a,c,e,_⟩:=hs.sh hT;exact⟨t9,k,.inr ⟨ht9,hs⟩,a,c,e⟩
 have Cd:Eg.FV τ (.l 8 0 2) v3/\(∃t' n',BT τ t' n' v4/\∃a' c',v4=.slice a' n' c')/\(∃t' n',BT τ t' n' v5/\∃a' c',v5=.slice a' n' c'):=by
  have:t=0\/t=1\/t=2:=A0;rcases this with rfl|rfl|rfl
  .
   have Ir:Eg.RV τ (Eg.Dt 9).2 us:=by cases hq:s.q <;> rw[hq]at hu <;> exact hu
   obtain⟨y3,z3,f3⟩:=Eg.RV.get Ir (i:=3) rfl;obtain⟨y4,z4,f4⟩:=Eg.RV.get Ir (i:=4) rfl;obtain⟨y5,z5,f5⟩:=Eg.RV.get Ir (i:=5) rfl;rw[q3]at z3;rw[q4]at z4;rw[q5]at z5;cases z3;cases z4;cases z5;exact⟨f3,none0 _ f4,none0 _ f5⟩
  .
   have Ir:Eg.RV τ (Eg.Dt 10).2 us:=by cases hq:s.q <;> rw[hq]at hu <;> exact hu
   obtain⟨y3,z3,f3⟩:=Eg.RV.get Ir (i:=3) rfl;obtain⟨y4,z4,f4⟩:=Eg.RV.get Ir (i:=4) rfl;obtain⟨y5,z5,f5⟩:=Eg.RV.get Ir (i:=5) rfl;rw[q3]at z3;rw[q4]at z4;rw[q5]at z5;cases z3;cases z4;cases z5;exact⟨f3,Ou _ 0 _ A0 f4,Ou _ 0 _ A0 f5⟩
  .
   have Ir:Eg.RV τ (Eg.Dt 11).2 us:=by cases hq:s.q <;> rw[hq]at hu <;> exact hu
   obtain⟨y3,z3,f3⟩:=Eg.RV.get Ir (i:=3) rfl;obtain⟨y4,z4,f4⟩:=Eg.RV.get Ir (i:=4) rfl;obtain⟨y5,z5,f5⟩:=Eg.RV.get Ir (i:=5) rfl;rw[q3]at z3;rw[q4]at z4;rw[q5]at z5;cases z3;cases z4;cases z5;exact⟨f3,Ou _ 1 _ A0 f4,Ou _ 1 _ A0 f5⟩
 exact⟨_,_,v0,v1,v2,v3,v4,v5,rfl,hr,Cd.1,Cd.2.1,Cd.2.2,r3,r4,r5⟩
end Cp
end
namespace Cp
def UB (l:List Go.Proofs.YtcbhdhmhidpdgaaGreat.St):Prop:=∀(t:Nat) (E:En) (d:GD) (w:World) (Q:Ending->World->Prop) (p:Pr) (a:Option Addr) (q:Nat),eA E->(∀f ∈ E.fs,∀y ∈ f.procs,y.kinds.length<=1048576)->GS E d w->(d.r 1).n+aK l<=1000000->eI E.m E.fs p l=true->aX E.w0 a q 6 (sts l)->BT E.τ0 t l.length (.slice a l.length q)->(∀d' w',Us E d w (aK l) d' w'->Q (.returned (.tuple #[])) w') →
 Calls Tryz.prog 46 #[.pointer (some ⟨E.g,0,none⟩),.slice a l.length q] w Q
set_option maxHeartbeats 40000000 in
theorem rM (l:List Go.Proofs.YtcbhdhmhidpdgaaGreat.St)(IH:∀k n name ks bs es,Go.Proofs.YtcbhdhmhidpdgaaGreat.St.mk k n name ks bs es ∈ l->UB bs/\UB es):UB l:=by
 intro t E d w Q p a q hE Bz hG hn hg hL ht kk;have HE:=hid hE;have Jr:=hid Bz;have Ld:=hid IH;have HK:=hid kk;have HL:=hid hL;have Dr:=hid hg;have HT:=hid ht;have Gr:=hid hn;have hl9:l.length<=9223372036854775807:=by
  have:=hL.len9;rwa [bE,zB2]at this
 obtain⟨nl,Kp⟩:=zx (l.length);have Xz:=hid Kp.symm;rw[<-Kp]at hl9 ⊢;have S0:=(Us.start hG);clear kk hE Bz hg hL ht hG Kp IH hn;go_enter Tryz.func46,Tryz.ntmps46;go_wp2_with fail;go_loopw [4] (fun i wr=>∃(j:Nat) (d':GD),j<=nl/\i=.int .i64 j/\Hid (Us E d w (aK (l.take j)) d' wr)) (fun i _=>nl-(intOf i).toNat)
 case atStart=>exact⟨0,d,zD1 _,rfl,by show Us _ _ _ _ _ _;simpa [aK] using S0⟩
 case round=>
  obtain⟨j,d2,hj,rfl,Hs⟩:=hrel;by_cases Ad:j<nl
  .
   obtain⟨e,he⟩:∃e,l[j]?=some e:=⟨_,zA0 A66⟩
   have Aw:=hid (fD he);have Mf:Hid (aK (l.take j)+gG e<=aK l):=by
    exact QA113
   have Mh:=sL Dr.out e (zA3 he);obtain⟨b,off,s0,s1,s2,s3,s4,s5,rfl,Ti,t3,⟨t4,m4,bt4,a4',c4',e4'⟩,⟨t5,m5,bt5,a5',c5',e5'⟩,r3,r4,r5⟩:=aK8 HE.out.th HL.out HT.out he;cases e with
   | mk sk sn name ks bs es=>
   obtain⟨IB,IE⟩:=Ld.out sk sn name ks bs es (zA3 he);have Rn:=hid IB;have Ua:=hid IE;obtain⟨_,_,e0,_,_,_,e1,_,_,_,e2,_,_,_,e3,To,_,_,e4,Tn,_,_,e5,hl5,_⟩:=Ti;cases e0;cases e1;cases e2;cases e3;cases e4;cases e5;obtain⟨ak,ck,rfl,hLK⟩:=To.list;obtain⟨ab,cb,rfl,Gy⟩:=Tn.list;obtain⟨ae,ce,rfl,Gx⟩:=hl5.list;have ek:(exs ks).length=ks.length:=by rw[aY,zB2]
   have eb:(sts bs).length=bs.length:=by rw[bE,zB2]
   have ee:(sts es).length=es.length:=by rw[bE,zB2]
   simp only[Value.slice.injEq]at e4' e5';obtain⟨rfl,rfl,rfl⟩:=e4';obtain⟨rfl,rfl,rfl⟩:=e5';rw[ek]at t3 r3;rw[eb]at bt4 r4;rw[ee]at bt5 r5;have HLK:=hid hLK;have Wx:=hid Gy;have HLE2:=hid Gx;have HT3:=hid t3;have HT4:=hid bt4;have HT5:=hid bt5;have Bw:gG (.mk sk sn name ks bs es)=1+(aD ks+aK bs+aK es):=by simp[gG]
   have HND':Hid (aK (l.take (j+1))=aK (l.take j)+(1+(aD ks+aK bs+aK es))):=by show _=_;rw[Aw.out,Bw]
   have Ci:(d.r 1).n+(aK (l.take j)+(1+(aD ks+aK bs+aK es)))<=1000000:=by have:=Mf.out;have:=Gr.out;rw[<-Bw];omega
   simp only[xN,zC0,zE3]at Mh;obtain⟨⟨⟨⟨⟨_,_⟩,_⟩,Ah⟩,Az⟩,Bs⟩:=Mh;have Di:=hid Ah;have HG5:=hid Az;have Ed:=hid Bs;obtain⟨nk,hnk⟩:=zx (ks.length);obtain⟨nb,Ba⟩:=zx (bs.length);obtain⟨ne,Ae⟩:=zx (es.length);have Ap:=hid hnk.symm;have Ea:=hid Ba.symm;have Lc:=hid Ae.symm;have hnk9:nk<=9223372036854775807:=by
    have:=hLK.len9;omega
   rw[<-hnk]at r3;rw[<-Ba]at r4;rw[<-Ae]at r5;have R3:=hid r3;have R4:=hid r4;have R5:=hid r5;have Gw:(j:Int)<(nl:Int):=A0;clear To Tn hl5 hLK Gy Gx ek eb ee t3 bt4 bt5 Ah Az Bs hnk Ba Ae r3 r4 r5 IB IE he Bw;go_wp2_with fail;go_loopw [5] (fun i wr=>∃(z:Nat) (d':GD),z<=nk/\i=.int .i64 z/\Hid (Us E d w (aK (l.take j)+aD (ks.take z)) d' wr)) (fun i _=>nk-(intOf i).toNat)
   case atStart=>exact⟨0,d2,zD1 _,rfl,by show Us _ _ _ _ _ _;simpa [aD] using Hs.out⟩
   case round=>
    obtain⟨z,d3,hz,rfl,Hz⟩:=hrel;have r3:=aB R3.out Hz.out.gs.bel;by_cases Qy:z<nk
    .
     obtain⟨x,hx⟩:∃x,ks[z]?=some x:=⟨_,zA0 (by rw[Ap.out];exact Qy)⟩
     have HXD:=hid (bU hx);have HXL:Hid (aD (ks.take z)+cU x<=aD ks):=by
      show _<=_
      rw[<-bU hx,<-List.take_append_drop (z+1) ks,kH,List.take_append_drop];omega
     have HXM:Hid (x ∈ ks):=zA3 hx;obtain⟨bk,ok,u0,u1,u2,u3,u4,rfl,hvx,htx,y0,y1,y2,y3,y4⟩:=aPk HE.out.th HLK.out HT3.out hx;have HVX:Hid (aL E.w0 x.fl [u0,u1,u2,u3,u4]/\Eg.RV E.τ0 (XF 3) [u0,u1,u2,u3,u4]):=⟨hvx,htx⟩
     have y0:=aB y0 Hz.out.gs.bel;have y1:=aB y1 Hz.out.gs.bel;have y2:=aB y2 Hz.out.gs.bel;have y3:=aB y3 Hz.out.gs.bel;have y4:=aB y4 Hz.out.gs.bel;have hz':(z:Int)<(nk:Int):=A0;clear hvx htx hx;go_wp2_with fail;refine aOa x 3 E d3 wr _ p _ _ _ _ _ (zB0 3) HVX.out.2 HE.out Jr.out Hz.out.gs (by have:=HXL.out;have:=Hz.out.n;omega) (dI Di.out x HXM.out) HVX.out.1 (fun d4 w4 t4'=>?_);have q4:=Hz.out.trans t4';clear y0 y1 y2 y3 y4 r3 t4';go_wp2;go_roundw
     case rel=>exact⟨z+1,d4,by omega,by go_num,by show Us _ _ _ _ _ _;rw[HXD.out];exact q4.wide A0⟩
     case measure=>simp[intOf];omega
    .
     have:nk=z:=A0;subst this;have q3:Us E d w (aK (l.take j)+aD ks) d3 wr:=by have:=Hz.out;rwa [zD3 (l:=ks) A20]at this
     have r4:=aB R4.out q3.gs.bel;clear Hz Hs;go_wp2_with fail;have Kl:=Rn.out t4 E d3 wr;rw[Ea.out]at Kl;refine Kl _ p ab cb HE.out Jr.out q3.gs (by have:=q3.n;omega) HG5.out Wx.out (by have:=HT4.out;rw[Ea.out]at this;exact this) (fun d4 w4 t4'=>?_);have q4:=q3.trans t4';clear q3 t4' r3 r4 Kl;have r5:=aB R5.out q4.gs.bel;go_wp2_with fail;have Kl:=Ua.out t5 E d4 w4;rw[Lc.out]at Kl;refine Kl _ p ae ce HE.out Jr.out q4.gs (by have:=q4.n;omega) Ed.out HLE2.out (by have:=HT5.out;rw[Lc.out]at this;exact this) (fun d5 w5 t5'=>?_);have q5:=q4.trans t5';clear q4 t5' r5 Kl;go_wp2;go_roundw
     case rel=>exact⟨j+1,d5,by omega,by go_num,by show Us _ _ _ _ _ _;rw[HND'.out];exact q5.wide A0⟩
     case measure=>simp[intOf];omega
  .
   have:nl=j:=A0;subst this;have q0:Us E d w (aK l) d2 wr:=by have:=Hs.out;rwa [zD3 A76]at this
   clear Hs S0;go_wp2_with fail;exact oJ Tryz.results46 (HK.out _ _ q0)
mutual
theorem aK1:∀s:Go.Proofs.YtcbhdhmhidpdgaaGreat.St,∀k n name ks bs es,s=Go.Proofs.YtcbhdhmhidpdgaaGreat.St.mk k n name ks bs es->UB bs/\UB es
 | .mk k n name ks bs es,_,_,_,_,_,_,h=>by
  cases h;exact⟨rM bs (oF bs),rM es (oF es)⟩
theorem oF:∀l:List Go.Proofs.YtcbhdhmhidpdgaaGreat.St,∀k n name ks bs es,Go.Proofs.YtcbhdhmhidpdgaaGreat.St.mk k n name ks bs es ∈ l->UB bs/\UB es
 | [],_,_,_,_,_,_,h=>by cases h
 | x :: l,k,n,name,ks,bs,es,h=>(zG3.1 h).elim (fun q=>aK1 x k n name ks bs es q.symm) (oF l k n name ks bs es)
end
theorem aGg (l:List Go.Proofs.YtcbhdhmhidpdgaaGreat.St):UB l:=rM l (oF l)
end Cp
section
namespace Cp
variable{E:En}{xs:List Value}
theorem aG9{W:World}{T base k n m c:Nat}{a:Option Addr}(h:W.ownsRow base T k (.slice a n c) n xs)(hm:m<=n):W.ownsRow base T k (.slice a m c) m (xs.take (m*k)):=by
 have hl:=h.1;have hmk:=Nat.mul_le_mul_right k hm;refine⟨by rw[List.length_take];omega, ?_⟩;rcases h.2 with⟨e,h0⟩|⟨g,cap,cur,e,h1,h2,h3,h4,h5,h6⟩
 .
  cases e;exact .inl ⟨by rw[show m=0 by omega],by omega⟩
 .
  cases e;refine .inr ⟨g,_,cur,rfl,h1,h2,by omega,h4,h5, ?_⟩;rw[<-h6,List.take_take,Nat.min_eq_left hmk]
theorem aKf (w:World)(r:Option Nat):w.grownBy w r:=aQ w r
theorem GS.cut{d:GD}{w:World}(h:GS E d w)(hE:eA E){i m n c:Nat}{a:Option Addr}(hi:i<5)(hv:(d.r i).v=.slice a n c)(hm:m<=(d.r i).n)(a9:Nat)(b9:Int)(he:El E ((d.at a9 b9).put i ⟨.slice a m c,m,(d.r i).xs.take (m*RK i)⟩)):
  GS E ((d.at a9 b9).put i ⟨.slice a m c,m,(d.r i).xs.take (m*RK i)⟩) (w.setCell ⟨E.g,RP i,none⟩ (.slice a m c))/\Kt w (w.setCell ⟨E.g,RP i,none⟩ (.slice a m c)):=by
 have hr:=h.row i hi;have hn:(d.r i).n=n:=by
  obtain⟨a',c',e,_⟩:=aH hr;rw[hv]at e;simp only[Value.slice.injEq]at e;exact e.2.1.symm
 rw[hv,hn]at hr;have ho:=aG9 hr (m:=m) A0;refine⟨h.put hE hi (q:=⟨.slice a m c,m,(d.r i).xs.take (m*RK i)⟩) (aKf w _) ho (fun b hb=>.inl ?_) a9 b9 he,h.kt hi (aKf w _) _⟩;rw[hv];have hb:(Value.slice a m c).ownBlock=some b:=hb;cases a with
 | none=>cases hb| some p=>exact hb
theorem aFx(h:aCv xs)(m:Nat):aCv (xs.take m):=fun u hu=>h u (List.mem_of_mem_take hu)
theorem aF5.take {b:Nat}{xs:List Value}(h:aF5 b xs)(m:Nat):aF5 b (xs.take m):=fun u hu=>h u (List.mem_of_mem_take hu)
theorem El.cut0{d:GD}(h:El E d)(h0:d.sl=0){m:Nat}(hm:m<=(d.r 0).n)(v:Value):El E ((d.at ((d.r 0).n-m) d.s4).put 0 ⟨v,m,(d.r 0).xs.take (m*6)⟩):=
 ⟨aFx h.e0 _,h.e1,h.e2,h.n2,h.e3.mono (by show(d.r 0).n+d.sl<=m+((d.r 0).n-m);omega),by have:=h.m3;show(d.r 3).n<=m+((d.r 0).n-m);omega,h.e4,h.n4,h.rp,h.hl⟩
theorem El.cut3{d:GD}(h:El E d){m:Nat}(hm:m<=(d.r 3).n)(v:Value):El E ((d.at d.sl (d.s4+((m:Int)-(d.r 3).n))).put 3 ⟨v,m,(d.r 3).xs.take (m*1)⟩):=
 ⟨h.e0,h.e1,h.e2,h.n2,h.e3.take _,by have:=h.m3;show m<=(d.r 0).n+d.sl;omega,h.e4,by have:=h.n4;show((d.r 4).n:Int)+(d.s4+((m:Int)-(d.r 3).n))=(m:Nat);omega,h.rp,h.hl⟩
theorem El.cut4{d:GD}(h:El E d){m:Nat}(hm:m=(d.r 3).n)(h3:aF5 (d.r 0).n (d.r 3).xs)(h0:(d.r 3).n<=(d.r 0).n)(v:Value):El E ((d.at 0 0).put 4 ⟨v,m,(d.r 4).xs.take (m*1)⟩):=
 ⟨h.e0,h.e1,h.e2,h.n2,h3,h0,h.e4.take _,by subst hm;show(((d.r 3).n:Nat):Int)+0=((d.r 3).n:Nat);omega,h.rp,h.hl⟩
end Cp
end
namespace Cp
theorem aJo {E:En}(hE:eA E){j:Nat}{p:Pr}(hj:E.m.procs[j]?=some p):∃b off n q v0 v1 v2 v3 v4,E.m3=.slice (some ⟨b,off,none⟩) n q/\E.m.procs.length=n/\aL E.w0 p.fl [v0,v1,v2,v3,v4]/\Eg.FV E.τ0 (.b 4) v0/\(∃n4 a4 q4,v4=.slice a4 n4 q4/\BT E.τ0 2 n4 v4) ∧
  E.w0.cell? ⟨b,off+j*5,none⟩=some v0/\E.w0.cell? ⟨b,off+j*5+1,none⟩=some v1/\E.w0.cell? ⟨b,off+j*5+2,none⟩=some v2/\E.w0.cell? ⟨b,off+j*5+3,none⟩=some v3/\E.w0.cell? ⟨b,off+j*5+4,none⟩=some v4:=by
 obtain⟨ap,np,qp,em,Es,hL⟩:=aDl hE.rm;obtain⟨b,off,v0,v1,v2,v3,v4,rfl,hr,r0,r1,r2,r3,r4⟩:=aJp hL hj;have Xm:=(zC1.1 hj).1;obtain⟨y3,z3,f3⟩:=Eg.RV.get hE.tm (i:=3) (f:=.l 12 1 3) rfl;have z3:some E.m3=some y3:=z3;cases z3;rw[em]at f3;obtain⟨k,hk,hs⟩:=f3;obtain⟨a,c,e,_⟩:=hs.sh hE.th;cases e;obtain⟨b',j',c',s,e9,_,_,_,_,_,_,hg⟩:=hs.get hE.th A0;have Ra:(Eg.Rs.rc 12).k=5:=rfl;rw[Ra]at e9 hg;simp only[Value.slice.injEq,zG2,Addr.mk.injEq,true_and,and_true]at e9;obtain⟨⟨rfl,rfl⟩,rfl⟩:=e9;obtain⟨us,hu,hc⟩:=hg j A0;have Ir:Eg.RV E.τ0 (Eg.Dt 12).2 us:=by cases hq:s.q <;> rw[hq]at hu <;> exact hu
 obtain⟨y0,z0,f0⟩:=Eg.RV.get Ir (i:=0) rfl;obtain⟨y4,z4,f4⟩:=Eg.RV.get Ir (i:=4) (f:=.l 11 0 11) rfl;have q0:=hc 0 _ z0;have q4:=hc 4 _ z4;rw[Nat.add_mul,zG1,r0]at q0;rw[Nat.add_mul,r4]at q4;cases q0;cases q4;obtain⟨k4,_,Na⟩:=f4;obtain⟨a4,c4,e4,_⟩:=Na.sh hE.th;exact⟨_,_,_,_,v0,v1,v2,v3,v4,em,Es,hr,f0,⟨k4,a4,c4,e4,.inr ⟨zB0 2,Na⟩⟩,r0,r1,r2,r3,r4⟩
end Cp
namespace Cp
def rd0:RD:=⟨.slice none 0 0,0,[]⟩
def GD.zero (g np:Nat):GD:=⟨⟨[],false,[],[],[]⟩,.slice none 0 0,.bool false,.slice none 0 0,.slice none 0 0,.slice none 0 0,0,0,0,0,fun i=>if i=2 then ⟨.slice (some ⟨g,0,none⟩) np np,np,List.replicate np (.int .i64 0)⟩ else rd0⟩
theorem aV1 {W:World}{base:Nat}{T:TypeId}{k:Nat}:W.ownsRow base T k (.slice none 0 0) 0 []:=⟨by simp,.inl ⟨rfl,rfl⟩⟩
theorem GS.start {E:En}(hE:eA E){w1 w:World}{gb:Nat}(hb:Below E.w0.heap.size E.w0 w1)(h1:E.w0.heap.size<=gb)(h2:gb<w1.heap.size)(hz:w1.heap[gb]?=some (.cells (List.replicate E.m.procs.length (Value.int .i64 0)).toArray 3 (0,0)))(hg:E.g=w1.heap.size)(hw:w=w1.alloc (.cells (cells E (GD.zero gb E.m.procs.length)).toArray 119 (0,0))):GS E (GD.zero gb E.m.procs.length) w:=by
 subst hw;have hl:∀i b,i<5->((GD.zero gb E.m.procs.length).r i).v.ownBlock=some b->i=2/\b=gb:=fun i b hi e=>by
  by_cases h:i=2
  .
   subst h;cases e;exact⟨rfl,rfl⟩
  .
   have:(GD.zero gb E.m.procs.length).r i=rd0:=if_neg h;rw[this]at e;cases e
 refine⟨?_,hb.alloc hb.size _,fun i hi=>?_,fun i j b hi hj hij e1 e2=>?_,fun i b hi e=>?_, ?_⟩
 .
  rw[hg];exact Blk.new w1 119 (cells E (GD.zero gb E.m.procs.length))
 .
  by_cases h:i=2
  .
   subst h;have hp:E.m.procs.length<=maxLen:=by have:=hE.ok.procs;unfold maxLen;omega
   have Nd:(w1.alloc (.cells (cells E (GD.zero gb E.m.procs.length)).toArray 119 (0,0))).heap[gb]?=w1.heap[gb]?:=((zD2 w1.heap.size w1).alloc (zB0 _) _).block gb h2;have e2:(GD.zero gb E.m.procs.length).r 2=⟨.slice (some ⟨gb,0,none⟩) E.m.procs.length E.m.procs.length,E.m.procs.length,List.replicate E.m.procs.length (.int .i64 0)⟩:=rfl;rw[e2];exact⟨by show(List.replicate _ _).length=_*1;simp,.inr ⟨gb,E.m.procs.length,_,rfl,h1,Nd.trans hz,zB0 _,hp,by show(List.replicate _ _).toArray.size=_*1;simp,by show List.take (_*1) (List.replicate _ _)=List.replicate _ _;simp⟩⟩
  .
   have:(GD.zero gb E.m.procs.length).r i=rd0:=if_neg h;rw[this];exact aV1
 .
  have a:=hl i b hi e1;have c:=hl j b hj e2;omega
 .
  have a:=hl i b hi e;omega
 .
  refine⟨(fun u hu=>by cases hu),⟨[],rfl,(fun us hu=>by cases hu)⟩,(fun u hu=>⟨0,(List.mem_replicate.1 hu).2⟩),rfl,(fun u hu=>by cases hu),zD1 _,(fun u hu=>by cases hu),rfl, ?_,⟨by simp[GD.zero],by simp[GD.zero]⟩⟩;have nb:aV E.w0 none 0 []:=⟨rfl,(fun _ h=>by cases h),(fun h=>by cases h)⟩
  exact⟨_,_,rfl,⟨none,0,rfl,nb,zB0 _,zD1 _,fun _=>rfl⟩,_,_,rfl,rfl,_,_,rfl,⟨none,0,rfl,zB0 _,zD1 _,(fun _=>rfl),(fun h=>by cases h)⟩,_,_,rfl,⟨none,0,rfl,zB0 _,zD1 _,(fun _=>rfl),(fun h=>by cases h)⟩,_,_,rfl,⟨none,0,rfl,zB0 _,zD1 _,(fun _=>rfl),(fun h=>by cases h)⟩,rfl⟩
end Cp
namespace Cp
theorem aSr {W:World}{base n j:Nat}{T:TypeId}{v:Value}{xs:List Value}(h:W.ownsRow base T 1 v n xs)(hj:j<n):∃b c u,v=.slice (some ⟨b,0,none⟩) n c/\xs[j]?=some u/\u ∈ xs/\W.cell? ⟨b,j,none⟩=some u:=by
 obtain⟨a,c,rfl,_,_,_,ha⟩:=aH h;obtain⟨b,rfl⟩:=ha A0;have hl:=h.1;obtain⟨u,hu⟩:∃u,xs[j]?=some u:=⟨_,zA0 A0⟩
 exact⟨b,c,u,rfl,hu,zA3 hu,cM h _ _ hu⟩
theorem GS.fixAt {E:En}{d:GD}{w:World}(h:GS E d w)(h1:d.sl=0)(h4:d.s4=0){k:Nat}(hk:k<(d.r 3).n):∃(b3 c3 b4 c4 b2 c2 x y:Nat) (z:Int),
  w.cell? ⟨E.g,15,none⟩=some (.slice (some ⟨b3,0,none⟩) (d.r 3).n c3)/\w.cell? ⟨b3,k,none⟩=some (.int .i64 (x:Int))/\x<(d.r 0).n ∧
  w.cell? ⟨E.g,16,none⟩=some (.slice (some ⟨b4,0,none⟩) (d.r 3).n c4)/\w.cell? ⟨b4,k,none⟩=some (.int .i64 (y:Int)) ∧
  w.cell? ⟨E.g,14,none⟩=some (.slice (some ⟨b2,0,none⟩) E.m.procs.length c2)/\y<E.m.procs.length/\w.cell? ⟨b2,y,none⟩=some (.int .i64 z):=by
 have n4:=h.el.n4;have e4n:(d.r 4).n=(d.r 3).n:=A0;have n2:=h.el.n2;obtain⟨b3,c3,u3,e3,_,m3,k3⟩:=aSr (h.row 3 A0) hk;obtain⟨b4,c4,u4,e4,_,m4,k4⟩:=aSr (h.row 4 A0) (j:=k) A0;obtain⟨x,rfl,hx⟩:=h.el.e3 u3 m3;obtain⟨y,rfl,hy⟩:=h.el.e4 u4 m4;obtain⟨b2,c2,u2,e2,_,m2,k2⟩:=aSr (h.row 2 A0) (j:=y) A0;obtain⟨z,rfl⟩:=h.el.e2 u2 m2;rw[e4n]at e4;rw[n2]at e2;exact⟨b3,c3,b4,c4,b2,c2,x,y,z,h.blk.cell (i:=15) (by rw[<-e3];rfl),k3,by omega,h.blk.cell (i:=16) (by rw[<-e4];rfl),k4,h.blk.cell (i:=14) (by rw[<-e2];rfl),hy,k2⟩
end Cp
end Go.Proofs.YtcbhdhmhidpdgaaGreat

import Derived.Deep.RegionLaw
import Derived.Test.YtcbhdhmhidpdgaaGreatPackL
namespace Go.Proofs.YtcbhdhmhidpdgaaGreat
open Go.RowKit
set_option linter.unusedVariables false
variable{l:List Int}{base c off q:Nat}{w w1:World}
theorem iG{ops:Array Oper}{o:Oper}{a:Act}{K:Act->World->Prop}{Q:Exit->Act->World->Prop}{E:Prop}(Lq:o.guard=none)(s x:Operand)
  (ho:o.op=.call { callee:=.builtin .append,args:=#[s,x],argTypes:=#[22,22] })
  (base:Nat) (v:Value) (n:Nat) (l:List Int) (hs:a.eval s=v) (Ak:Own w base v n l)
  (ad:Addr) (m c:Nat) (l2:List Int) (hx:a.eval x=.slice (some ad) m c) (hr:aV w (some ad) m l2)
  (Bg:n+m<=1099511627776) (Ca:base<=w.heap.size)
  (h:∀v' w',Own w' base v' (n+m) (l++l2)->w.grownBy w' v.ownBlock->K (a.put o.dst v') w'):
  if Region.wanted o (yielded ops a.tmps)=true then Oper.wp Tryz.prog o a w K Q else E:=by
 have hw:Region.wanted o (yielded ops a.tmps)=true:=by simp[Region.wanted,Lq]
 rw[if_pos hw];refine M956 ?_;intro i0 hi Dc De Db Bu;refine wp_append_own w s x 22 ho base 5 i0 (.int .u8 0) 1 1 Tryz.underlying22 hi Dc De Db rfl A6 v n _ hs Ak.1 ad m c (l2.map (Value.int .u8)) hx (by simp[hr.1]) ?_ (ints_oneCell _ _) A13 A0 Ca ?_
 .
  exact QA24
 .
  exact QA73
theorem Own.cut{n i:Nat}(h:Own w base (.slice (some ⟨q,0,none⟩) n c) n l)(hi:i<=n):Own w base (.slice (some ⟨q,0,none⟩) i c) i (l.take i):=by
 obtain⟨⟨Af,hr⟩,Bu⟩:=h;refine⟨⟨?_, ?_⟩,fun x hx=>Bu x (List.mem_of_mem_take hx)⟩
 .
  simp at Af ⊢;omega
 .
  rcases hr with⟨e,_⟩|⟨g,cap,cur,e,hb,hh,Fu,Pd,hs,ht⟩
  .
   simp at e
  .
   simp only[Value.slice.injEq,zG2,Addr.mk.injEq,and_true,true_and]at e;obtain⟨rfl,rfl⟩:=e;refine .inr ⟨q,c,cur,rfl,hb,hh,by omega,Pd,hs, ?_⟩;rw[List.map_take,<-ht,List.take_take];congr 1;omega
theorem Own.storedB{n:Nat}(h:Own w base (.slice (some ⟨q,0,none⟩) n c) n l)(j:Nat)(x:Int)(h0:0<=x)(h1:x<=255):
  Own (w.setCell ⟨q,j,none⟩ (.int .u8 x)) base (.slice (some ⟨q,0,none⟩) n c) n (l.set j x)/\w.grownBy (w.setCell ⟨q,j,none⟩ (.int .u8 x)) (some q):=by
 obtain⟨h2,h3⟩:=h.1.stored j (.int .u8 x);refine⟨⟨by rw[List.map_set];exact h2, ?_⟩,h3⟩;intro y hy;rcases List.mem_or_eq_of_mem_set hy with hy|rfl
 .
  exact h.2 y hy
 .
  exact⟨h0,h1⟩
theorem aV.grown{w':World}{a:Option Addr}{n:Nat}{row:Option Nat}(h:aV w a n l)(hg:w.grownBy w' row)(Ae:∀b off,a=some ⟨b,off,none⟩->row ≠ some b):aV w' a n l:=by
 refine⟨h.1,h.2.1,fun hp=>?_⟩;obtain⟨b,off,e,hc⟩:=h.2.2 hp;exact⟨b,off,e,fun i hi=>hg.cell (hc i hi) (fun e2=>Ae b off e e2.symm)⟩
theorem aV.tail{b n lo:Nat}(h:aV w (some ⟨b,off,none⟩) n l)(hm:lo<=n):aV w (some ⟨b,off+lo,none⟩) (n-lo) (l.drop lo):=by
 have:=h.part (lo:=lo) (m:=n-lo) A0;rwa [zD3 (by rw[List.length_drop,h.1];exact zB0 _)]at this
theorem rB{row:Option Nat}(h:w.grownBy w1 row):w.grownBy w1.drew row:=⟨h.os,h.tape,h.output,h.size,h.block⟩
theorem uX{row:Option Nat}(h:w.drew.grownBy w1 row):w.grownBy w1 row:=⟨h.os,h.tape,h.output,h.size,h.block⟩
theorem aNv (a b:Int):0<=bits .xor .u8 a b/\bits .xor .u8 a b<=255:=by
 unfold bits;simp only[IntKind.wrap_u8];omega
theorem aOq{o b s:Nat}(e:(some ⟨q,o,none⟩:Option Addr)=some ⟨b,off,none⟩)(e2:some s=some b)(h:q<s):False:=by
 simp only[zG2,Addr.mk.injEq,and_true]at e;have:=Option.some.inj e2;omega
theorem rA{v:Value}{g B:Nat}(Ox:∀k,v.ownBlock=some k->k=q)(hqb:B<=q)(Ey:g<B)(k:Nat)(hk:v.ownBlock=some k):some g ≠ some k:=by
 intro e;have h1:=Ox k hk;have h2:=Option.some.inj e;omega
end Go.Proofs.YtcbhdhmhidpdgaaGreat

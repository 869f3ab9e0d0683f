import Derived.Test.YtnelibmaancmkaaGreatDoorPackZ
import Derived.Test.YtnelibmaancmkaaGreatDoorPackC
namespace Go.Proofs.YtnelibmaancmkaaGreatDoor
open Go.RowKit
set_option maxHeartbeats 2000000
set_option linter.unusedVariables false
set_option linter.unusedSimpArgs false
set_option maxRecDepth 100000
theorem U123{p:Prop}(h:p:=by
 go_wp2_with fail
 go_roundw
 case rel=>exact⟨j+1,by omega,by go_num,HO3,HB3⟩
 case measure=>simp[intOf];omega):p:=h
def tI (b:Bool):Int:=if b then 1 else 0
def cP (ps:List Pa):List Int:=ps.map fun a=>tI a.arr
theorem oR {ps:List Pa}{j:Nat}{x:Pa}(h:ps[j]?=some x):cP (ps.take (j+1))=cP (ps.take j)++[tI x.arr]:=by
 obtain⟨hj,rfl⟩:=List.getElem?_eq_some_iff.1 h;unfold cP;rw[List.take_succ_eq_append_getElem hj,List.map_append]
 rfl
theorem mN (ps:List Pa):isI (cP ps):=by
 intro x hx;obtain⟨a,_,rfl⟩:=List.mem_map.1 hx;unfold tI
 split <;> omega
theorem aF1 (x:Bool)(w:World):Calls Tryz.prog 150 #[.bool x] w fun e w'=>e=.returned (.int .i64 (tI x))/\w'=w:=by
 cases x <;> (go_enter Tryz.func150,Tryz.ntmps150;go_wp2;go_ret;exact⟨rfl,rfl⟩)
theorem aIh (x:Bool)(w:World):Calls Tryz.prog 155 #[.bool x] w fun e w'=>e=.returned (.int .i64 (tI x))/\w'=w:=by
 cases x <;> (go_enter Tryz.func155,Tryz.ntmps155;go_wp2;go_ret;exact⟨rfl,rfl⟩)
theorem kM {w:World}{ops:Array Oper}{rest:List Oper}{o:Oper}{a:Act}{Q:Exit->Act->World->Prop}(hgd:o.guard=none)(s x:Operand)
  (ho:o.op=.call { callee:=.builtin .append,args:=#[s,x],argTypes:=#[102,102] })
  (base:Nat) (v:Value) (n:Nat) (l:List Int) (hs:a.eval s=v) (Av:w.ownsRow base 3 1 v n (iV l))
  (g:Nat) (z:Int) (hx:a.eval x=.slice (some ⟨g,0,none⟩) 1 1) (hc:w.cell? ⟨g,0,none⟩=some (.int .i64 z)) (Bb:n<=1099511627776) (hbase:base<=w.heap.size)
  (h:∀v' w',w'.ownsRow base 3 1 v' (n+1) (iV (l++[z]))->w.grownBy w' v.ownBlock->wpList Tryz.prog ops Q rest (a.put o.dst v') w'):wpList Tryz.prog ops Q (o :: rest) a w:=by
 obtain⟨i0,hi,hz0,hz1,hz2⟩:=info_parts aKx
 refine wpList_append_own w hgd s x 102 ho base 3 i0 (.int .i64 0) 1 8 Tryz.underlying102 hi hz0 hz1 hz2 rfl (by decide) v n _ hs Av ⟨g,0,none⟩ 1 1 [.int .i64 z] hx rfl ?_ (by simp[Value.oneCell']) V14 V6 hbase ?_
 .
  intro j u hu
  match j,hu with
  | 0,hu=>simp at hu;subst hu;exact hc
  | j+1,hu=>simp at hu
 .
  intro v' w' ho' hg' _
  exact h v' w' (by simpa [iV] using ho') hg'
theorem aKt (ps:List Pa)(a:Option Addr)(n c:Nat)(w:World)(hl:ps.length=n)(h:aS w a c 2 (ps.map Pa.fl))(hn:n<=1048576):
  Calls Tryz.prog 140 #[.slice a n c] w fun e w'=>∃v,e=.returned v/\Ob w' 3 w.heap.size w'.heap.size v n (iV (cP ps))/\Below w.heap.size w w':=by
 have HL:Hid (ps.length=n):=hl
 have HR:Hid (aS w a c 2 (ps.map Pa.fl)):=h
 clear hl h;go_enter Tryz.func140,Tryz.ntmps140;go_wp2_with fail
 go_loopw [3,8] (fun kv i wr=>∃j:Nat,j<=n/\i=.int .i64 j/\Hid (wr.ownsRow w.heap.size 3 1 kv j (iV (cP (ps.take j))))/\Hid (Below w.heap.size w wr)) (fun _ i _=>n-(intOf i).toNat)
 case atStart=>exact⟨0,Nat.zero_le _,rfl,World.ownsRow_nil _ _ _ _,Below.refl _ _⟩
 case round=>
  obtain⟨j,hj,rfl,ho,hb⟩:=hrel;obtain⟨a3,c3,rfl,_,_,_,_⟩:=gN ho.out
  by_cases Ai:j<n
  .
   obtain⟨x,hx⟩:∃x,ps[j]?=some x:=⟨_,List.getElem?_eq_getElem (by rw[HL.out];exact Ai)⟩
   obtain⟨bx,offx,rfl⟩:=aS.addr HR.out (by rw[List.length_map,HL.out];omega)
   obtain⟨vs,Ad,Ab⟩:=(aS.el HR.out (show(ps.map Pa.fl)[j]?=some x.fl by rw[List.getElem?_map,hx];rfl)).vals
   obtain⟨y0,us,rfl,⟨ax,cx,rfl,_⟩,y1,us1,rfl,rfl,rfl⟩:=Ad;have r0:=aB (Ab 0 _ rfl) hb.out;have r1:=aB (Ab 1 _ rfl) hb.out;rw[Nat.add_zero]at r0
   have HK:Hid (cP (ps.take (j+1))=cP (ps.take j)++[tI x.arr]):=oR hx
   have x1:=Blk.new wr 128 [.slice ax x.name.length cx,.bool x.arr]
   have HO:Hid ((wr.alloc (.cells #[.slice ax x.name.length cx,.bool x.arr] 128 (0,0))).ownsRow w.heap.size 3 1 (.slice a3 j c3) j (iV (cP (ps.take j)))):=ho.out.alloc _
   have HB:Hid (Below w.heap.size w (wr.alloc (.cells #[.slice ax x.name.length cx,.bool x.arr] 128 (0,0)))):=hb.out.alloc hb.out.size _
   simp only[List.toArray]at x1;clear Ab hx ho hb;go_upto_region 5 with fail;generalize wr.alloc (.cells #[.slice ax x.name.length cx,.bool x.arr] 128 (0,0))=w1 at *;have q1:=x1.cell (i:=1) rfl;have HT:=aF1 x.arr w1;have hw1:=HB.out.size
   have hc1:(w1.alloc (.cells #[.int .i64 (tI x.arr)] 3)).cell? ⟨w1.heap.size,0,none⟩=some (.int .i64 (tI x.arr)):=by simp
   have HO2:Hid ((w1.alloc (.cells #[.int .i64 (tI x.arr)] 3)).ownsRow w.heap.size 3 1 (.slice a3 j c3) j (iV (cP (ps.take j)))):=HO.out.alloc _
   have HB2:Hid (Below w.heap.size w (w1.alloc (.cells #[.int .i64 (tI x.arr)] 3))):=HB.out.alloc hw1 _
   clear HO HB;go_wp2_with fail;refine HT.mono ?_;rintro e w2 ⟨rfl,rfl⟩
   go_wp2_with (at_builtin;refine kM rfl _ _ rfl w.heap.size _ j _ rfl HO2.out w2.heap.size (tI x.arr) rfl hc1 V6 V52 ?_)
   intro v3 w3 ho3 hg3
   have HO3:Hid (w3.ownsRow w.heap.size 3 1 v3 (j+1) (iV (cP (ps.take (j+1))))):=by rw[HK.out];exact ho3
   have HB3:Hid (Below w.heap.size w w3):=HB2.out.grown hg3 HB2.out.size (fun k hk=>(HO2.out.lt k hk).1)
   clear HO2 HB2 ho3 hg3 HT r0 r1 q1 hc1 hw1;exact U123
  .
   have:n=j:=V6
   subst this;have hO:=ho.out
   rw[List.take_of_length_le (by rw[HL.out];exact Nat.le_refl _)]at hO
   go_wp2_with fail;go_ret
   exact⟨_,rfl,⟨hO,fun k hk=>(hO.lt k hk).2⟩,hb.out⟩
theorem aEt (q:Pr)(vs:List Value)(w:World)(h:aO w q.fl vs)(hn:q.params.length<=1048576):
  Calls Tryz.prog 104 #[agg vs] w fun e w'=>∃v,e=.returned v/\Ob w' 3 w.heap.size w'.heap.size v q.params.length (iV (cP q.params))/\Below w.heap.size w w':=by
 obtain⟨v0,_,rfl,_,v1,_,rfl,_,v2,_,rfl,h2,v3,_,rfl,_,v4,_,rfl,_,rfl⟩:=h;obtain⟨a,c,rfl,hR⟩:=h2.list;have x0:=Blk.new w 72 [v0,v1,.slice a (q.params.map Pa.fl).length c,v3,v4]
 have y0:Below w.heap.size w (w.alloc (.cells #[v0,v1,.slice a (q.params.map Pa.fl).length c,v3,v4] 72 (0,0))):=(Below.refl _ _).alloc (Nat.le_refl _) _
 obtain⟨n,hN⟩:∃z,z=q.params.length:=⟨_,rfl⟩
 have HL:Hid (q.params.length=n):=hN.symm
 have HR:Hid (aS w a c 2 (q.params.map Pa.fl)):=hR
 rw[List.length_map,<-hN]at x0 y0;rw[List.length_map];rw[<-hN]at hn ⊢;simp only[List.toArray]at x0;simp only[agg];clear hR h2 hN;go_enter Tryz.func104,Tryz.ntmps104;go_upto_region 1 with fail;generalize w.alloc (.cells #[v0,v1,.slice a n c,v3,v4] 72 (0,0))=w1 at *
 obtain⟨gx,An⟩:∃z,z=w.heap.size:=⟨_,rfl⟩
 have HX:Hid (Blk w1 w.heap.size 72 [v0,v1,.slice a n c,v3,v4]):=x0
 have H1:Hid (Below w.heap.size w w1):=y0
 have hlt1:=x0.lt;clear x0 y0 An gx;go_wp2_with fail
 go_loopw [3,4] (fun kv i wr=>∃j:Nat,j<=n/\i=.int .i64 j/\Hid (wr.ownsRow w1.heap.size 3 1 kv j (iV (cP (q.params.take j))))/\Hid (Below w1.heap.size w1 wr)) (fun _ i _=>n-(intOf i).toNat)
 case atStart=>exact⟨0,Nat.zero_le _,rfl,World.ownsRow_nil _ _ _ _,Below.refl _ _⟩
 case round=>
  obtain⟨j,hj,rfl,ho,hb⟩:=hrel;obtain⟨a3,c3,rfl,_,_,_,_⟩:=gN ho.out;have x1:=HX.out.below hb.out hlt1;have k2:=x1.cell (i:=2) rfl
  by_cases Ai:j<n
  .
   obtain⟨x,hx⟩:∃x,q.params[j]?=some x:=⟨_,List.getElem?_eq_getElem (by rw[HL.out];exact Ai)⟩
   obtain⟨bx,offx,rfl⟩:=aS.addr HR.out (by rw[List.length_map,HL.out];omega)
   obtain⟨vs,Ad,Ab⟩:=(aS.el HR.out (show(q.params.map Pa.fl)[j]?=some x.fl by rw[List.getElem?_map,hx];rfl)).vals
   obtain⟨y0,us,rfl,⟨ax,cx,rfl,_⟩,y1,us1,rfl,rfl,rfl⟩:=Ad
   have hbw:Below w.heap.size w wr:=H1.out.trans (hb.out.mono H1.out.size)
   have r1:=aB (Ab 1 _ rfl) hbw
   have HK:Hid (cP (q.params.take (j+1))=cP (q.params.take j)++[tI x.arr]):=oR hx
   have HT:=aIh x.arr wr;have hw1:=hb.out.size
   have hc1:(wr.alloc (.cells #[.int .i64 (tI x.arr)] 3)).cell? ⟨wr.heap.size,0,none⟩=some (.int .i64 (tI x.arr)):=by simp
   have HO2:Hid ((wr.alloc (.cells #[.int .i64 (tI x.arr)] 3)).ownsRow w1.heap.size 3 1 (.slice a3 j c3) j (iV (cP (q.params.take j)))):=ho.out.alloc _
   have HB2:Hid (Below w1.heap.size w1 (wr.alloc (.cells #[.int .i64 (tI x.arr)] 3))):=hb.out.alloc hw1 _
   clear Ab hx ho hb x1 hbw;go_wp2_with fail;refine HT.mono ?_;rintro e w2 ⟨rfl,rfl⟩
   go_wp2_with (at_builtin;refine kM rfl _ _ rfl w1.heap.size _ j _ rfl HO2.out w2.heap.size (tI x.arr) rfl hc1 V6 V52 ?_)
   intro v3 w3 ho3 hg3
   have HO3:Hid (w3.ownsRow w1.heap.size 3 1 v3 (j+1) (iV (cP (q.params.take (j+1))))):=by rw[HK.out];exact ho3
   have HB3:Hid (Below w1.heap.size w1 w3):=HB2.out.grown hg3 HB2.out.size (fun k hk=>(HO2.out.lt k hk).1)
   clear HO2 HB2 ho3 hg3 HT r1 hc1 hw1 k2;exact U123
  .
   have:n=j:=V6
   subst this;have hO:=ho.out
   rw[List.take_of_length_le (by rw[HL.out];exact Nat.le_refl _)]at hO
   have HF:Hid (Ob wr 3 w.heap.size wr.heap.size (.slice a3 n c3) n (iV (cP q.params))/\Below w.heap.size w wr):=⟨⟨oL hO H1.out.size,fun k hk=>(hO.lt k hk).2⟩,H1.out.trans (hb.out.mono H1.out.size)⟩
   clear hO ho hb x1;go_wp2_with fail;go_ret;exact⟨_,rfl,HF.out⟩
def Pr.fp (q:Pr):Fp:=⟨q.name,cP q.params⟩
def aMb (l:List Pr):List Fp:=(l.filter Pr.opn).map Pr.fp
theorem Fg.nil (w:World){lo hi:Nat}(h:lo<=hi):Fg w lo hi (.slice none 0 0) (.slice none 0 0) [] ⟨[],[]⟩:=
 ⟨⟨lo,Nat.le_refl _,h,⟨World.ownsRow_nil _ _ _ _,(fun k hk=>by cases hk)⟩,(fun x hx=>by cases hx),rfl⟩,World.ownsRow_nil _ _ _ _,fun k hk=>by cases hk⟩
theorem Fg.other {w:World}{lo hi g i:Nat}{nv pv v:Value}{l:List (Value × Value)}{f:Fa}{vs:List Value}(h:Fg w lo hi nv pv l f)(hb:Blk w g 79 vs):Fg (w.setCell ⟨g,i,none⟩ v) lo hi nv pv l f:=by
 have key:∀(k:Nat) (T:TypeId) (cur:Array Value),T ≠ 79->w.heap[k]?=some (.cells cur T (0,0))->(w.setCell ⟨g,i,none⟩ v).heap[k]?=w.heap[k]?:=by
  intro k T cur hT hk
  refine heap_setCell_other w ⟨g,i,none⟩ k v (fun e=>?_)
  simp only at e
  rw[e,hb]at hk;simp only[Option.some.injEq,Obj.cells.injEq]at hk;exact hT hk.2.1.symm
 obtain⟨m,a,b,h1,hb',h2⟩:=h.name
 refine⟨⟨m,a,b,h1.stays (fun g' p q ⟨c,r⟩=>key _ _ c V7 r),hb',h2.stays (fun g' p q r=>?_)⟩,mL h.row (fun g' hg'=>?_),h.lt⟩
 .
  rcases r with⟨c,r⟩|⟨c,r⟩
  .
   exact key _ _ c V7 r
  .
   exact key _ _ c V7 r
 .
  obtain⟨c,r⟩:=sL h.row hg';exact key _ _ c V7 r
structure aNz (w w':World) (nv pv:Value) (f:Fa):Prop where
 got:∃l,Fg w' w.heap.size w'.heap.size nv pv l f
 below:Below w.heap.size w w'
structure FSt (w:World) (gM gR gF:Nat) (mv:List Value) (nv:Value) (name:List Int) (ps:List Pr) (wr:World) (j:Nat) (pv:Value) (l:List (Value × Value)):Prop where
 m:Blk wr gM 35 mv
 r:Blk wr gR 79 [.slice none 0 0,.slice none 0 0]
 f:Blk wr gF 79 [nv,pv]
 g:Fg wr w.heap.size wr.heap.size nv pv l ⟨name,aMb (ps.take j)⟩
 b:Below w.heap.size w wr
 n1:gM ≠ gF
 n2:gR ≠ gF
 lo:w.heap.size<=gF
theorem aEg (m:Mo){q:Pr}(hq:q ∈ m.procs):q.name.length+q.params.length+m.procs.length<=aH m.fl:=by
 have h1:=bK (List.mem_map_of_mem (f:=Pr.fl) hq)
 have e:aH q.fl=q.name.length+((q.params.map Pa.fl).length+aF (q.params.map Pa.fl)+(0+aH [.l 1 (bH q.locals),.l 6 (sts q.body)])):=by simp[Pr.fl,aH,Fl.len]
 have e2:aH m.fl=m.name.length+(Fl.len (.l 1 (bH m.uses))+(Fl.len (.l 2 (m.vars.map Va.fl))+((m.procs.map Pr.fl).length+aF (m.procs.map Pr.fl)))):=by simp[Mo.fl,aH,Fl.len]
 rw[e]at h1;rw[e2];simp only[List.length_map]at h1 ⊢
 omega
end Go.Proofs.YtnelibmaancmkaaGreatDoor

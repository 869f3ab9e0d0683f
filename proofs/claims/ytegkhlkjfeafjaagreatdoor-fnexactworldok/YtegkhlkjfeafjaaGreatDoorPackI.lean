import Derived.Test.YtegkhlkjfeafjaaGreatDoorPackF
namespace Go.Proofs.YtegkhlkjfeafjaaGreatDoor
open Go.RowKit
set_option maxHeartbeats 2000000
set_option linter.unusedVariables false
set_option linter.unusedSimpArgs false
set_option maxRecDepth 100000
theorem U351{p:Prop}(h:p:=by
 go_wp2
 go_roundw
 case rel=>exact⟨j+1,by omega,by go_num,HO3,HB3⟩
 case measure=>simp[intOf];omega):p:=h
def tI (b:Bool):Int:=if b then 1 else 0
def aN1 (ps:List Pa):List Int:=ps.map fun a=>tI a.arr
theorem oR {ps:List Pa}{j:Nat}{x:Pa}(h:ps[j]?=some x):aN1 (ps.take (j+1))=aN1 (ps.take j)++[tI x.arr]:=by
 obtain⟨hj,rfl⟩:=zC1.1 h;unfold aN1;rw[zF1 hj,List.map_append]
 rfl
theorem mN (ps:List Pa):isI (aN1 ps):=by
 intro x hx;obtain⟨a,_,rfl⟩:=zE1.1 hx;unfold tI
 split <;> omega
theorem aF1 (x:Bool)(w:World):Calls Tryz.prog 154 #[.bool x] w fun e w'=>e=.returned (.int .i64 (tI x))/\w'=w:=by
 cases x <;> (go_enter Tryz.func154,Tryz.ntmps154;go_wp2;go_ret;exact⟨rfl,rfl⟩)
theorem aIh (x:Bool)(w:World):Calls Tryz.prog 79 #[.bool x] w fun e w'=>e=.returned (.int .i64 (tI x))/\w'=w:=by
 cases x <;> (go_enter Tryz.func79,Tryz.ntmps79;go_wp2;go_ret;exact⟨rfl,rfl⟩)
theorem kM {w:World}{ops:Array Oper}{rest:List Oper}{o:Oper}{a:Act}{Q:Exit->Act->World->Prop}(hgd:o.guard=none)(s x:Operand)
  (ho:o.op=.call { callee:=.builtin .append,args:=#[s,x],argTypes:=#[60,60] })
  (base:Nat) (v:Value) (n:Nat) (l:List Int) (hs:a.eval s=v) (Av:w.ownsRow base 3 1 v n (iV l))
  (g:Nat) (z:Int) (hx:a.eval x=.slice (some ⟨g,0,none⟩) 1 1) (hc:w.cell? ⟨g,0,none⟩=some (.int .i64 z)) (Bb:n<=1099511627776) (hbase:base<=w.heap.size)
  (h:∀v' w',w'.ownsRow base 3 1 v' (n+1) (iV (l++[z]))->w.grownBy w' v.ownBlock->wpList Tryz.prog ops Q rest (a.put o.dst v') w'):wpList Tryz.prog ops Q (o :: rest) a w:=by
 obtain⟨i0,hi,hz0,hz1,hz2⟩:=info_parts aKx
 refine wpList_append_own w hgd s x 60 ho base 3 i0 (.int .i64 0) 1 8 Tryz.underlying60 hi hz0 hz1 hz2 rfl (by decide) v n _ hs Av ⟨g,0,none⟩ 1 1 [.int .i64 z] hx rfl ?_ (by simp[Value.oneCell']) V14 V6 hbase ?_
 .
  intro j u hu
  match j,hu with
  | 0,hu=>simp at hu;subst hu;exact hc
  | j+1,hu=>simp at hu
 .
  intro v' w' ho' hg' _
  exact h v' w' (by simpa [iV] using ho') hg'
theorem aKt (ps:List Pa)(a:Option Addr)(n c:Nat)(w:World)(hl:ps.length=n)(h:aS w a c 2 (ps.map Pa.fl))(hn:n<=1048576):
  Calls Tryz.prog 106 #[.slice a n c] w fun e w'=>∃v,e=.returned v/\Ob w' 3 w.heap.size w'.heap.size v n (iV (aN1 ps))/\Below w.heap.size w w':=by
 have HL:=hid hl;have HR:=hid h;clear hl h;go_enter Tryz.func106,Tryz.ntmps106;go_wp2_with fail
 go_loopw [3,8] (fun kv i wr=>∃j:Nat,j<=n/\i=.int .i64 j/\Hid (wr.ownsRow w.heap.size 3 1 kv j (iV (aN1 (ps.take j))))/\Hid (Below w.heap.size w wr)) (fun _ i _=>n-(intOf i).toNat)
 case atStart=>exact⟨0,zD1 _,rfl,World.ownsRow_nil _ _ _ _,zD2 _ _⟩
 case round=>
  obtain⟨j,hj,rfl,ho,hb⟩:=hrel;obtain⟨a3,c3,rfl,_,_,_,_⟩:=gN ho.out
  by_cases Ai:j<n
  .
   obtain⟨x,hx⟩:∃x,ps[j]?=some x:=⟨_,zA0 (by rw[HL.out];exact Ai)⟩
   obtain⟨bx,offx,rfl⟩:=aS.addr HR.out (by rw[zB2,HL.out];omega)
   obtain⟨vs,Ad,Ab⟩:=(aS.el HR.out (show(ps.map Pa.fl)[j]?=some x.fl by rw[zA2,hx];rfl)).vals
   obtain⟨y0,us,rfl,⟨ax,cx,rfl,_⟩,y1,us1,rfl,rfl,rfl⟩:=Ad;have r0:=aB (Ab 0 _ rfl) hb.out;have r1:=aB (Ab 1 _ rfl) hb.out;rw[zG2]at r0;have HK:=hid (oR hx);have x1:=Blk.new wr 126 [.slice ax x.name.length cx,.bool x.arr]
   have HO:Hid ((wr.alloc (.cells #[.slice ax x.name.length cx,.bool x.arr] 126 (0,0))).ownsRow w.heap.size 3 1 (.slice a3 j c3) j (iV (aN1 (ps.take j)))):=ho.out.alloc _
   have HB:Hid (Below w.heap.size w (wr.alloc (.cells #[.slice ax x.name.length cx,.bool x.arr] 126 (0,0)))):=hb.out.alloc hb.out.size _
   simp only[List.toArray]at x1;clear Ab hx ho hb;go_upto_region 5 with fail;generalize wr.alloc (.cells #[.slice ax x.name.length cx,.bool x.arr] 126 (0,0))=w1 at *;have q1:=x1.k 1;have HT:=aF1 x.arr w1;have hw1:=HB.out.size
   have hc1:(w1.alloc (.cells #[.int .i64 (tI x.arr)] 3)).cell? ⟨w1.heap.size,0,none⟩=some (.int .i64 (tI x.arr)):=by simp
   have HO2:Hid ((w1.alloc (.cells #[.int .i64 (tI x.arr)] 3)).ownsRow w.heap.size 3 1 (.slice a3 j c3) j (iV (aN1 (ps.take j)))):=HO.out.alloc _
   have HB2:Hid (Below w.heap.size w (w1.alloc (.cells #[.int .i64 (tI x.arr)] 3))):=HB.out.alloc hw1 _
   clear HO HB;go_wp2_with fail;refine HT.mono ?_;rintro e w2 ⟨rfl,rfl⟩
   go_wp2_with (at_builtin;refine kM rfl _ _ rfl w.heap.size _ j _ rfl HO2.out w2.heap.size (tI x.arr) rfl hc1 V6 V52 ?_)
   intro v3 w3 ho3 hg3
   have HO3:Hid (w3.ownsRow w.heap.size 3 1 v3 (j+1) (iV (aN1 (ps.take (j+1))))):=by rw[HK.out];exact ho3
   have HB3:Hid (Below w.heap.size w w3):=HB2.out.grown hg3 HB2.out.size (fun k hk=>(HO2.out.lt k hk).1)
   clear HO2 HB2 ho3 hg3 HT r0 r1 q1 hc1 hw1;exact U351
  .
   have:n=j:=V6
   subst this;have hO:=ho.out
   rw[zD3 (by rw[HL.out];exact zB0 _)]at hO
   go_wp2;go_ret
   exact⟨_,rfl,⟨hO,fun k hk=>(hO.lt k hk).2⟩,hb.out⟩
theorem aEt (q:Pr)(vs:List Value)(w:World)(h:aO w q.fl vs)(hn:q.params.length<=1048576):
  Calls Tryz.prog 42 #[agg vs] w fun e w'=>∃v,e=.returned v/\Ob w' 3 w.heap.size w'.heap.size v q.params.length (iV (aN1 q.params))/\Below w.heap.size w w':=by
 obtain⟨v0,_,rfl,_,v1,_,rfl,_,v2,_,rfl,h2,v3,_,rfl,_,v4,_,rfl,_,rfl⟩:=h;obtain⟨a,c,rfl,hR⟩:=h2.list;have x0:=Blk.new w 95 [v0,v1,.slice a (q.params.map Pa.fl).length c,v3,v4]
 have y0:Below w.heap.size w (w.alloc (.cells #[v0,v1,.slice a (q.params.map Pa.fl).length c,v3,v4] 95 (0,0))):=(zD2 _ _).alloc (zB0 _) _
 obtain⟨n,hN⟩:∃z,z=q.params.length:=⟨_,rfl⟩
 have HL:=hid hN.symm;have HR:=hid hR;rw[zB2,<-hN]at x0 y0;rw[zB2];rw[<-hN]at hn ⊢;simp only[List.toArray]at x0;simp only[agg];clear hR h2 hN;go_enter Tryz.func42,Tryz.ntmps42;go_upto_region 1 with fail;generalize w.alloc (.cells #[v0,v1,.slice a n c,v3,v4] 95 (0,0))=w1 at *
 obtain⟨gx,An⟩:∃z,z=w.heap.size:=⟨_,rfl⟩
 have HX:=hid x0;have H1:=hid y0;have hlt1:=x0.lt;clear x0 y0 An gx;go_wp2_with fail
 go_loopw [3,4] (fun kv i wr=>∃j:Nat,j<=n/\i=.int .i64 j/\Hid (wr.ownsRow w1.heap.size 3 1 kv j (iV (aN1 (q.params.take j))))/\Hid (Below w1.heap.size w1 wr)) (fun _ i _=>n-(intOf i).toNat)
 case atStart=>exact⟨0,zD1 _,rfl,World.ownsRow_nil _ _ _ _,zD2 _ _⟩
 case round=>
  obtain⟨j,hj,rfl,ho,hb⟩:=hrel;obtain⟨a3,c3,rfl,_,_,_,_⟩:=gN ho.out;have x1:=HX.out.below hb.out hlt1;have k2:=x1.k 2
  by_cases Ai:j<n
  .
   obtain⟨x,hx⟩:∃x,q.params[j]?=some x:=⟨_,zA0 (by rw[HL.out];exact Ai)⟩
   obtain⟨bx,offx,rfl⟩:=aS.addr HR.out (by rw[zB2,HL.out];omega)
   obtain⟨vs,Ad,Ab⟩:=(aS.el HR.out (show(q.params.map Pa.fl)[j]?=some x.fl by rw[zA2,hx];rfl)).vals
   obtain⟨y0,us,rfl,⟨ax,cx,rfl,_⟩,y1,us1,rfl,rfl,rfl⟩:=Ad;have hbw:=H1.out.trans (hb.out.mono H1.out.size);have r1:=aB (Ab 1 _ rfl) hbw;have HK:=hid (oR hx);have HT:=aIh x.arr wr;have hw1:=hb.out.size
   have hc1:(wr.alloc (.cells #[.int .i64 (tI x.arr)] 3)).cell? ⟨wr.heap.size,0,none⟩=some (.int .i64 (tI x.arr)):=by simp
   have HO2:Hid ((wr.alloc (.cells #[.int .i64 (tI x.arr)] 3)).ownsRow w1.heap.size 3 1 (.slice a3 j c3) j (iV (aN1 (q.params.take j)))):=ho.out.alloc _
   have HB2:Hid (Below w1.heap.size w1 (wr.alloc (.cells #[.int .i64 (tI x.arr)] 3))):=hb.out.alloc hw1 _
   clear Ab hx ho hb x1 hbw;go_wp2_with fail;refine HT.mono ?_;rintro e w2 ⟨rfl,rfl⟩
   go_wp2_with (at_builtin;refine kM rfl _ _ rfl w1.heap.size _ j _ rfl HO2.out w2.heap.size (tI x.arr) rfl hc1 V6 V52 ?_)
   intro v3 w3 ho3 hg3
   have HO3:Hid (w3.ownsRow w1.heap.size 3 1 v3 (j+1) (iV (aN1 (q.params.take (j+1))))):=by rw[HK.out];exact ho3
   have HB3:Hid (Below w1.heap.size w1 w3):=HB2.out.grown hg3 HB2.out.size (fun k hk=>(HO2.out.lt k hk).1)
   clear HO2 HB2 ho3 hg3 HT r1 hc1 hw1 k2;exact U351
  .
   have:n=j:=V6
   subst this;have hO:=ho.out
   rw[zD3 (by rw[HL.out];exact zB0 _)]at hO
   have HF:Hid (Ob wr 3 w.heap.size wr.heap.size (.slice a3 n c3) n (iV (aN1 q.params))/\Below w.heap.size w wr):=⟨⟨oL hO H1.out.size,fun k hk=>(hO.lt k hk).2⟩,H1.out.trans (hb.out.mono H1.out.size)⟩
   clear hO ho hb x1;go_wp2;go_ret;exact⟨_,rfl,HF.out⟩
theorem aQl (a:Option Addr)(n c:Nat)(l:List Int)(w:World)(h:bW w a n l)(hz:a=none->c=0)(hn:n<=1048576):
  Calls Tryz.prog 105 #[.slice a n c] w fun e w'=>∃v,e=.returned v/\Ob w' 5 w.heap.size w'.heap.size v n (bV l)/\Below w.heap.size w w':=by
 cases a with
 | none=>
  obtain rfl:=hz rfl
  have h0:n=0:=by
   rcases zG0 n with h0|hp
   .
    exact h0
   .
    obtain⟨b,off,e,_⟩:=h.2.2 hp;cases e
  subst h0
  obtain rfl:l=[]:=zE0 h.1
  have hq:∀w,(binOp .eql 43 (.slice none 0 0) (.slice none 0 0)).run Tryz.prog w=.ok (.bool true) w:=fun w=>by kernel_rfl
  have HF:Hid (Ob w 5 w.heap.size w.heap.size (.slice none 0 0) 0 (bV [])):=⟨World.ownsRow_nil _ _ _ _,fun k hk=>by cases hk⟩
  clear h hz;go_enter Tryz.func105,Tryz.ntmps105;go_wp2;go_ret;exact⟨_,rfl,HF.out,zD2 _ _⟩
 | some x=>
  have hq:∀w,(binOp .eql 43 (.slice (some x) n c) (.slice none 0 0)).run Tryz.prog w=.ok (.bool false) w:=fun w=>by kernel_rfl
  have hE:=aOf w;have hB:=aOb w;have hR:=h.below hB;clear h;go_enter Tryz.func105,Tryz.ntmps105
  go_wp2_with (at_builtin;refine kN rfl _ _ rfl w.heap.size _ 0 [] rfl hE _ n c l rfl hR hz V6 V15 ?_)
  intro v3 w3 ho3 hg3
  have HF:Hid (Ob w3 5 w.heap.size w3.heap.size v3 n (bV l)/\Below w.heap.size w w3):=by
   exact⟨⟨ho3.1,fun k hk=>(ho3.1.lt k hk).2⟩,hB.grown hg3 hB.size (fun k hk=>(hE.1.lt k hk).1)⟩
  clear ho3 hg3 hE hB hR;go_wp2;go_ret;exact⟨_,rfl,HF.out⟩
theorem V98{p:Prop}(h:p:=by simp only[results,Tryz.results144];simp[go_sem,e0,e1]):p:=h
theorem V99{p:Prop}(h:p:=by simp only[results,Tryz.results179];simp[go_sem,e0,e1]):p:=h
theorem M9147{p q:Prop}(k:q)(h:Kx q->p:=by
 intro kQ
 rw[hs]at k1
 have z9:=tH (x:=.int .i64 1) (y:=.slice none 0 0) z0
 have y9:Below w.heap.size w ((w1.setCell ⟨w.heap.size+1,0,none⟩ (.int .i64 1)).setCell ⟨w.heap.size+1,1,none⟩ (.slice none 0 0)):=(y0.setCell (Nat.le_succ _) _).setCell (Nat.le_succ _) _
 revert y9;revert z9;revert k1
 exact kQ.o):p:=h ⟨k⟩
theorem M9151{p q:Prop}(k:q)(h:Kx q->p:=by
 intro kQ
 have z9:=tH (x:=.int .i64 2) (y:=.slice none 0 0) z0
 have y9:Below w.heap.size w ((w1.setCell ⟨w.heap.size+1,0,none⟩ (.int .i64 2)).setCell ⟨w.heap.size+1,1,none⟩ (.slice none 0 0)):=(y0.setCell (Nat.le_succ _) _).setCell (Nat.le_succ _) _
 revert y9;revert z9
 exact kQ.o):p:=h ⟨k⟩
abbrev Mn:=Int × List Int
def nC (g:List Int->Mn)(x:List Int)(v:Mn):List Int->Mn:=fun t=>if t=x then v else g t
def stG (g:List Int->Mn)(l:List (List Int × Mn)):List Int->Mn:=l.foldl (fun g p=>nC g p.1 p.2) g
theorem vR {g:List Int->Mn}{l:List (List Int × Mn)}{j:Nat}{p:List Int × Mn}(h:l[j]?=some p):stG g (l.take (j+1))=nC (stG g (l.take j)) p.1 p.2:=by
 obtain⟨hj,rfl⟩:=zC1.1 h;unfold stG;rw[zF1 hj,List.foldl_append]
 rfl
def aCl (g:List Int->Mn)(l:List (List Int × Mn))(j:Nat):Bool:=decide ((stG g (l.take j) (l[j]?.getD ([],(0,[]))).1).1=0)
def okG (g:List Int->Mn)(l:List (List Int × Mn)):Bool:=(List.range l.length).all (aCl g l)
theorem wX {w:World}{b o:Nat}{es:Array MapEntry}{c:Nat}(h:w.heap[b]?=some (.map es c)):w.cell? ⟨b,o,none⟩=none:=by
 unfold World.cell?
 simp[h]
def MnR (w:World)(v:Value)(s:Mn):Prop:=∃kv,v=.agg #[.int .i64 s.1,kv]/\(Fl.i s.2).Rd w kv
theorem MnR.below {w w':World}{v:Value}{s:Mn}(h:MnR w v s)(hb:Below w.heap.size w w'):MnR w' v s:=by
 obtain⟨kv,e,h1⟩:=h;exact⟨kv,e,h1.below hb⟩
theorem MnR.turn {w w':World}{b k:Nat}{f:List Int->Value}{v:Value}{s:Mn}(h:MnR w v s)(hm:NM w b k f)(hg:w.grownBy w' (some b)):MnR w' v s:=by
 obtain⟨kv,e,a,c,rfl,⟨h1,h2,h3⟩,r⟩:=h
 refine⟨_,e,a,c,rfl,⟨h1,h2,fun hn=>?_⟩,r⟩
 obtain⟨bx,off,rfl,hc⟩:=h3 hn
 refine⟨bx,off,rfl,fun i hi=>?_⟩
 have hx:=hc i hi;obtain⟨D,⟨es,cl,hb,_⟩,_⟩:=hm.ex
 have hne:bx ≠ b:=fun e=>by rw[e,wX hb]at hx;cases hx
 have Ai:bx<w.heap.size:=zJ1 w _ hx
 have:=hg.block bx Ai (by simpa using hne)
 unfold World.cell? at hx ⊢
 simp only at hx ⊢
 rw[this];exact hx
structure NT (w:World) (b k:Nat) (g:List Int->Mn):Prop where
 ex:∃f,NM w b k f/\∀s,Bt s->MnR w (f s) (g s)
theorem NT.lt {w:World}{b k:Nat}{g:List Int->Mn}(h:NT w b k g):b<w.heap.size:=by obtain⟨f,h1,_⟩:=h.ex;exact h1.lt
theorem NT.below {w w':World}{b k:Nat}{g:List Int->Mn}(h:NT w b k g)(hb:Below w.heap.size w w'):NT w' b k g:=by
 obtain⟨f,h1,h2⟩:=h.ex
 exact⟨⟨f,h1.below hb,fun s hs=>(h2 s hs).below hb⟩⟩
theorem NT.grown {w w':World}{b k:Nat}{g:List Int->Mn}(h:NT w b k g)(hg:w.grownBy w' none):NT w' b k g:=h.below (aA hg)
theorem NT.made (w:World):NT (w.alloc (.map #[] 0)) w.heap.size 0 (fun _=>(0,[])):=
 ⟨⟨_,NM.made w,fun s _=>⟨.slice none 0 0,rfl,none,0,rfl,⟨rfl,by simp,by simp⟩,by simp,by simp,fun _=>rfl⟩⟩⟩
theorem NT.put {w w':World}{b k k':Nat}{g:List Int->Mn}{f:List Int->Value}{s:List Int}{v:Value}{mn:Mn}(h1:NM w b k f)(h2:∀s,Bt s->MnR w (f s) (g s))(h':NM w' b k' (upd f s v))(hg:w.grownBy w' (some b))(hv:MnR w v mn):NT w' b k' (nC g s mn):=by
 refine⟨⟨_,h',fun t ht=>?_⟩⟩
 unfold upd nC
 by_cases e:t=s
 .
  rw[if_pos e,if_pos e];exact hv.turn h1 hg
 .
  rw[if_neg e,if_neg e];exact(h2 t ht).turn h1 hg
def kT (v:Va):Mn:=(if v.size=0 then 1 else 2,[])
def jF (a:Pa):Mn:=(if a.arr then 2 else 1,[])
def pR (q:Pr):Mn:=(3,aN1 q.params)
theorem wE (w:World):(Fl.i []).Rd w (.slice none 0 0):=⟨none,0,rfl,⟨rfl,by simp,by simp⟩,by simp,by simp,fun _=>rfl⟩
theorem tH {w:World}{g:Nat}{x y:Value}:Blk w g 196 [.int .i64 0,.slice none 0 0]->Blk ((w.setCell ⟨g,0,none⟩ x).setCell ⟨g,1,none⟩ y) g 196 [x,y]:=fun h=>(h.set (i:=0) x).set (i:=1) y
theorem xH (v:Va)(vs:List Value)(w:World)(h:aO w v.fl vs):
  Calls Tryz.prog 144 #[agg vs] w fun e w'=>e=.returned (.agg #[.int .i64 (kT v).1,.slice none 0 0])/\Below w.heap.size w w':=by
 obtain⟨v0,_,rfl,_,v1,_,rfl,rfl,rfl⟩:=h;have x0:=(Blk.new w 123 [v0,.int .i64 v.size]).old (o:=.cells #[.int .i64 0,.slice none 0 0] 196 (0,0));have z0:=Blk.new (w.alloc (.cells #[v0,.int .i64 v.size] 123 (0,0))) 196 [.int .i64 0,.slice none 0 0]
 have hg:(w.alloc (.cells #[v0,.int .i64 v.size] 123 (0,0))).heap.size=w.heap.size+1:=by simp
 have y0:Below w.heap.size w ((w.alloc (.cells #[v0,.int .i64 v.size] 123 (0,0))).alloc (.cells #[.int .i64 0,.slice none 0 0] 196 (0,0))):=((zD2 _ _).alloc (zB0 _) _).alloc V15 _
 simp only[List.toArray]at x0 z0;rw[hg]at z0;clear hg;simp only[agg];go_enter Tryz.func144,Tryz.ntmps144;go_upto_region 1 with fail;generalize (w.alloc (.cells #[v0,.int .i64 v.size] 123 (0,0))).alloc (.cells #[.int .i64 0,.slice none 0 0] 196 (0,0))=w1 at *;have k1:=x0.k 1;obtain⟨d0,d1⟩:=z0.c2;have f0:=z0.free 0;have f1:=z0.free 1
 by_cases hs:v.size=0
 .
  have HE:Hid ((kT v).1=1):=if_pos hs
  refine M9147 ?_;clear k1;intro k1 z9 y9;clear hs;go_wp2_with fail;generalize (w1.setCell ⟨w.heap.size+1,0,none⟩ (.int .i64 1)).setCell ⟨w.heap.size+1,1,none⟩ (.slice none 0 0)=w9 at *;obtain⟨e0,e1⟩:=z9.c2
  refine zJ0 (v:=.agg #[.int .i64 1,.slice none 0 0]) V98 rfl ⟨by rw[HE.out],y9⟩
 .
  have HE:Hid ((kT v).1=2):=if_neg hs
  have hsb:(v.size == 0)=false:=by simpa using hs
  refine M9151 ?_;intro z9 y9;clear hs;go_wp2_with fail;generalize (w1.setCell ⟨w.heap.size+1,0,none⟩ (.int .i64 2)).setCell ⟨w.heap.size+1,1,none⟩ (.slice none 0 0)=w9 at *;obtain⟨e0,e1⟩:=z9.c2
  refine zJ0 (v:=.agg #[.int .i64 2,.slice none 0 0]) V98 rfl ⟨by rw[HE.out],y9⟩
theorem yW (a:Pa)(vs:List Value)(w:World)(h:aO w a.fl vs):
  Calls Tryz.prog 179 #[agg vs] w fun e w'=>e=.returned (.agg #[.int .i64 (jF a).1,.slice none 0 0])/\Below w.heap.size w w':=by
 obtain⟨v0,_,rfl,_,v1,_,rfl,rfl,rfl⟩:=h;have x0:=(Blk.new w 126 [v0,.bool a.arr]).old (o:=.cells #[.int .i64 0,.slice none 0 0] 196 (0,0));have z0:=Blk.new (w.alloc (.cells #[v0,.bool a.arr] 126 (0,0))) 196 [.int .i64 0,.slice none 0 0]
 have hg:(w.alloc (.cells #[v0,.bool a.arr] 126 (0,0))).heap.size=w.heap.size+1:=by simp
 have y0:Below w.heap.size w ((w.alloc (.cells #[v0,.bool a.arr] 126 (0,0))).alloc (.cells #[.int .i64 0,.slice none 0 0] 196 (0,0))):=((zD2 _ _).alloc (zB0 _) _).alloc V15 _
 simp only[List.toArray]at x0 z0;rw[hg]at z0;clear hg;simp only[agg];go_enter Tryz.func179,Tryz.ntmps179;go_upto_region 1 with fail;generalize (w.alloc (.cells #[v0,.bool a.arr] 126 (0,0))).alloc (.cells #[.int .i64 0,.slice none 0 0] 196 (0,0))=w1 at *;have k1:=x0.k 1;obtain⟨d0,d1⟩:=z0.c2;have f0:=z0.free 0;have f1:=z0.free 1
 cases hs:a.arr
 .
  have HE:Hid ((jF a).1=1):=by show _=_;unfold jF;rw[hs];rfl
  refine M9147 ?_;clear k1;intro k1 z9 y9;clear hs;go_wp2_with fail;generalize (w1.setCell ⟨w.heap.size+1,0,none⟩ (.int .i64 1)).setCell ⟨w.heap.size+1,1,none⟩ (.slice none 0 0)=w9 at *;obtain⟨e0,e1⟩:=z9.c2
  refine zJ0 (v:=.agg #[.int .i64 1,.slice none 0 0]) V99 rfl ⟨by rw[HE.out],y9⟩
 .
  have HE:Hid ((jF a).1=2):=by show _=_;unfold jF;rw[hs];rfl
  rw[hs]at k1;refine M9151 ?_;intro z9 y9;clear hs;go_wp2_with fail;generalize (w1.setCell ⟨w.heap.size+1,0,none⟩ (.int .i64 2)).setCell ⟨w.heap.size+1,1,none⟩ (.slice none 0 0)=w9 at *;obtain⟨e0,e1⟩:=z9.c2
  refine zJ0 (v:=.agg #[.int .i64 2,.slice none 0 0]) V99 rfl ⟨by rw[HE.out],y9⟩
theorem uC (q:Pr)(vs:List Value)(w:World)(h:aO w q.fl vs)(hn:q.params.length<=1048576):
  Calls Tryz.prog 147 #[agg vs] w fun e w'=>∃kv,e=.returned (.agg #[.int .i64 3,kv])/\(Fl.i (aN1 q.params)).Rd w' kv/\Below w.heap.size w w':=by
 obtain⟨v0,_,rfl,_,v1,_,rfl,_,v2,_,rfl,h2,v3,_,rfl,_,v4,_,rfl,_,rfl⟩:=h;obtain⟨ap,cp,rfl,hP⟩:=h2.list;rw[zB2]
 obtain⟨np,hnp⟩:∃z,z=q.params.length:=⟨_,rfl⟩
 have HNP:=hid hnp.symm;rw[<-hnp]at hn ⊢;have HP:=hid hP;clear hP h2 hnp;have x0:=(Blk.new w 95 [v0,v1,.slice ap np cp,v3,v4]).old (o:=.cells #[.int .i64 0,.slice none 0 0] 196 (0,0));have z0:=Blk.new (w.alloc (.cells #[v0,v1,.slice ap np cp,v3,v4] 95 (0,0))) 196 [.int .i64 0,.slice none 0 0]
 have hg:(w.alloc (.cells #[v0,v1,.slice ap np cp,v3,v4] 95 (0,0))).heap.size=w.heap.size+1:=by simp
 have y0:Below w.heap.size w ((w.alloc (.cells #[v0,v1,.slice ap np cp,v3,v4] 95 (0,0))).alloc (.cells #[.int .i64 0,.slice none 0 0] 196 (0,0))):=((zD2 _ _).alloc (zB0 _) _).alloc V15 _
 simp only[List.toArray]at x0 z0;rw[hg]at z0;clear hg;simp only[agg];go_enter Tryz.func147,Tryz.ntmps147;go_upto_region 1 with fail;generalize (w.alloc (.cells #[v0,v1,.slice ap np cp,v3,v4] 95 (0,0))).alloc (.cells #[.int .i64 0,.slice none 0 0] 196 (0,0))=w1 at *;have k2:=x0.k 2;have H1:=aKt q.params ap np cp w1 HNP.out (aS.below HP.out y0) hn;go_wp2_with fail;refine H1.mono ?_;rintro e w2 ⟨kv,rfl,ho,hb⟩;have z2:=z0.below hb z0.lt;have y2:=y0.trans (hb.mono y0.size)
 have As:(aN1 q.params).length=np:=by unfold aN1;rw[zB2,HNP.out]
 have hrd:(Fl.i (aN1 q.params)).Rd w2 kv:=Ob.irow (l:=aN1 q.params) (by rw[As];exact ho) (mN _)
 obtain⟨ak,ck,rfl,_,_,_,_⟩:=gN ho.own;clear H1 x0 z0 y0 k2;obtain⟨d0,d1⟩:=z2.c2;have f0:=z2.free 0;have f1:=z2.free 1;have z9:=tH (x:=.int .i64 3) (y:=.slice ak np ck) z2
 have y9:Below w.heap.size w ((w2.setCell ⟨w.heap.size+1,0,none⟩ (.int .i64 3)).setCell ⟨w.heap.size+1,1,none⟩ (.slice ak np ck)):=(y2.setCell (Nat.le_succ _) _).setCell (Nat.le_succ _) _
 have hob2:Ob ((w2.setCell ⟨w.heap.size+1,0,none⟩ (.int .i64 3)).setCell ⟨w.heap.size+1,1,none⟩ (.slice ak np ck)) 3 w1.heap.size w2.heap.size (.slice ak np ck) np (iV (aN1 q.params)):=ho.stays (fun g p1 p2 r=>by
  obtain⟨c,r⟩:=r
  have hne:g ≠ w.heap.size+1:=fun e=>by
   rw[e]at r
   have:=(show w2.heap[w.heap.size+1]?=_ from z2).symm.trans r
   simp only[zG3,Obj.cells.injEq]at this
   exact absurd this.2.1 (by decide)
  exact(heap_setCell_other _ ⟨w.heap.size+1,1,none⟩ g _ hne).trans (heap_setCell_other w2 ⟨w.heap.size+1,0,none⟩ g _ hne))
 have HRD:Hid ((Fl.i (aN1 q.params)).Rd ((w2.setCell ⟨w.heap.size+1,0,none⟩ (.int .i64 3)).setCell ⟨w.heap.size+1,1,none⟩ (.slice ak np ck)) (.slice ak np ck)):=Ob.irow (l:=aN1 q.params) (by rw[As];exact hob2) (mN _)
 clear hob2 hrd ho;go_wp2_with fail;generalize (w2.setCell ⟨w.heap.size+1,0,none⟩ (.int .i64 3)).setCell ⟨w.heap.size+1,1,none⟩ (.slice ak np ck)=w9 at *;obtain⟨e0,e1⟩:=z9.c2
 refine zJ0 (v:=.agg #[.int .i64 3,.slice ak np ck]) (by simp only[results,Tryz.results147];simp[go_sem,e0,e1]) rfl ⟨_,rfl,HRD.out,y9⟩
structure tL (w w':World) (b k:Nat) (g:List Int->Mn) (x:List Int) (mn:Mn):Prop where
 yes:(g x).1=0->NT w' b (k+1) (nC g x mn)
 no:(g x).1 ≠ 0->NT w' b k g
 grown:w.grownBy w' (some b)
theorem nU (w:World)(b k:Nat)(g:List Int->Mn)(h:NT w b k g)(hk:k<1000000)(a:Option Addr)(n c:Nat)(x:List Int)(hx:bW w a n x)(hn:n<=1048576)(s:Int)(kv:Value)(ks:List Int)(hkv:(Fl.i ks).Rd w kv):
  Calls Tryz.prog 143 #[.map (some b),.slice a n c,.agg #[.int .i64 s,kv]] w fun e w'=>e=.returned (.bool (decide ((g x).1=0)))/\tL w w' b k g x (s,ks):=by
 have hbt:=hx.2.1
 have hxl:x.length<=maxLen:=by rw[hx.1];unfold maxLen;omega
 have x0:=Blk.new w 196 [.int .i64 s,kv];have y0:=aC w (.cells #[.int .i64 s,kv] 196 (0,0)) none;have h1:=h.grown y0;have hx1:=hx.below (aA y0);have hkv1:=hkv.below (aA y0);simp only[List.toArray]at x0;clear h hx hkv;go_enter Tryz.func143,Tryz.ntmps143;go_upto_region 1 with fail;generalize w.alloc (.cells #[.int .i64 s,kv] 196 (0,0))=w1 at *;have HN:=hid h1;obtain⟨f,hf1,hf2⟩:=h1.ex;have kc:=aT c hx1;have hlk:=hf1.lookup hbt hxl;obtain⟨_,ef,a0,c0,rfl,_⟩:=hf2 x hbt;rw[ef]at hlk;generalize (g x).2.length=n0 at *
 have hfd:∀(z:Int) (w:World),(Instr.field 196 (.agg #[.int .i64 z,.slice a0 n0 c0]) 0).run Tryz.prog w=.ok (.int .i64 z) w:=fun z w=>by kernel_rfl
 obtain⟨ak,ck,rfl,hkr⟩:=hkv1;obtain⟨q0,q1⟩:=x0.c2;have Y0:=hid y0
 by_cases hz:(g x).1=0
 .
  have HF:=hid (zB3 hz);have HZ:=hid hz;rw[hz]at hlk;clear hz
  go_wp2_with (at_mapUpdate;refine tP rfl _ _ _ rfl hf1 V14 x (.agg #[.int .i64 s,.slice ak ks.length ck]) rfl rfl rfl hbt hxl ?_)
  intro w2 hN2 Be
  have HD:Hid (tL w w2 b k g x (s,ks)):=⟨fun _=>NT.put hf1 hf2 hN2 Be ⟨_,rfl,ak,ck,rfl,hkr⟩,fun e=>absurd HZ.out e,⟨Be.os.trans Y0.out.os,Be.tape.trans Y0.out.tape,Be.output.trans Y0.out.output,zF2 Y0.out.size Be.size,fun i hi hne=>(Be.block i (Nat.lt_of_lt_of_le hi Y0.out.size) hne).trans (Y0.out.block i hi V15)⟩⟩
  clear hN2 Be hlk hf1 hf2 q0 q1 x0 hkr kc;go_wp2;go_ret;exact⟨aE HF.out.symm,HD.out⟩
 .
  have HF:=hid (zC2 hz)
  have hzb:((g x).1 != 0)=true:=by simpa using hz
  have HD:Hid (tL w w1 b k g x (s,ks)):=⟨fun e=>absurd e hz,fun _=>HN.out,bU Y0.out _⟩
  clear hz hf1 hf2;go_wp2;go_ret;exact⟨aE HF.out.symm,HD.out⟩
theorem V2{p:Prop}(h:p:=by kernel_rfl):p:=h
theorem V91{p:Prop}(h:p:=by simp only[results,Tryz.results122];simp[go_sem]):p:=h
theorem U315{p:Prop}(h:p:=by
 go_wp2_with fail
 refine H1.mono ?_
 rintro e w2 ⟨rfl,hg⟩
 have yg:=aD y0 hg
 clear q2 q3 k0 k1 k2 k3 z0 z1 y0 hg H1
 go_wp2_with fail
 refine zJ0 (v:=.tuple #[.slice none 0 0,.bool false]) V91 rfl ⟨.slice none 0 0,by rw[HF.out];rfl,(fun k hk=>by rw[HF.out]at hk;cases hk),yg⟩):p:=h
theorem M92{p q:Prop}(k:q)(h:Kx q->p:=by
 intro kQ
 refine ta 0 ?_
 refine ta 1 ?_
 refine ta 2 ?_
 try simp only[nrm]
 refine ta 3 ?_
 refine ta 4 ?_
 refine ta 5 ?_
 try simp only[nrm]
 exact kQ.o):p:=h ⟨k⟩
def aDp (m:Mo)(x:List Int):Option (List Int):=(ix (m.procs.map Pr.name) x).bind fun i=>m.procs[i]?.map fun q=>aN1 q.params
def nG (fs:List Fa)(x:List Int):Option Fa:=(ix (fs.map Fa.name) x).bind fun i=>fs[i]?
def nE (f:Fa)(x:List Int):Option (List Int):=(ix (f.procs.map Fp.name) x).bind fun i=>f.procs[i]?.map Fp.kinds
def fO (m:Mo)(fs:List Fa)(mod name:List Int):Option (List Int):=
 if mod=[] then aDp m name else (nG fs mod).bind fun f=>if mod ∈ m.uses then nE f name else none
theorem zG {m:Mo}{fs:List Fa}{mod name:List Int}(h:mod=[]):fO m fs mod name=aDp m name:=if_pos h
theorem zH {m:Mo}{fs:List Fa}{mod name:List Int}(h:mod ≠ []):fO m fs mod name=(nG fs mod).bind fun f=>if mod ∈ m.uses then nE f name else none:=if_neg h
set_option maxHeartbeats 8000000 in
theorem zE (m:Mo)(fs:List Fa)(x0 x1:Int)(mod name:List Int)(ks:List Ex)(vs es:List Value)(b:Option Addr)(nf d:Nat)(w:World)(hm:aO w m.fl vs)(hf:aS w b d 2 (fs.map Fa.fl))(hfl:fs.length=nf)(he:aO w (Ex.fl ⟨x0,x1,mod,name,ks⟩) es)
  (hpl:∀q ∈ m.procs,q.params.length<=1048576):
  Calls Tryz.prog 122 #[agg vs,.slice b nf d,agg es] w fun e w'=>∃v,e=.returned (.tuple #[v,.bool (fO m fs mod name).isSome])/\(∀k,fO m fs mod name=some k->(Fl.i k).Rd w' v)/\w.grownBy w' none:=by
 have hm0:=hm;obtain⟨v0,_,rfl,_,v1,_,rfl,hus,v2,_,rfl,_,v3,_,rfl,hpr,rfl⟩:=hm;obtain⟨e0,_,rfl,rfl,e1,_,rfl,rfl,e2,_,rfl,⟨am,cm,rfl,hbm,_⟩,e3,_,rfl,⟨an,cn,rfl,hbn,_⟩,e4,_,rfl,_,rfl⟩:=he;obtain⟨au,cu,rfl,hU⟩:=hus.list;obtain⟨ap,cp,rfl,hP⟩:=hpr.list;have hp9:=hP.len9;have hf9:=hf.len9;rw[zB2]at hp9 hf9;rw[hfl]at hf9
 have hul:(bH m.uses).length=m.uses.length:=by simp[bH]
 simp only[zB2,hul]at hm0 ⊢
 obtain⟨np,hnp⟩:∃z,z=m.procs.length:=⟨_,rfl⟩
 obtain⟨nu,hnu⟩:∃z,z=m.uses.length:=⟨_,rfl⟩
 have HNP:=hid hnp.symm;have HNU:=hid hnu.symm;rw[<-hnp,<-hnu]at hm0 ⊢;rw[<-hnp]at hp9;have HM:=hid hm0;have HP:=hid hP;have HU:=hid hU;have HFS:=hid hf;have HFL:=hid hfl;have HBM:=hid hbm;have HBN:=hid hbn;have HPL:=hid hpl;clear hm0 hP hU hf hfl hbm hbn hus hpr hnp hnu hpl hul;have z0:=(Blk.new w 48 [v0,.slice au nu cu,v2,.slice ap np cp]).old (o:=.cells #[.int .i64 x0,.int .i64 x1,.slice am mod.length cm,.slice an name.length cn,e4] 133 (0,0));have z1:=Blk.new (w.alloc (.cells #[v0,.slice au nu cu,v2,.slice ap np cp] 48 (0,0))) 133 [.int .i64 x0,.int .i64 x1,.slice am mod.length cm,.slice an name.length cn,e4]
 have hgz:(w.alloc (.cells #[v0,.slice au nu cu,v2,.slice ap np cp] 48 (0,0))).heap.size=w.heap.size+1:=by simp
 have y0:w.grownBy ((w.alloc (.cells #[v0,.slice au nu cu,v2,.slice ap np cp] 48 (0,0))).alloc (.cells #[.int .i64 x0,.int .i64 x1,.slice am mod.length cm,.slice an name.length cn,e4] 133 (0,0))) none:=aD (aC w _ none) (aC _ _ none)
 simp only[List.toArray]at z0 z1;rw[hgz]at z1;clear hgz;simp only[agg];go_enter Tryz.func122,Tryz.ntmps122;go_upto_region 1 with fail;generalize (w.alloc (.cells #[v0,.slice au nu cu,v2,.slice ap np cp] 48 (0,0))).alloc (.cells #[.int .i64 x0,.int .i64 x1,.slice am mod.length cm,.slice an name.length cn,e4] 133 (0,0))=w1 at *;have q2:=z1.k 2;have q3:=z1.k 3;obtain⟨k0,k1,k2,k3⟩:=z0.c4
 by_cases hmod:mod=[]
 .
  have HQ:Hid (fO m fs mod name=aDp m name):=zG hmod
  have hml:mod.length=0:=by rw[hmod];rfl
  rw[hml]at q2;have H1:=jS m _ w1 (aO.below HM.out (aA y0)) an name.length cn name (bW.below HBN.out (aA y0));simp only[agg,List.toArray]at H1
  cases hi:ix (m.procs.map Pr.name) name with
  | none=>
   have HF:Hid (fO m fs mod name=none):=by show _=_;rw[HQ.out];unfold aDp;rw[hi];rfl
   rw[cU hi]at H1;clear hi hmod;exact U315
  | some i=>
   obtain⟨q,hq,_⟩:=lW hi
   have HF:Hid (fO m fs mod name=some (aN1 q.params)):=by show _=_;rw[HQ.out];unfold aDp;rw[hi,Option.bind_some,hq];rfl
   have hil:i<np:=by have:=dY hq;rw[HNP.out]at this;exact this
   have hql:=HPL.out q (zA3 hq);rw[cJ hi]at H1
   obtain⟨bp,off,ys,rfl,hys,Ab⟩:=aS.cellsAt HP.out (show(m.procs.map Pr.fl)[i]?=some q.fl by rw[zA2,hq];rfl)
   have HY:Hid (aO w q.fl ys):=hys
   obtain⟨s0,_,rfl,_,s1,_,rfl,_,s2,_,rfl,_,s3,_,rfl,_,s4,_,rfl,_,rfl⟩:=hys
   have HR:Hid (∀z v,[s0,s1,s2,s3,s4][z]?=some v->w.cell? ⟨bp,off+i*5+z,none⟩=some v):=Ab
   clear hi hmod Ab hq;have hi0:¬((i:Int)<0):=V6;go_wp2_with fail;refine H1.mono ?_;rintro e w2 ⟨rfl,hg⟩;have yg:=aD y0 hg;replace z0:=z0.below (aA hg) z0.lt;have k3:=z0.k 3;have r0:=aB (HR.out 0 _ rfl) (aA yg);have r1:=aB (HR.out 1 _ rfl) (aA yg);have r2:=aB (HR.out 2 _ rfl) (aA yg);have r3:=aB (HR.out 3 _ rfl) (aA yg);have r4:=aB (HR.out 4 _ rfl) (aA yg);rw[zG2]at r0;have H2:=aEt q _ w2 (aO.below HY.out (aA yg)) hql;simp only[agg,List.toArray]at H2;clear q2 q3 k0 k1 k2 z0 z1 y0 hg H1;go_wp2_with fail;refine H2.mono ?_;rintro e w3 ⟨v,rfl,ho,hb⟩;have yh:=aD yg (aI hb none)
   have HV:Hid ((Fl.i (aN1 q.params)).Rd w3 v):=Ob.irow (l:=aN1 q.params) (by have:(aN1 q.params).length=q.params.length:=(by simp[aN1]);rw[this];exact ho) (mN _)
   clear H2 ho hb yg r0 r1 r2 r3 r4 k3;go_wp2_with fail
   refine zJ0 (v:=.tuple #[v,.bool true]) V91 rfl ⟨v,by rw[HF.out];rfl,(fun k hk=>by rw[HF.out]at hk;cases hk;exact HV.out),yh⟩
 .
  have HQ:Hid (fO m fs mod name=(nG fs mod).bind fun f=>if mod ∈ m.uses then nE f name else none):=zH hmod
  have hml:(mod.length:Int) ≠ 0:=by
   intro e;exact hmod (zE0 V6)
  have hmb:((mod.length:Int) == 0)=false:=by simpa using hml
  have H1:=oQ fs b nf d w1 (aS.below HFS.out (aA y0)) HFL.out am mod.length cm mod (bW.below HBM.out (aA y0));clear hmod
  cases hi:ix (fs.map Fa.name) mod with
  | none=>
   have HF:Hid (fO m fs mod name=none):=by show _=_;rw[HQ.out];unfold nG;rw[hi];rfl
   rw[cU hi]at H1;clear hi;exact U315
  | some i=>
   obtain⟨f,hff,_⟩:=lW hi
   have hfq:nG fs mod=some f:=by unfold nG;rw[hi,Option.bind_some,hff]
   have hil:i<nf:=by have:=dY hff;rw[HFL.out]at this;exact this
   rw[cJ hi]at H1
   obtain⟨bf,off,ys,rfl,hys,Ab⟩:=aS.cellsAt HFS.out (show(fs.map Fa.fl)[i]?=some f.fl by rw[zA2,hff];rfl)
   have HY0:=hys;obtain⟨s0,_,rfl,_,s1,_,rfl,hs1,rfl⟩:=hys;obtain⟨aq,cq,rfl,hQ⟩:=hs1.list;have hq9:=hQ.len9;rw[zB2]at hq9;rw[zB2]at Ab HY0
   obtain⟨nq,hnq⟩:∃z,z=f.procs.length:=⟨_,rfl⟩
   have HNQ:=hid hnq.symm;rw[<-hnq]at Ab HY0 hq9;have HY:=hid HY0
   have HR0:Hid (w.cell? ⟨bf,off+i*2,none⟩=some s0):=Ab 0 _ rfl
   have HR1:Hid (w.cell? ⟨bf,off+i*2+1,none⟩=some (.slice aq nq cq)):=Ab 1 _ rfl
   have HLQ:=hid hQ;clear hi Ab hff hQ hs1 HY0 hnq;have hi0:¬((i:Int)<0):=V6;go_wp2_with fail;refine H1.mono ?_;rintro e w2 ⟨rfl,hg⟩;have yg:=aD y0 hg;replace z0:=z0.below (aA hg) z0.lt;replace z1:=z1.below (aA hg) z1.lt;clear q2 q3 k0 k1 k2 k3 y0 hg H1;have q2:=z1.k 2;have k1:=z0.k 1;have H2:=aGf m.uses au nu cu w2 (aS.below HU.out (aA yg)) HNU.out am mod.length cm mod (bW.below HBM.out (aA yg))
   by_cases hin:mod ∈ m.uses
   .
    rw[zB3 hin]at H2
    have HQ2:Hid (fO m fs mod name=nE f name):=by show _=_;rw[HQ.out,hfq,Option.bind_some,if_pos hin]
    clear hin hfq;go_wp2_with fail;refine H2.mono ?_;rintro e w3 ⟨rfl,hg⟩;have yh:=aD yg hg;replace z0:=z0.below (aA hg) z0.lt;replace z1:=z1.below (aA hg) z1.lt;clear q2 k1 yg hg H2;have q3:=z1.k 3;go_wp2_with fail;have r0:=aB HR0.out (aA yh);have r1:=aB HR1.out (aA yh)
    have HS:∀{wl:World},Below w3.heap.size w3 wl->wl.cell? ⟨bf,off+i*2,none⟩=some s0/\wl.cell? ⟨bf,off+i*2+1,none⟩=some (.slice aq nq cq)/\wl.cell? ⟨w.heap.size+1,3,none⟩=some (.slice an name.length cn):=fun hb=>⟨aB r0 hb,aB r1 hb,aB q3 hb⟩
    have Al:=HS (wl:=w3.drew) (zD2 _ _).drew;have yd:=(aA yh).drew;have H3:=uN f _ w3.drew (aO.below HY.out yd) an name.length cn name (bW.below HBN.out yd);simp only[agg,List.toArray]at H3
    refine zK3 (S:=fun wl=>wl.cell? ⟨bf,off+i*2,none⟩=some s0/\wl.cell? ⟨bf,off+i*2+1,none⟩=some (.slice aq nq cq)/\wl.cell? ⟨w.heap.size+1,3,none⟩=some (.slice an name.length cn)) V2 Al (fun Aa=>?_)
    refine M92 ?_
    refine ra 6 fun K hK=>?_
    go_simp
    (with_reducible refine H3.mono ?_)
    rintro e w4 ⟨rfl,Bg⟩
    have b4:Below w3.heap.size w3 w4:=(zD2 w3.heap.size w3).drew.trans (aA Bg)
    have yi:=aD yh (aI b4 none);have HS4:=HS b4;go_wp2_with fail
    refine hK.out _ _ (HS4) (fun Aa=>?_)
    clear hK K;try simp only[nrm]
    refine ta 7 ?_;try simp only[nrm]
    refine zL0 V2 ?_ _;have rr1:=HS4.2.1;clear HS Al HS4 Aa H3 r0 r1 q3 yd z0 z1 yh Bg b4
    cases hj:ix (f.procs.map Fp.name) name with
    | none=>
     have HF:Hid (fO m fs mod name=none):=by show _=_;rw[HQ2.out];unfold nE;rw[hj];rfl
     rw[cU hj];clear hj rr1;go_wp2_with fail
     refine zJ0 (v:=.tuple #[.slice none 0 0,.bool false]) V91 rfl ⟨.slice none 0 0,by rw[HF.out];rfl,(fun k hk=>by rw[HF.out]at hk;cases hk),yi⟩
    | some j=>
     obtain⟨y,hy,_⟩:=lW hj
     have HF:Hid (fO m fs mod name=some y.kinds):=by show _=_;rw[HQ2.out];unfold nE;rw[hj,Option.bind_some,hy];rfl
     have hjl:j<nq:=by have:=dY hy;rw[HNQ.out]at this;exact this
     obtain⟨bq,off2,ys,rfl,hys,Ab⟩:=aS.cellsAt HLQ.out (show(f.procs.map Fp.fl)[j]?=some y.fl by rw[zA2,hy];rfl)
     obtain⟨t0,_,rfl,_,t1,_,rfl,ht1,rfl⟩:=hys;have HV:=hid (ht1.below (aA yi));have r2:=aB (Ab 1 _ rfl) (aA yi);obtain⟨at1,ct1,rfl,_⟩:=ht1;rw[cJ hj];have hj0:¬((j:Int)<0):=V6;clear hj hy Ab;generalize As:y.kinds.length=kl at *;go_wp2_with fail
     refine zJ0 (v:=.tuple #[.slice at1 kl ct1,.bool true]) V91 rfl ⟨.slice at1 kl ct1,by rw[HF.out];rfl,(fun k hk=>by rw[HF.out]at hk;cases hk;exact HV.out),yi⟩
   .
    rw[zC2 hin]at H2
    have HF:Hid (fO m fs mod name=none):=by show _=_;rw[HQ.out,hfq,Option.bind_some,if_neg hin]
    clear hin hfq;go_wp2_with fail;refine H2.mono ?_;rintro e w3 ⟨rfl,hg⟩;have yh:=aD yg hg;clear q2 k1 yg hg H2 z0 z1;go_wp2_with fail
    refine zJ0 (v:=.tuple #[.slice none 0 0,.bool false]) V91 rfl ⟨.slice none 0 0,by rw[HF.out];rfl,(fun k hk=>by rw[HF.out]at hk;cases hk),yh⟩
end Go.Proofs.YtegkhlkjfeafjaaGreatDoor

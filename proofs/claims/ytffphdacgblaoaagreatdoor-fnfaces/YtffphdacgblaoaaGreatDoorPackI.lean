import Derived.Test.YtffphdacgblaoaaGreatDoorPackF
import Derived.Test.YtffphdacgblaoaaGreatDoorPackE
namespace Go.Proofs.YtffphdacgblaoaaGreatDoor
open Go.RowKit
set_option maxHeartbeats 2000000
set_option linter.unusedVariables false
set_option linter.unusedSimpArgs false
set_option maxRecDepth 100000
def tI (b:Bool):Int:=if b then 1 else 0
def dR (ps:List Pa):List Int:=ps.map fun a=>tI a.arr
theorem xK {ps:List Pa}{j:Nat}{x:Pa}(h:ps[j]?=some x):dR (ps.take (j+1))=dR (ps.take j)++[tI x.arr]:=by
 obtain⟨hj,rfl⟩:=zC1.1 h;unfold dR;rw[zF1 hj,List.map_append]
 rfl
theorem nN (ps:List Pa):isI (dR ps):=by
 intro x hx;obtain⟨a,_,rfl⟩:=zE1.1 hx;unfold tI
 split <;> omega
theorem aJv (x:Bool)(w:World):Calls Tryz.prog 57 #[.bool x] w fun e w'=>e=.returned (.int .i64 (tI x))/\w'=w:=by
 cases x <;> (go_enter Tryz.func57,Tryz.ntmps57;go_wp2;go_ret;exact⟨rfl,rfl⟩)
theorem qP {w:World}{ops:Array Oper}{rest:List Oper}{o:Oper}{a:Act}{Q:Exit->Act->World->Prop}(hgd:o.guard=none)(s x:Operand)
  (ho:o.op=.call { callee:=.builtin .append,args:=#[s,x],argTypes:=#[56,56] })
  (base:Nat) (v:Value) (n:Nat) (l:List Int) (hs:a.eval s=v) (hown:w.ownsRow base 3 1 v n (iV l))
  (g:Nat) (z:Int) (hx:a.eval x=.slice (some ⟨g,0,none⟩) 1 1) (hc:w.cell? ⟨g,0,none⟩=some (.int .i64 z)) (Am:n<=1099511627776) (hbase:base<=w.heap.size)
  (h:∀v' w',w'.ownsRow base 3 1 v' (n+1) (iV (l++[z]))->w.grownBy w' v.ownBlock->wpList Tryz.prog ops Q rest (a.put o.dst v') w'):wpList Tryz.prog ops Q (o :: rest) a w:=by
 obtain⟨i0,hi,hz0,hz1,hz2⟩:=info_parts aRb
 refine wpList_append_own w hgd s x 56 ho base 3 i0 (.int .i64 0) 1 8 Tryz.underlying56 hi hz0 hz1 hz2 rfl Q6 v n _ hs hown ⟨g,0,none⟩ 1 1 [.int .i64 z] hx rfl ?_ (by simp[Value.oneCell']) Q17 Q0 hbase ?_
 .
  intro j u hu
  match j,hu with
  | 0,hu=>simp at hu;subst hu;exact hc
  | j+1,hu=>simp at hu
 .
  intro v' w' ho' hg' _
  exact h v' w' (by simpa [iV] using ho') hg'
theorem aKf (ps:List Pa)(a:Option Addr)(n c:Nat)(w:World)(hl:ps.length=n)(h:bQ w a c 2 (ps.map Pa.fl))(hn:n<=1048576):
  Calls Tryz.prog 22 #[.slice a n c] w fun e w'=>∃v,e=.returned v/\Ob w' 3 w.heap.size w'.heap.size v n (iV (dR ps))/\Below w.heap.size w w':=by
 have HL:=hid hl;have HR:=hid h;clear hl h;go_enter Tryz.func22,Tryz.ntmps22;go_wp2_with fail
 go_loopw [3,8] (fun kv i wr=>∃j:Nat,j<=n/\i=.int .i64 j/\Hid (wr.ownsRow w.heap.size 3 1 kv j (iV (dR (ps.take j))))/\Hid (Below w.heap.size w wr)) (fun _ i _=>n-(intOf i).toNat)
 case atStart=>exact⟨0,zD1 _,rfl,World.ownsRow_nil _ _ _ _,zD2 _ _⟩
 case round=>
  obtain⟨j,hj,rfl,ho,hb⟩:=hrel;obtain⟨a3,c3,rfl,_,_,_,_⟩:=dK ho.out
  by_cases Aj:j<n
  .
   obtain⟨x,hx⟩:∃x,ps[j]?=some x:=⟨_,zA0 (by rw[HL.out];exact Aj)⟩
   obtain⟨bx,offx,rfl⟩:=bQ.addr HR.out (by rw[zB2,HL.out];omega)
   obtain⟨vs,Ai,Ab⟩:=(bQ.el HR.out (show(ps.map Pa.fl)[j]?=some x.fl by rw[zA2,hx];rfl)).vals
   obtain⟨y0,us,rfl,⟨ax,cx,rfl,_⟩,y1,us1,rfl,rfl,rfl⟩:=Ai;have r0:=aC (Ab 0 _ rfl) hb.out;have r1:=aC (Ab 1 _ rfl) hb.out;rw[zG1]at r0;have HK:=hid (xK hx);have x1:=Blk.new wr 98 [.slice ax x.name.length cx,.bool x.arr]
   have HO:Hid ((wr.alloc (.cells #[.slice ax x.name.length cx,.bool x.arr] 98 (0,0))).ownsRow w.heap.size 3 1 (.slice a3 j c3) j (iV (dR (ps.take j)))):=ho.out.alloc _
   have HB:Hid (Below w.heap.size w (wr.alloc (.cells #[.slice ax x.name.length cx,.bool x.arr] 98 (0,0)))):=hb.out.alloc hb.out.size _
   simp only[List.toArray]at x1;clear Ab hx ho hb;go_upto_region 5 with fail;generalize wr.alloc (.cells #[.slice ax x.name.length cx,.bool x.arr] 98 (0,0))=w1 at *;have q1:=x1.k 1;have HT:=aJv x.arr w1;have hw1:=HB.out.size
   have hc1:(w1.alloc (.cells #[.int .i64 (tI x.arr)] 3)).cell? ⟨w1.heap.size,0,none⟩=some (.int .i64 (tI x.arr)):=by simp
   have HO2:Hid ((w1.alloc (.cells #[.int .i64 (tI x.arr)] 3)).ownsRow w.heap.size 3 1 (.slice a3 j c3) j (iV (dR (ps.take j)))):=HO.out.alloc _
   have HB2:Hid (Below w.heap.size w (w1.alloc (.cells #[.int .i64 (tI x.arr)] 3))):=HB.out.alloc hw1 _
   clear HO HB;go_wp2_with fail;refine HT.mono ?_;rintro e w2 ⟨rfl,rfl⟩
   go_wp2_with (at_builtin;refine qP rfl _ _ rfl w.heap.size _ j _ rfl HO2.out w2.heap.size (tI x.arr) rfl hc1 Q0 Q29 ?_)
   intro v3 w3 ho3 hg3
   have HO3:Hid (w3.ownsRow w.heap.size 3 1 v3 (j+1) (iV (dR (ps.take (j+1))))):=by rw[HK.out];exact ho3
   have HB3:Hid (Below w.heap.size w w3):=HB2.out.grown hg3 HB2.out.size (fun k hk=>(HO2.out.lt k hk).1)
   clear HO2 HB2 ho3 hg3 HT r0 r1 q1 hc1 hw1;go_wp2;go_roundw
   case rel=>exact⟨j+1,by omega,by go_num,HO3,HB3⟩
   case measure=>simp[intOf];omega
  .
   have:n=j:=Q0
   subst this;have hO:=ho.out
   rw[zD3 (by rw[HL.out];exact zB0 _)]at hO
   go_wp2;go_ret
   exact⟨_,rfl,⟨hO,fun k hk=>(hO.lt k hk).2⟩,hb.out⟩
theorem aKm (a:Option Addr)(n c:Nat)(l:List Int)(w:World)(h:eG w a n l)(hz:a=none->c=0)(hn:n<=1048576):
  Calls Tryz.prog 21 #[.slice a n c] w fun e w'=>∃v,e=.returned v/\Ob w' 5 w.heap.size w'.heap.size v n (bV l)/\Below w.heap.size w w':=by
 cases a with
 | none=>
  obtain rfl:=hz rfl
  have h0:n=0:=by
   rcases zG0 n with h0|hp
   .
    exact h0
   .
    obtain⟨b,off,e,_⟩:=h.2.2 hp;cases e
  subst h0
  obtain rfl:l=[]:=zE0 h.1
  have hq:∀w,(binOp .eql 22 (.slice none 0 0) (.slice none 0 0)).run Tryz.prog w=.ok (.bool true) w:=fun w=>by kernel_rfl
  have HF:Hid (Ob w 5 w.heap.size w.heap.size (.slice none 0 0) 0 (bV [])):=⟨World.ownsRow_nil _ _ _ _,fun k hk=>by cases hk⟩
  clear h hz;go_enter Tryz.func21,Tryz.ntmps21;go_wp2;go_ret;exact⟨_,rfl,HF.out,zD2 _ _⟩
 | some x=>
  have hq:∀w,(binOp .eql 22 (.slice (some x) n c) (.slice none 0 0)).run Tryz.prog w=.ok (.bool false) w:=fun w=>by kernel_rfl
  have hE:=aEo w;have hB:=yF w;have hR:=h.below hB;clear h;go_enter Tryz.func21,Tryz.ntmps21
  go_wp2_with (at_builtin;refine jG rfl _ _ rfl w.heap.size _ 0 [] rfl hE _ n c l rfl hR hz Q0 Q9 ?_)
  intro v3 w3 ho3 hg3
  have HF:Hid (Ob w3 5 w.heap.size w3.heap.size v3 n (bV l)/\Below w.heap.size w w3):=by
   exact⟨⟨ho3.1,fun k hk=>(ho3.1.lt k hk).2⟩,hB.grown hg3 hB.size (fun k hk=>(hE.1.lt k hk).1)⟩
  clear ho3 hg3 hE hB hR;go_wp2;go_ret;exact⟨_,rfl,HF.out⟩
theorem Q58{p:Prop}(h:p:=by simp only[results,Tryz.results41];simp[go_sem,e0,e1]):p:=h
theorem Q59{p:Prop}(h:p:=by simp only[results,Tryz.results83];simp[go_sem,e0,e1]):p:=h
theorem M977{p q:Prop}(k:q)(h:Kx q->p:=by
 intro kQ
 rw[hs]at k1
 have z9:=wC (x:=.int .i64 1) (y:=.slice none 0 0) z0
 have y9:Below w.heap.size w ((w1.setCell ⟨w.heap.size+1,0,none⟩ (.int .i64 1)).setCell ⟨w.heap.size+1,1,none⟩ (.slice none 0 0)):=(y0.setCell (Nat.le_succ _) _).setCell (Nat.le_succ _) _
 revert y9;revert z9;revert k1
 exact kQ.o):p:=h ⟨k⟩
theorem M979{p q:Prop}(k:q)(h:Kx q->p:=by
 intro kQ
 have z9:=wC (x:=.int .i64 2) (y:=.slice none 0 0) z0
 have y9:Below w.heap.size w ((w1.setCell ⟨w.heap.size+1,0,none⟩ (.int .i64 2)).setCell ⟨w.heap.size+1,1,none⟩ (.slice none 0 0)):=(y0.setCell (Nat.le_succ _) _).setCell (Nat.le_succ _) _
 revert y9;revert z9
 exact kQ.o):p:=h ⟨k⟩
abbrev Mn:=Int × List Int
def qL (g:List Int->Mn)(x:List Int)(v:Mn):List Int->Mn:=fun t=>if t=x then v else g t
def stG (g:List Int->Mn)(l:List (List Int × Mn)):List Int->Mn:=l.foldl (fun g p=>qL g p.1 p.2) g
theorem yS {g:List Int->Mn}{l:List (List Int × Mn)}{j:Nat}{p:List Int × Mn}(h:l[j]?=some p):stG g (l.take (j+1))=qL (stG g (l.take j)) p.1 p.2:=by
 obtain⟨hj,rfl⟩:=zC1.1 h;unfold stG;rw[zF1 hj,List.foldl_append]
 rfl
def aFo (g:List Int->Mn)(l:List (List Int × Mn))(j:Nat):Bool:=decide ((stG g (l.take j) (l[j]?.getD ([],(0,[]))).1).1=0)
def okG (g:List Int->Mn)(l:List (List Int × Mn)):Bool:=(List.range l.length).all (aFo g l)
theorem aAw {w:World}{b o:Nat}{es:Array MapEntry}{c:Nat}(h:w.heap[b]?=some (.map es c)):w.cell? ⟨b,o,none⟩=none:=by
 unfold World.cell?
 simp[h]
def MnR (w:World)(v:Value)(s:Mn):Prop:=∃kv,v=.agg #[.int .i64 s.1,kv]/\(Fl.i s.2).Rd w kv
theorem MnR.below {w w':World}{v:Value}{s:Mn}(h:MnR w v s)(hb:Below w.heap.size w w'):MnR w' v s:=by
 obtain⟨kv,e,h1⟩:=h;exact⟨kv,e,h1.below hb⟩
theorem MnR.turn {w w':World}{b k:Nat}{f:List Int->Value}{v:Value}{s:Mn}(h:MnR w v s)(hm:NM w b k f)(hg:w.grownBy w' (some b)):MnR w' v s:=by
 obtain⟨kv,e,a,c,rfl,⟨h1,h2,h3⟩,r⟩:=h
 refine⟨_,e,a,c,rfl,⟨h1,h2,fun hn=>?_⟩,r⟩
 obtain⟨bx,off,rfl,hc⟩:=h3 hn
 refine⟨bx,off,rfl,fun i hi=>?_⟩
 have hx:=hc i hi;obtain⟨D,⟨es,cl,hb,_⟩,_⟩:=hm.ex
 have Aw:bx ≠ b:=fun e=>by rw[e,aAw hb]at hx;cases hx
 have Aj:bx<w.heap.size:=zI3 w _ hx
 have:=hg.block bx Aj (by simpa using Aw)
 unfold World.cell? at hx ⊢
 simp only at hx ⊢
 rw[this];exact hx
structure NT (w:World) (b k:Nat) (g:List Int->Mn):Prop where
 ex:∃f,NM w b k f/\∀s,Bt s->MnR w (f s) (g s)
theorem NT.lt {w:World}{b k:Nat}{g:List Int->Mn}(h:NT w b k g):b<w.heap.size:=by obtain⟨f,h1,_⟩:=h.ex;exact h1.lt
theorem NT.below {w w':World}{b k:Nat}{g:List Int->Mn}(h:NT w b k g)(hb:Below w.heap.size w w'):NT w' b k g:=by
 obtain⟨f,h1,h2⟩:=h.ex
 exact⟨⟨f,h1.below hb,fun s hs=>(h2 s hs).below hb⟩⟩
theorem NT.grown {w w':World}{b k:Nat}{g:List Int->Mn}(h:NT w b k g)(hg:w.grownBy w' none):NT w' b k g:=h.below (aA hg)
theorem NT.made (w:World):NT (w.alloc (.map #[] 0)) w.heap.size 0 (fun _=>(0,[])):=
 ⟨⟨_,NM.made w,fun s _=>⟨.slice none 0 0,rfl,none,0,rfl,⟨rfl,by simp,by simp⟩,by simp,by simp,fun _=>rfl⟩⟩⟩
theorem NT.put {w w':World}{b k k':Nat}{g:List Int->Mn}{f:List Int->Value}{s:List Int}{v:Value}{mn:Mn}(h1:NM w b k f)(h2:∀s,Bt s->MnR w (f s) (g s))(h':NM w' b k' (upd f s v))(hg:w.grownBy w' (some b))(hv:MnR w v mn):NT w' b k' (qL g s mn):=by
 refine⟨⟨_,h',fun t ht=>?_⟩⟩
 unfold upd qL
 by_cases e:t=s
 .
  rw[if_pos e,if_pos e];exact hv.turn h1 hg
 .
  rw[if_neg e,if_neg e];exact(h2 t ht).turn h1 hg
def oN (v:Va):Mn:=(if v.size=0 then 1 else 2,[])
def mP (a:Pa):Mn:=(if a.arr then 2 else 1,[])
def zE (q:Pr):Mn:=(3,dR q.params)
theorem zP (w:World):(Fl.i []).Rd w (.slice none 0 0):=⟨none,0,rfl,⟨rfl,by simp,by simp⟩,by simp,by simp,fun _=>rfl⟩
theorem wC {w:World}{g:Nat}{x y:Value}:Blk w g 85 [.int .i64 0,.slice none 0 0]->Blk ((w.setCell ⟨g,0,none⟩ x).setCell ⟨g,1,none⟩ y) g 85 [x,y]:=fun h=>(h.set (i:=0) x).set (i:=1) y
theorem aA9 (v:Va)(vs:List Value)(w:World)(h:cC w v.fl vs):
  Calls Tryz.prog 41 #[agg vs] w fun e w'=>e=.returned (.agg #[.int .i64 (oN v).1,.slice none 0 0])/\Below w.heap.size w w':=by
 obtain⟨v0,_,rfl,_,v1,_,rfl,rfl,rfl⟩:=h;have x0:=(Blk.new w 82 [v0,.int .i64 v.size]).old (o:=.cells #[.int .i64 0,.slice none 0 0] 85 (0,0));have z0:=Blk.new (w.alloc (.cells #[v0,.int .i64 v.size] 82 (0,0))) 85 [.int .i64 0,.slice none 0 0]
 have hg:(w.alloc (.cells #[v0,.int .i64 v.size] 82 (0,0))).heap.size=w.heap.size+1:=by simp
 have y0:Below w.heap.size w ((w.alloc (.cells #[v0,.int .i64 v.size] 82 (0,0))).alloc (.cells #[.int .i64 0,.slice none 0 0] 85 (0,0))):=((zD2 _ _).alloc (zB0 _) _).alloc Q9 _
 simp only[List.toArray]at x0 z0;rw[hg]at z0;clear hg;simp only[agg];go_enter Tryz.func41,Tryz.ntmps41;go_upto_region 1 with fail;generalize (w.alloc (.cells #[v0,.int .i64 v.size] 82 (0,0))).alloc (.cells #[.int .i64 0,.slice none 0 0] 85 (0,0))=w1 at *;have k1:=x0.k 1;obtain⟨d0,d1⟩:=z0.c2;have f0:=z0.free 0;have f1:=z0.free 1
 by_cases hs:v.size=0
 .
  have HE:Hid ((oN v).1=1):=if_pos hs
  refine M977 ?_;clear k1;intro k1 z9 y9;clear hs;go_wp2_with fail;generalize (w1.setCell ⟨w.heap.size+1,0,none⟩ (.int .i64 1)).setCell ⟨w.heap.size+1,1,none⟩ (.slice none 0 0)=w9 at *;obtain⟨e0,e1⟩:=z9.c2
  refine zI2 (v:=.agg #[.int .i64 1,.slice none 0 0]) Q58 rfl ⟨by rw[HE.out],y9⟩
 .
  have HE:Hid ((oN v).1=2):=if_neg hs
  have hsb:(v.size == 0)=false:=by simpa using hs
  refine M979 ?_;intro z9 y9;clear hs;go_wp2_with fail;generalize (w1.setCell ⟨w.heap.size+1,0,none⟩ (.int .i64 2)).setCell ⟨w.heap.size+1,1,none⟩ (.slice none 0 0)=w9 at *;obtain⟨e0,e1⟩:=z9.c2
  refine zI2 (v:=.agg #[.int .i64 2,.slice none 0 0]) Q58 rfl ⟨by rw[HE.out],y9⟩
theorem aCf (a:Pa)(vs:List Value)(w:World)(h:cC w a.fl vs):
  Calls Tryz.prog 83 #[agg vs] w fun e w'=>e=.returned (.agg #[.int .i64 (mP a).1,.slice none 0 0])/\Below w.heap.size w w':=by
 obtain⟨v0,_,rfl,_,v1,_,rfl,rfl,rfl⟩:=h;have x0:=(Blk.new w 98 [v0,.bool a.arr]).old (o:=.cells #[.int .i64 0,.slice none 0 0] 85 (0,0));have z0:=Blk.new (w.alloc (.cells #[v0,.bool a.arr] 98 (0,0))) 85 [.int .i64 0,.slice none 0 0]
 have hg:(w.alloc (.cells #[v0,.bool a.arr] 98 (0,0))).heap.size=w.heap.size+1:=by simp
 have y0:Below w.heap.size w ((w.alloc (.cells #[v0,.bool a.arr] 98 (0,0))).alloc (.cells #[.int .i64 0,.slice none 0 0] 85 (0,0))):=((zD2 _ _).alloc (zB0 _) _).alloc Q9 _
 simp only[List.toArray]at x0 z0;rw[hg]at z0;clear hg;simp only[agg];go_enter Tryz.func83,Tryz.ntmps83;go_upto_region 1 with fail;generalize (w.alloc (.cells #[v0,.bool a.arr] 98 (0,0))).alloc (.cells #[.int .i64 0,.slice none 0 0] 85 (0,0))=w1 at *;have k1:=x0.k 1;obtain⟨d0,d1⟩:=z0.c2;have f0:=z0.free 0;have f1:=z0.free 1
 cases hs:a.arr
 .
  have HE:Hid ((mP a).1=1):=by show _=_;unfold mP;rw[hs];rfl
  refine M977 ?_;clear k1;intro k1 z9 y9;clear hs;go_wp2_with fail;generalize (w1.setCell ⟨w.heap.size+1,0,none⟩ (.int .i64 1)).setCell ⟨w.heap.size+1,1,none⟩ (.slice none 0 0)=w9 at *;obtain⟨e0,e1⟩:=z9.c2
  refine zI2 (v:=.agg #[.int .i64 1,.slice none 0 0]) Q59 rfl ⟨by rw[HE.out],y9⟩
 .
  have HE:Hid ((mP a).1=2):=by show _=_;unfold mP;rw[hs];rfl
  rw[hs]at k1;refine M979 ?_;intro z9 y9;clear hs;go_wp2_with fail;generalize (w1.setCell ⟨w.heap.size+1,0,none⟩ (.int .i64 2)).setCell ⟨w.heap.size+1,1,none⟩ (.slice none 0 0)=w9 at *;obtain⟨e0,e1⟩:=z9.c2
  refine zI2 (v:=.agg #[.int .i64 2,.slice none 0 0]) Q59 rfl ⟨by rw[HE.out],y9⟩
theorem wV (q:Pr)(vs:List Value)(w:World)(h:cC w q.fl vs)(hn:q.params.length<=1048576):
  Calls Tryz.prog 44 #[agg vs] w fun e w'=>∃kv,e=.returned (.agg #[.int .i64 3,kv])/\(Fl.i (dR q.params)).Rd w' kv/\Below w.heap.size w w':=by
 obtain⟨v0,_,rfl,_,v1,_,rfl,_,v2,_,rfl,h2,v3,_,rfl,_,v4,_,rfl,_,rfl⟩:=h;obtain⟨ap,cp,rfl,hP⟩:=h2.list;rw[zB2]
 obtain⟨np,hnp⟩:∃z,z=q.params.length:=⟨_,rfl⟩
 have HNP:=hid hnp.symm;rw[<-hnp]at hn ⊢;have HP:=hid hP;clear hP h2 hnp;have x0:=(Blk.new w 55 [v0,v1,.slice ap np cp,v3,v4]).old (o:=.cells #[.int .i64 0,.slice none 0 0] 85 (0,0));have z0:=Blk.new (w.alloc (.cells #[v0,v1,.slice ap np cp,v3,v4] 55 (0,0))) 85 [.int .i64 0,.slice none 0 0]
 have hg:(w.alloc (.cells #[v0,v1,.slice ap np cp,v3,v4] 55 (0,0))).heap.size=w.heap.size+1:=by simp
 have y0:Below w.heap.size w ((w.alloc (.cells #[v0,v1,.slice ap np cp,v3,v4] 55 (0,0))).alloc (.cells #[.int .i64 0,.slice none 0 0] 85 (0,0))):=((zD2 _ _).alloc (zB0 _) _).alloc Q9 _
 simp only[List.toArray]at x0 z0;rw[hg]at z0;clear hg;simp only[agg];go_enter Tryz.func44,Tryz.ntmps44;go_upto_region 1 with fail;generalize (w.alloc (.cells #[v0,v1,.slice ap np cp,v3,v4] 55 (0,0))).alloc (.cells #[.int .i64 0,.slice none 0 0] 85 (0,0))=w1 at *;have k2:=x0.k 2;have H1:=aKf q.params ap np cp w1 HNP.out (bQ.below HP.out y0) hn;go_wp2_with fail;refine H1.mono ?_;rintro e w2 ⟨kv,rfl,ho,hb⟩;have z2:=z0.below hb z0.lt;have y2:=y0.trans (hb.mono y0.size)
 have An:(dR q.params).length=np:=by unfold dR;rw[zB2,HNP.out]
 have hrd:(Fl.i (dR q.params)).Rd w2 kv:=Ob.irow (l:=dR q.params) (by rw[An];exact ho) (nN _)
 obtain⟨ak,ck,rfl,_,_,_,_⟩:=dK ho.own;clear H1 x0 z0 y0 k2;obtain⟨d0,d1⟩:=z2.c2;have f0:=z2.free 0;have f1:=z2.free 1;have z9:=wC (x:=.int .i64 3) (y:=.slice ak np ck) z2
 have y9:Below w.heap.size w ((w2.setCell ⟨w.heap.size+1,0,none⟩ (.int .i64 3)).setCell ⟨w.heap.size+1,1,none⟩ (.slice ak np ck)):=(y2.setCell (Nat.le_succ _) _).setCell (Nat.le_succ _) _
 have hob2:Ob ((w2.setCell ⟨w.heap.size+1,0,none⟩ (.int .i64 3)).setCell ⟨w.heap.size+1,1,none⟩ (.slice ak np ck)) 3 w1.heap.size w2.heap.size (.slice ak np ck) np (iV (dR q.params)):=ho.stays (fun g p1 p2 r=>by
  obtain⟨c,r⟩:=r
  have Aw:g ≠ w.heap.size+1:=fun e=>by
   rw[e]at r
   have:=(show w2.heap[w.heap.size+1]?=_ from z2).symm.trans r
   simp only[zG2,Obj.cells.injEq]at this;exact absurd this.2.1 Q6
  exact(heap_setCell_other _ ⟨w.heap.size+1,1,none⟩ g _ Aw).trans (heap_setCell_other w2 ⟨w.heap.size+1,0,none⟩ g _ Aw))
 have HRD:Hid ((Fl.i (dR q.params)).Rd ((w2.setCell ⟨w.heap.size+1,0,none⟩ (.int .i64 3)).setCell ⟨w.heap.size+1,1,none⟩ (.slice ak np ck)) (.slice ak np ck)):=Ob.irow (l:=dR q.params) (by rw[An];exact hob2) (nN _)
 clear hob2 hrd ho;go_wp2_with fail;generalize (w2.setCell ⟨w.heap.size+1,0,none⟩ (.int .i64 3)).setCell ⟨w.heap.size+1,1,none⟩ (.slice ak np ck)=w9 at *;obtain⟨e0,e1⟩:=z9.c2
 refine zI2 (v:=.agg #[.int .i64 3,.slice ak np ck]) (by simp only[results,Tryz.results44];simp[go_sem,e0,e1]) rfl ⟨_,rfl,HRD.out,y9⟩
structure aA6 (w w':World) (b k:Nat) (g:List Int->Mn) (x:List Int) (mn:Mn):Prop where
 yes:(g x).1=0->NT w' b (k+1) (qL g x mn)
 no:(g x).1 ≠ 0->NT w' b k g
 grown:w.grownBy w' (some b)
theorem pA (w:World)(b k:Nat)(g:List Int->Mn)(h:NT w b k g)(hk:k<1000000)(a:Option Addr)(n c:Nat)(x:List Int)(hx:eG w a n x)(hn:n<=1048576)(s:Int)(kv:Value)(ks:List Int)(hkv:(Fl.i ks).Rd w kv):
  Calls Tryz.prog 40 #[.map (some b),.slice a n c,.agg #[.int .i64 s,kv]] w fun e w'=>e=.returned (.bool (decide ((g x).1=0)))/\aA6 w w' b k g x (s,ks):=by
 have hbt:=hx.2.1
 have hxl:x.length<=maxLen:=by rw[hx.1];unfold maxLen;omega
 have x0:=Blk.new w 85 [.int .i64 s,kv];have y0:=aB w (.cells #[.int .i64 s,kv] 85 (0,0)) none;have h1:=h.grown y0;have hx1:=hx.below (aA y0);have hkv1:=hkv.below (aA y0);simp only[List.toArray]at x0;clear h hx hkv;go_enter Tryz.func40,Tryz.ntmps40;go_upto_region 1 with fail;generalize w.alloc (.cells #[.int .i64 s,kv] 85 (0,0))=w1 at *;have HN:=hid h1;obtain⟨f,hf1,hf2⟩:=h1.ex;have kc:=bP c hx1;have hlk:=hf1.lookup hbt hxl;obtain⟨_,ef,a0,c0,rfl,_⟩:=hf2 x hbt;rw[ef]at hlk;generalize (g x).2.length=n0 at *
 have hfd:∀(z:Int) (w:World),(Instr.field 85 (.agg #[.int .i64 z,.slice a0 n0 c0]) 0).run Tryz.prog w=.ok (.int .i64 z) w:=fun z w=>by kernel_rfl
 obtain⟨ak,ck,rfl,hkr⟩:=hkv1;obtain⟨q0,q1⟩:=x0.c2;have Y0:=hid y0
 by_cases hz:(g x).1=0
 .
  have HF:=hid (zB3 hz);have HZ:=hid hz;rw[hz]at hlk;clear hz
  go_wp2_with (at_mapUpdate;refine wK rfl _ _ _ rfl hf1 Q17 x (.agg #[.int .i64 s,.slice ak ks.length ck]) rfl rfl rfl hbt hxl ?_)
  intro w2 hN2 hg2
  have HD:Hid (aA6 w w2 b k g x (s,ks)):=⟨fun _=>NT.put hf1 hf2 hN2 hg2 ⟨_,rfl,ak,ck,rfl,hkr⟩,fun e=>absurd HZ.out e,⟨hg2.os.trans Y0.out.os,hg2.tape.trans Y0.out.tape,hg2.output.trans Y0.out.output,zF2 Y0.out.size hg2.size,fun i hi Aw=>(hg2.block i (Nat.lt_of_lt_of_le hi Y0.out.size) Aw).trans (Y0.out.block i hi Q9)⟩⟩
  clear hN2 hg2 hlk hf1 hf2 q0 q1 x0 hkr kc;go_wp2;go_ret;exact⟨aE HF.out.symm,HD.out⟩
 .
  have HF:=hid (zC2 hz)
  have hzb:((g x).1 != 0)=true:=by simpa using hz
  have HD:Hid (aA6 w w1 b k g x (s,ks)):=⟨fun e=>absurd e hz,fun _=>HN.out,bU Y0.out _⟩
  clear hz hf1 hf2;go_wp2;go_ret;exact⟨aE HF.out.symm,HD.out⟩
end Go.Proofs.YtffphdacgblaoaaGreatDoor

import Derived.Test.YtffphdacgblaoaaGreatDoorPackI
import Derived.Test.YtffphdacgblaoaaGreatDoorPackQ
import Derived.Deep.RegionHeld3
namespace Go.Proofs.YtffphdacgblaoaaGreatDoor
open Go.RowKit
set_option linter.unusedVariables false
set_option linter.unusedSimpArgs false
set_option maxRecDepth 100000
set_option maxHeartbeats 4000000
def Pr.fp (q:Pr):Fp:=⟨q.name,dR q.params⟩
def jY (l:List Pr):List Fp:=(l.filter Pr.opn).map Pr.fp
def aFu (m:Mo):Fa:=⟨m.name,jY m.procs⟩
def jK (m:Mo):Fa:=if lN m=true then aFu m else ⟨[],[]⟩
theorem rL {l:List Pr}{j:Nat}{q:Pr}(h:l[j]?=some q):jY (l.take (j+1))=jY (l.take j)++(if q.opn=true then [q.fp] else []):=by
 obtain⟨hj,rfl⟩:=zC1.1 h;unfold jY;rw[zF1 hj,List.filter_append,List.map_append]
 congr 1
 cases h:l[j].opn <;> simp[h]
theorem vK (l:List Pr):(jY l).length<=l.length:=by
 unfold jY;rw[zB2];exact List.length_filter_le _ _
theorem aOz:(Tryz.prog.info? 59).map (fun i=>(i.zero,i.size,i.bytes))=some (some (.agg #[.slice none 0 0,.slice none 0 0]),2,48):=by kernel_rfl
theorem aA8 {w:World}{o:Oper}{a:Act}{Q:Exit->Act->World->Prop}{K:Act->World->Prop}(s x:Operand)
  (ho:o.op=.call { callee:=.builtin .append,args:=#[s,x],argTypes:=#[33,33] })
  (base:Nat) (v:Value) (n:Nat) (l:List (Value × Value)) (hs:a.eval s=v) (hown:w.ownsRow base 59 2 v n (mY l))
  (g:Nat) (y z:Value) (hx:a.eval x=.slice (some ⟨g,0,none⟩) 1 1) (hr:Blk w g 59 [y,z]) (hy:y.oneCell'=true) (hz:z.oneCell'=true)
  (Am:n<=1048576) (hbase:base<=w.heap.size)
  (h:∀v' w',w'.ownsRow base 59 2 v' (n+1) (mY l++[y,z])->w.grownBy w' v.ownBlock->K (a.put o.dst v') w'):Oper.wp Tryz.prog o a w K Q:=by
 obtain⟨i0,hi,hz0,hz1,hz2⟩:=info_parts aOz
 refine wp_append_own w s x 33 ho base 59 i0 (.agg #[.slice none 0 0,.slice none 0 0]) 2 48 Tryz.underlying33 hi hz0 hz1 hz2 rfl Q5 v n _ hs hown ⟨g,0,none⟩ 1 1 [y,z] hx rfl ?_ (by intro u hu;simp at hu;rcases hu with rfl|rfl <;> assumption) Q17 Q0 hbase ?_
 .
  intro j u hu
  match j,hu with
  | 0,hu=>simp at hu;subst hu;exact hr.k 0
  | 1,hu=>simp at hu;subst hu;exact hr.k 1
  | j+2,hu=>simp at hu
 .
  intro v' w' ho' hg' _;exact h v' w' ho' hg'
theorem Fg.nil (w:World){lo hi:Nat}(h:lo<=hi):Fg w lo hi (.slice none 0 0) (.slice none 0 0) [] ⟨[],[]⟩:=
 ⟨⟨lo,zB0 _,h,⟨World.ownsRow_nil _ _ _ _,(fun k hk=>by cases hk)⟩,(fun x hx=>by cases hx),rfl⟩,World.ownsRow_nil _ _ _ _,fun k hk=>by cases hk⟩
theorem Fg.first {w:World}{lo hi:Nat}{nv:Value}{l:List Int}(h:Ob w 5 lo hi nv l.length (bV l))(hb:isB l)(hl:lo<=hi):Fg w lo hi nv (.slice none 0 0) [] ⟨l,[]⟩:=
 ⟨⟨hi,hl,zB0 _,h,hb,rfl⟩,World.ownsRow_nil _ _ _ _,fun k hk=>by cases hk⟩
theorem Fg.other {w:World}{lo hi g i:Nat}{nv pv v:Value}{l:List (Value × Value)}{f:Fa}{vs:List Value}(h:Fg w lo hi nv pv l f)(hb:Blk w g 35 vs):Fg (w.setCell ⟨g,i,none⟩ v) lo hi nv pv l f:=by
 have key:∀(k:Nat) (T:TypeId) (cur:Array Value),T ≠ 35->w.heap[k]?=some (.cells cur T (0,0))->(w.setCell ⟨g,i,none⟩ v).heap[k]?=w.heap[k]?:=by
  intro k T cur hT hk
  refine heap_setCell_other w ⟨g,i,none⟩ k v (fun e=>?_)
  simp only at e
  rw[e,hb]at hk;simp only[zG2,Obj.cells.injEq]at hk;exact hT hk.2.1.symm
 obtain⟨m,a,b,h1,hb',h2⟩:=h.name
 refine⟨⟨m,a,b,h1.stays (fun g' p q ⟨c,r⟩=>key _ _ c Q5 r),hb',h2.stays (fun g' p q r=>?_)⟩,jN h.row (fun g' hg'=>?_),h.lt⟩
 .
  rcases r with⟨c,r⟩|⟨c,r⟩
  .
   exact key _ _ c Q5 r
  .
   exact key _ _ c Q5 r
 .
  obtain⟨c,r⟩:=mQ h.row hg';exact key _ _ c Q5 r
theorem oU {w:World}{lo g n:Nat}{pv:Value}{xs vs:List Value}{T:TypeId}(hr:w.ownsRow lo 59 2 pv n xs)(hb:Blk w g T vs)(hT:T ≠ 59):pv.ownBlock ≠ some g:=by
 intro e;obtain⟨c,h⟩:=mQ hr e;rw[hb]at h;simp only[zG2,Obj.cells.injEq]at h;exact hT h.2.1
structure aTf (w w':World) (nv pv:Value) (f:Fa):Prop where
 got:∃l,Fg w' w.heap.size w'.heap.size nv pv l f
 below:Below w.heap.size w w'
structure FSt (w:World) (gM gR gF:Nat) (mv:List Value) (nv:Value) (name:List Int) (ps:List Pr) (wr:World) (j:Nat) (pv:Value) (l:List (Value × Value)):Prop where
 m:Blk wr gM 27 mv
 r:Blk wr gR 35 [.slice none 0 0,.slice none 0 0]
 f:Blk wr gF 35 [nv,pv]
 g:Fg wr w.heap.size wr.heap.size nv pv l ⟨name,jY (ps.take j)⟩
 b:Below w.heap.size w wr
 n1:gM ≠ gF
 n2:gR ≠ gF
 lo:w.heap.size<=gF
theorem FSt.grow {w wr w1:World}{gM gR gF j:Nat}{mv:List Value}{nv pv:Value}{name:List Int}{ps:List Pr}{l:List (Value × Value)}(h:FSt w gM gR gF mv nv name ps wr j pv l)(hb:Below wr.heap.size wr w1):FSt w gM gR gF mv nv name ps w1 j pv l:=
 ⟨h.m.below hb h.m.lt,h.r.below hb h.r.lt,h.f.below hb h.f.lt,(h.g.stays (gT.of hb (zB0 _))).wide (zB0 _) hb.size,h.b.trans (hb.mono h.b.size),h.n1,h.n2,h.lo⟩
theorem FSt.skip {w wr:World}{gM gR gF j:Nat}{mv:List Value}{nv pv:Value}{name:List Int}{ps:List Pr}{l:List (Value × Value)}{q:Pr}(h:FSt w gM gR gF mv nv name ps wr j pv l)(hq:ps[j]?=some q)(ho:q.opn=false):FSt w gM gR gF mv nv name ps wr (j+1) pv l:=by
 have e:jY (ps.take (j+1))=jY (ps.take j):=by rw[rL hq,ho];simp
 exact⟨h.m,h.r,h.f,by rw[e];exact h.g,h.b,h.n1,h.n2,h.lo⟩
theorem FSt.push {w wr wa wb wc wd:World}{gM gR gF j:Nat}{mv:List Value}{nv pv pv' x y:Value}{name:List Int}{ps:List Pr}{l:List (Value × Value)}{q:Pr}(h:FSt w gM gR gF mv nv name ps wr j pv l)(hq:ps[j]?=some q)(ho:q.opn=true)
  (b1:Below wr.heap.size wr wa) (hx:Ob wa 5 wr.heap.size wa.heap.size x q.name.length (bV q.name)) (hxb:isB q.name)
  (b2:Below wa.heap.size wa wb) (hy:Ob wb 3 wa.heap.size wb.heap.size y (dR q.params).length (iV (dR q.params)))
  (b3:Below wb.heap.size wb wc) (hr:wd.ownsRow w.heap.size 59 2 pv' ((jY (ps.take j)).length+1) (mY l++[x,y])) (hg:wc.grownBy wd pv.ownBlock):
  FSt w gM gR gF mv nv name ps (wd.setCell ⟨gF,1,none⟩ pv') (j+1) pv' (l++[(x,y)])/\Blk wd gF 35 [nv,pv]:=by
 have hbc:Below wr.heap.size wr wc:=(b1.trans (b2.mono b1.size)).trans (b3.mono (zF2 b1.size b2.size))
 have hc:=h.grow hbc;have hrow:=hc.g.row;have hF:=hc.f.below_row hg (oU hrow hc.f Q5)
 have e:jY (ps.take (j+1))=jY (ps.take j)++[q.fp]:=by rw[rL hq,ho];simp
 have hG:=h.g.push (d:=q.fp) (zF2 h.b.size (zB0 _)) (zB0 _) b1 hx hxb b2 hy (nN _) b3 hr hg;refine⟨⟨(hc.m.below_row hg (oU hrow hc.m Q5)).other h.n1,(hc.r.below_row hg (oU hrow hc.r Q5)).other h.n2,hF.set (i:=1) pv', ?_, ?_,h.n1,h.n2,h.lo⟩,hF⟩
 .
  rw[e]
  have:=hG.other (i:=1) (v:=pv') hF
  simpa using this
 .
  exact(hc.b.grown hg hc.b.size (fun k hk=>(hrow.lt k hk).1)).setCell h.lo _
def qY (k n:Int)(mod name:List Int)(ss:List (List Int)):List Int:=
 if k=0 then [32]++gL n
 else if k=1 then [32]++name
 else if k=2 then [32]++name++[32,91]++ss[0]?.getD []++[32,93]
 else if k=3 then [32,40]++ss[0]?.getD []++[32]++opI n++ss[1]?.getD []++[32,41]
 else if k=4 then [32,73,78]
 else if k=5 then [32,76,69,78,32]++name
 else if k=6 then (if mod.length=0 then [] else [32]++mod++[32,46])++[32]++name++[32,40]++aO [32,44] ss++[32,41]
 else [32,64,32]++name
mutual
def cS:Ex->List Int
 | .mk k n m a ks=>qY k n m a (pM ks)
def pM:List Ex->List (List Int)
 | []=>[]
 | e :: l=>cS e :: pM l
end
theorem mJ (l:List Ex):pM l=l.map cS:=by
 induction l with
 | nil=>rfl
 | cons x l ih=>simp[pM,ih]
def Sw (t s:List Int):Prop:=32 :: t=s++[32]
theorem xL:∀(ts ss:List (List Int)),ts.length=ss.length->(∀(i:Nat) (t s:List Int),ts[i]?=some t->ss[i]?=some s->Sw t s)->Sw (aO [44,32] ts) (aO [32,44] ss)
 | [],[],_,_=>rfl
 | [],_ :: _,h,_=>by simp at h
 | _ :: _,[],h,_=>by simp at h
 | [t],[s],_,H=>H 0 t s rfl rfl
 | [t],_ :: _ :: _,h,_=>by simp at h
 | _ :: _ :: _,[s],h,_=>by simp at h
 | t :: t2 :: ts,s :: s2 :: ss,h,H=>by
  have h1:Sw t s:=H 0 t s rfl rfl
  have h2:=xL (t2 :: ts) (s2 :: ss) Q22 (fun i a b ha hb=>H (i+1) a b (by simpa using ha) (by simpa using hb))
  unfold Sw at h1 h2 ⊢;simp only[aO]
  calc 32 :: (t++[44,32]++aO [44,32] (t2 :: ts))=(32 :: t)++[44]++(32 :: aO [44,32] (t2 :: ts)):=by simp
   _=s++[32]++[44]++(aO [32,44] (s2 :: ss)++[32]):=by rw[h1,h2]
   _=s++[32,44]++aO [32,44] (s2 :: ss)++[32]:=by simp
theorem aRm {k n:Int}{mod name:List Int}{ts ss:List (List Int)}(hl:ts.length=ss.length)(H:∀(i:Nat) (t s:List Int),ts[i]?=some t->ss[i]?=some s->Sw t s)(h2:k=2->1<=ts.length)(h3:k=3->2<=ts.length):Sw (jP k n mod name ts) (qY k n mod name ss):=by
 have h0:1<=ts.length->Sw (ts[0]?.getD []) (ss[0]?.getD []):=fun h=>by
  rw[zA0 (show 0<ts.length by omega),zA0 (show 0<ss.length by omega)]
  exact H 0 _ _ (zA0 _) (zA0 _)
 have h1:2<=ts.length->Sw (ts[1]?.getD []) (ss[1]?.getD []):=fun h=>by
  rw[zA0 (show 1<ts.length by omega),zA0 (show 1<ss.length by omega)]
  exact H 1 _ _ (zA0 _) (zA0 _)
 have hj:=xL ts ss hl H;unfold jP qY
 split
 .
  simp[Sw]
 split
 .
  simp[Sw]
 split
 .
  rename_i hk
  have e0:=h0 (h2 hk);generalize ts[0]?.getD []=t0 at *;generalize ss[0]?.getD []=s0 at *;unfold Sw at e0 ⊢
  calc 32 :: (name++[32]++[91,32]++t0++[93,32])=[32]++name++[32,91]++(32 :: t0)++[93,32]:=by simp
   _=_:=by rw[e0];simp
 split
 .
  rename_i hk
  have hk':=h3 hk;have e0:=h0 Q0;have e1:=h1 hk';generalize ts[0]?.getD []=t0 at *;generalize ss[0]?.getD []=s0 at *;generalize ts[1]?.getD []=t1 at *;generalize ss[1]?.getD []=s1 at *;unfold Sw at e0 e1 ⊢
  calc 32 :: ([40,32]++t0++(opI n++[32])++t1++[41,32])=[32,40]++(32 :: t0)++opI n++(32 :: t1)++[41,32]:=by simp
   _=_:=by rw[e0,e1];simp
 split
 .
  rfl
 split
 .
  simp[Sw]
 split
 .
  generalize aO [44,32] ts=jt at *;generalize aO [32,44] ss=js at *;unfold Sw at hj ⊢
  split
  .
   calc 32 :: ([]++(name++[32])++([40,32]++jt++[41,32]))=[32]++name++[32,40]++(32 :: jt)++[41,32]:=by simp
    _=_:=by rw[hj];simp
  .
   calc 32 :: (mod++[32]++[46,32]++(name++[32])++([40,32]++jt++[41,32]))=[32]++mod++[32,46]++[32]++name++[32,40]++(32 :: jt)++[41,32]:=by simp
    _=_:=by rw[hj];simp
 .
  simp[Sw]
mutual
theorem lU:∀x:Ex,qN x=true->Sw (prE x) (cS x)
 | .mk k n m a ks,h=>by
  obtain⟨h1,h2⟩:=cW h;have h3:=aD5 ks h2;have h4:=aL2 h1;rw[prE,cS]
  refine aRm (by simp[lD,mJ]) (fun i t s ht hs=>?_) (fun hk=>?_) (fun hk=>?_)
  .
   rw[lD,zA2]at ht;rw[mJ,zA2]at hs
   cases hx:ks[i]? with
   | none=>rw[hx]at ht;cases ht
   | some x=>
    rw[hx]at ht hs;simp only[Option.map_some,zG2]at ht hs;subst ht hs;exact h3 x (zA3 hx)
  .
   subst hk;simp[dM]at h4;simp[lD];omega
  .
   subst hk;simp[dM]at h4;simp[lD];omega
theorem aD5:∀l:List Ex,eI l=true->∀x ∈ l,Sw (prE x) (cS x)
 | [],_=>by simp
 | y :: l,h=>by
  simp only[eI,zC0]at h;have h1:=lU y h.1;have h2:=aD5 l h.2;intro x hx
  rcases zG3.1 hx with rfl|hx
  .
   exact h1
  .
   exact h2 x hx
end
theorem aK6 {x:Ex}(h:qN x=true):(cS x).length=(prE x).length:=by
 have:=congrArg List.length (lU x h)
 simpa using this.symm
structure Wr (n base:Nat) (w w':World):Prop where
 wr:aG base none w w'
 small:∀(k:Nat) (cs:Array Value),w.heap[k]?=some (Obj.cells cs 5 (0,0))->cs.size<n->w'.heap[k]?=w.heap[k]?
theorem Wr.refl (n base:Nat)(w:World):Wr n base w w:=⟨aG.refl _ _ _,fun _ _ _ _=>rfl⟩
theorem Wr.trans {n base:Nat}{a b c:World}(h:Wr n base a b)(k:Wr n base b c):Wr n base a c:=
 ⟨h.wr.trans k.wr,fun i cs hi hs=>by
  have h1:=h.small i cs hi hs
  exact(k.small i cs (h1.trans hi) hs).trans h1⟩
theorem Wr.mono {n m base:Nat}{a b:World}(h:Wr n base a b)(hm:m<=n):Wr m base a b:=⟨h.wr,fun k cs hk hs=>h.small k cs hk Q0⟩
theorem Wr.of {n base:Nat}{w w':World}(h:w.grownBy w' none):Wr n base w w':=
 ⟨aG.of h,fun k cs hk _=>h.block k (zJ0.1 hk).1 Q9⟩
theorem Wr.own {base:Nat}{w w':World}{v:Value}{n:Nat}{l:List Int}(ho:Own w base v n l)(h:w.grownBy w' v.ownBlock):Wr n base w w':=by
 refine⟨aG.own ho h,fun k cs hk hs=>h.block k (zJ0.1 hk).1 (fun e=>?_)⟩
 rcases ho.1.2 with⟨rfl,_⟩|⟨g,cap,cur,rfl,hg,hh,hc,_,hcs,_⟩
 .
  simp[Value.ownBlock]at e
 .
  simp only[Value.ownBlock,zG2]at e;subst e
  have:=hk.symm.trans hh
  simp only[zG2,Obj.cells.injEq]at this;rw[this.1]at hs
  omega
structure Sg (w0 ws:World) (n0 base:Nat) (B:World->Prop) (w:World) (L:List Int) (v:Value):Prop where
 own:Own w base v L.length L
 b:B w
 keep:∀x y,B x->aG base none x y->B y
 wrote:Wr n0 base ws w
 hn:n0<=L.length
 bel:Below w0.heap.size w0 w
 le:base<=w.heap.size
 h0:w0.heap.size<=base
theorem Sg.step {w0 ws w w':World}{n0 base:Nat}{B:World->Prop}{L L':List Int}{v v':Value}(h:Sg w0 ws n0 base B w L v)(hw:Wr L.length base w w')(ho:Own w' base v' (L++L').length (L++L')):Sg w0 ws n0 base B w' (L++L') v':=
 ⟨ho,h.keep _ _ h.b hw.wr,h.keep,h.wrote.trans (hw.mono h.hn),by have:=h.hn;rw[zA1];omega,hw.wr.below h.bel h.h0 Q9,zF2 h.le hw.wr.size,h.h0⟩
theorem Sg.grown {w0 ws w w':World}{n0 base:Nat}{B:World->Prop}{L:List Int}{v:Value}(h:Sg w0 ws n0 base B w L v)(hg:w.grownBy w' none):Sg w0 ws n0 base B w' L v:=by
 have:=h.step (L':=[]) (v':=v) (Wr.of hg) (by rw[List.append_nil];exact h.own.below (aA hg))
 rwa [List.append_nil]at this
theorem Sg.alloc {w0 ws w:World}{n0 base:Nat}{B:World->Prop}{L:List Int}{v:Value}(h:Sg w0 ws n0 base B w L v)(o:Obj):Sg w0 ws n0 base B (w.alloc o) L v:=h.grown (aB w o none)
theorem Sg.drew {w0 ws w:World}{n0 base:Nat}{B:World->Prop}{L:List Int}{v:Value}(h:Sg w0 ws n0 base B w L v):Sg w0 ws n0 base B w.drew L v:=
 h.grown ⟨rfl,rfl,rfl,zB0 _,fun _ _ _=>rfl⟩
theorem Sg.more {w0 ws w:World}{n0 base:Nat}{B C:World->Prop}{L:List Int}{v:Value}(h:Sg w0 ws n0 base B w L v)(hc:C w)(hk:∀x y,C x->aG base none x y->C y):Sg w0 ws n0 base (fun x=>B x/\C x) w L v:=
 ⟨h.own,⟨h.b,hc⟩,fun x y hb hw=>⟨h.keep x y hb.1 hw,hk x y hb.2 hw⟩,h.wrote,h.hn,h.bel,h.le,h.h0⟩
theorem Sg.less {w0 ws w:World}{n0 base:Nat}{B C:World->Prop}{L:List Int}{v:Value}(h:Sg w0 ws n0 base (fun x=>B x/\C x) w L v)(hk:∀x y,B x->aG base none x y->B y):Sg w0 ws n0 base B w L v:=
 ⟨h.own,h.b.1,hk,h.wrote,h.hn,h.bel,h.le,h.h0⟩
theorem dB {base g:Nat}{T:TypeId}{vs:List Value}(hT:T ≠ 5):∀x y,Blk x g T vs->aG base none x y->Blk y g T vs:=fun x y hb hw=>hw.blk hb hT Q9
theorem Sg.row {w0 ws w:World}{n0 base:Nat}{B:World->Prop}{L:List Int}{v:Value}(h:Sg w0 ws n0 base B w L v){a:Option Addr}{n:Nat}{l:List Int}(hr:eG w0 a n l):eG w a n l:=hr.below h.bel
theorem Sg.free {w0 ws w:World}{n0 base:Nat}{B:World->Prop}{L:List Int}{v:Value}(h:Sg w0 ws n0 base B w L v):v.ownBlock ≠ some w.heap.size:=fun e=>by have:=(h.own.1.lt _ e).2;omega
theorem Sg.cast {w0 ws w:World}{n0 base:Nat}{B:World->Prop}{L M:List Int}{v:Value}(h:Sg w0 ws n0 base B w L v)(e:L=M):Sg w0 ws n0 base B w M v:=e ▸ h
theorem eP {w:World}{g:Nat}{x:Int}(h0:0<=x)(h1:x<=255)(h:w.heap[g]?=some (.cells #[.int .u8 x] 5 (0,0))):eG w (some ⟨g,0,none⟩) 1 [x]:=by
 refine⟨rfl,by simp;omega,fun _=>⟨g,0,rfl,fun i hi=>?_⟩⟩
 obtain rfl:i=0:=Q0
 have:=Blk.cell (T:=5) (vs:=[.int .u8 x]) (i:=0) (show Blk w g 5 [.int .u8 x] from h) rfl
 simpa using this
theorem Sg.row_wp {w0 ws w:World}{n0 base:Nat}{B:World->Prop}{L:List Int}{v:Value}{o:Oper}{a:Act}{K:Act->World->Prop}{Q:Exit->Act->World->Prop}(hg:Sg w0 ws n0 base B w L v)(s x:Operand)
  (ho:o.op=.call { callee:=.builtin .append,args:=#[s,x],argTypes:=#[22,22] }) (hs:a.eval s=v)
  (ad:Option Addr) (m c:Nat) (l2:List Int) (hx:a.eval x=.slice ad m c) (hr:eG w ad m l2) (hp:0<m) (Am:L.length+m<=1099511627776)
  (h:∀v' w',Sg w0 ws n0 base B w' (L++l2) v'->w.grownBy w' v.ownBlock->K (a.put o.dst v') w'):Oper.wp Tryz.prog o a w K Q:=by
 obtain⟨i0,hi,hz0,hz1,hz2⟩:=info_parts aCv
 have hby:∀x ∈ L++l2,0<=x/\x<=255:=fun x hx=>(List.mem_append.1 hx).elim (hg.own.2 x) (hr.2.1 x)
 obtain⟨b,off,rfl,hc⟩:=hr.2.2 hp
 refine wp_append_own w s x 22 ho base 5 i0 (.int .u8 0) 1 1 Tryz.underlying22 hi hz0 hz1 hz2 rfl Q5 v L.length _ hs hg.own.1 ⟨b,off,none⟩ m c (l2.map (Value.int .u8)) hx (by simp[hr.1]) ?_ (ints_oneCell _ _) Q17 Q0 hg.le ?_
 .
  exact U31
 .
  intro v' w' ho' hg' _
  have hl:(L++l2).length=L.length+m:=by rw[zA1,hr.1]
  exact h v' w' (hg.step (Wr.own hg.own hg') ⟨by rw[hl];simpa using ho',hby⟩) hg'
theorem Sg.str_wp {w0 ws w:World}{n0 base:Nat}{B:World->Prop}{L:List Int}{v:Value}{o:Oper}{a:Act}{K:Act->World->Prop}{Q:Exit->Act->World->Prop}(hg:Sg w0 ws n0 base B w L v)(s x:Operand)
  (ho:o.op=.call { callee:=.builtin .append,args:=#[s,x],argTypes:=#[22,9] }) (hs:a.eval s=v)
  (t:ByteArray) (hx:a.eval x=.string t) (Am:L.length+t.size<=1099511627776)
  (h:∀v' w',Sg w0 ws n0 base B w' (L++sI t) v'->w.grownBy w' v.ownBlock->K (a.put o.dst v') w'):Oper.wp Tryz.prog o a w K Q:=by
 obtain⟨i0,hi,hz0,hz1,hz2⟩:=info_parts aCv;obtain⟨v',w',hr,h2,h3,h4⟩:=Lib.run_append_own_string (P:=Tryz.prog) w base 22 9 o.type 5 i0 Tryz.underlying22 Tryz.underlying9 hi hz0 hz1 hz2 v L.length _ hg.own.1 t Q17 Q0 hg.le
 have e:(L++sI t).map (Value.int .u8)=L.map (Value.int .u8)++Lib.strCells t:=by
  rw[List.map_append]
  congr 1
  unfold sI Lib.strCells;rw[List.map_map]
  rfl
 have hl:(L++sI t).length=L.length+t.size:=by rw[zA1,kM]
 have hs':Sg w0 ws n0 base B w' (L++sI t) v':=hg.step (Wr.own hg.own h3) ⟨by rw[hl,e];exact h2,fun x hx=>(List.mem_append.1 hx).elim (hg.own.2 x) (aD7 t x)⟩
 unfold Oper.wp execOp;simp only[ho,resolve,invoke,builtin,Sem.run_bind,Sem.run_pure,Result.andThen_ok,List.map_toArray,zH2,List.map_nil,hs,hx,hr];exact h v' w' hs' h3
theorem Sg.str_list {w0 ws w:World}{n0 base:Nat}{B:World->Prop}{L:List Int}{v:Value}{ops:Array Oper}{rest:List Oper}{o:Oper}{a:Act}{Q:Exit->Act->World->Prop}(hg:Sg w0 ws n0 base B w L v)(hgd:o.guard=none)(s x:Operand)
  (ho:o.op=.call { callee:=.builtin .append,args:=#[s,x],argTypes:=#[22,9] }) (hs:a.eval s=v)
  (t:ByteArray) (hx:a.eval x=.string t) (Am:L.length+t.size<=1099511627776)
  (h:∀v' w',Sg w0 ws n0 base B w' (L++sI t) v'->w.grownBy w' v.ownBlock->wpList Tryz.prog ops Q rest (a.put o.dst v') w'):wpList Tryz.prog ops Q (o :: rest) a w:=
 wpList_plain hgd fun _ hK=>hg.str_wp s x ho hs t hx Am fun v' w' h' hb'=>hK _ _ (h v' w' h' hb')
theorem Q7{p:Prop}(h:p:=by(try simp only[ll]);omega):p:=h
theorem Q10{p:Prop}(h:p:=by show _+2<=_;(try simp only[ll]);omega):p:=h
theorem Q12{p:Prop}(h:p:=by show _+3<=_;(try simp only[ll]);omega):p:=h
theorem Q24{p:Prop}(h:p:=by show _+5<=_;(try simp only[ll]);omega):p:=h
theorem Q34{p:Prop}(h:p:=by simp[show sI ⟨#[32,41]⟩=[32,41] from rfl]):p:=h
theorem M92{p q:Prop}(k:q)(h:Kx q->p:=by
 intro kQ
 have Au:w0.cell? ⟨b4,o4,none⟩=some u00:=by have:=Af 0 _ rfl;simpa [Nat.add_assoc] using this
 have As:w0.cell? ⟨b4,o4+1,none⟩=some u01:=by have:=Af 1 _ rfl;simpa [Nat.add_assoc] using this
 have Ar:w0.cell? ⟨b4,o4+2,none⟩=some u02:=by have:=Af 2 _ rfl;simpa [Nat.add_assoc] using this
 have Aq:w0.cell? ⟨b4,o4+3,none⟩=some u03:=by have:=Af 3 _ rfl;simpa [Nat.add_assoc] using this
 have Ap:w0.cell? ⟨b4,o4+4,none⟩=some u04:=by have:=Af 4 _ rfl;simpa [Nat.add_assoc] using this
 revert Ap;revert Aq;revert Ar;revert As;revert Au
 exact kQ.o):p:=h ⟨k⟩
theorem M920{p q:Prop}(k:q)(h:Kx q->p:=by
 intro kQ
 intro w0 w vs base L v hr hb h0 hle ho hok Am hs
 obtain⟨hlc,hks⟩:=cW hok
 have hs':mod.length<=1048576/\name.length<=1048576:=by simp only[Ex.fl,aL,Fl.len]at hs;omega
 have hsk:aH (exs ks)<=1048576:=by simp only[Ex.fl,aL,Fl.len]at hs;omega
 revert hsk;revert hs';revert hks;revert hlc;revert hs;revert Am;revert hok;revert ho;revert hle;revert h0;revert hb;revert hr;revert v;revert L;revert base;revert vs;revert w;revert w0
 exact kQ.o):p:=h ⟨k⟩
theorem M924{p q:Prop}(k:q)(h:Kx q->p:=by
 intro kQ
 have An:(exs ks).length=ks.length:=by simp[aQ]
 rw[An]
 simp only[agg]
 have hk9:ks.length<=9223372036854775807:=by have h5:=h4.cap;have h6:=h4.most;unfold maxLen at h6;omega
 obtain⟨nk,hnk⟩:∃z,z=ks.length:=⟨_,rfl⟩
 revert hnk;revert nk;revert hk9;revert An
 exact kQ.o):p:=h ⟨k⟩
theorem M927{p q:Prop}(k:q)(h:Kx q->p:=by
 intro kQ
 refine ta 0 ?_
 refine ta 2 ?_
 refine ta 3 ?_
 try simp only[nrm]
 exact kQ.o):p:=h ⟨k⟩
theorem M930{p q:Prop}(k:q)(h:Kx q->p:=by
 intro kQ
 refine ta 0 ?_
 refine ta 3 ?_
 refine ta 4 ?_
 try simp only[nrm]
 exact kQ.o):p:=h ⟨k⟩
theorem M931{p q:Prop}(k:q)(h:Kx q->p:=by
 intro kQ
 obtain⟨nn,hnn⟩:∃z,z=name.length:=⟨_,rfl⟩
 obtain⟨nm,hnm⟩:∃z,z=mod.length:=⟨_,rfl⟩
 revert hnm;revert nm;revert hnn;revert nn
 exact kQ.o):p:=h ⟨k⟩
theorem M948{p q:Prop}(k:q)(h:Kx q->p:=by
 intro kQ
 have hc10:w0.cell? ⟨b4,o4+5,none⟩=some u10:=by have:=hcl1 0 _ rfl;simpa [Nat.add_assoc] using this
 have hc11:w0.cell? ⟨b4,o4+6,none⟩=some u11:=by have:=hcl1 1 _ rfl;simpa [Nat.add_assoc] using this
 have hc12:w0.cell? ⟨b4,o4+7,none⟩=some u12:=by have:=hcl1 2 _ rfl;simpa [Nat.add_assoc] using this
 have hc13:w0.cell? ⟨b4,o4+8,none⟩=some u13:=by have:=hcl1 3 _ rfl;simpa [Nat.add_assoc] using this
 have hc14:w0.cell? ⟨b4,o4+9,none⟩=some u14:=by have:=hcl1 4 _ rfl;simpa [Nat.add_assoc] using this
 revert hc14;revert hc13;revert hc12;revert hc11;revert hc10
 exact kQ.o):p:=h ⟨k⟩
theorem M961{p q:Prop}(k:q)(h:Kx q->p:=by
 intro kQ
 simp only[zA1,zB1,zC3]at hsz2
 have hL:L.length<=1000000000:=Q0
 revert hL;revert hsz2
 exact kQ.o):p:=h ⟨k⟩
theorem M962{p q:Prop}(k:q)(h:Kx q->p:=by
 intro kQ
 have HNA:=hid hnn.symm
 have HMO:=hid hnm.symm
 have hnp:0<nn:=by rw[hnn];exact dV (gV hlc Q5)
 revert hnp;revert HMO;revert HNA
 exact kQ.o):p:=h ⟨k⟩
def lQ (x:Ex):Prop:=∀(w0 w:World) (vs:List Value) (base:Nat) (L:List Int) (v:Value),cC w0 x.fl vs->Below w0.heap.size w0 w->w0.heap.size<=base->base<=w.heap.size->Own w base v L.length L->qN x=true->L.length+(cS x).length<=1000000000->aL x.fl<=1048576 →
 Calls Tryz.prog 91 #[v,agg vs] w fun e w'=>∃v',e=.returned v'/\Own w' base v' (L++cS x).length (L++cS x)/\Wr L.length base w w'
theorem Sg.cell {w0 ws w:World}{n0 base g:Nat}{T:TypeId}{vs:List Value}{L:List Int}{v:Value}(h:Sg w0 ws n0 base (fun x=>Blk x g T vs) w L v){i:Nat}{u:Value}(hu:vs[i]?=some u):w.cell? ⟨g,i,none⟩=some u:=Blk.cell (show Blk w g T vs from h.b) hu
theorem Sg.k {w0 ws w:World}{n0 base g:Nat}{T:TypeId}{vs:List Value}{L:List Int}{v:Value}(h:Sg w0 ws n0 base (fun x=>Blk x g T vs) w L v)(i:Nat){u:Value}(hu:vs[i]?=some u:=by rfl):w.cell? ⟨g,i,none⟩=some u:=h.cell hu
theorem aRs (n:Int)(h0:-9223372036854775808<n)(h1:n<=9223372036854775807)(w:World):Calls Tryz.prog 55 #[.int .i64 n] w fun e w'=>∃v,e=.returned v/\Own w' w.heap.size v (gL n).length (gL n)/\w.grownBy w' none:=dig n h0 h1 w
theorem xE (n:Int):0<(gL n).length:=by
 unfold gL Lib.itoa;rw[zB2]
 have h:∀u,0<(Lib.decDigits u).length:=fun u=>by rw[Lib.decDigits];split <;> simp
 split
 .
  simp
 .
  exact h _
theorem dV {l:List Int}{g:Bool}(h:aK l g=true):0<l.length:=by
 rcases zG0 l.length with h0|h0
 .
  rw[dI Q0]at h;cases h
 .
  exact h0
theorem eZ {α:Type}{l:List α}(h:l.length=5):∃a b c d e,l=[a,b,c,d,e]:=by
 match l,h with
 | [a,b,c,d,e],_=>exact⟨a,b,c,d,e,rfl⟩
theorem nH {x:Ex}(h:qN x=true)(hs:aL x.fl<=1048576):(cS x).length<=100000000:=by
 rw[aK6 h]
 have:=aJ3 x h
 omega
theorem aN1 (n:Int)(mod name:List Int)(ks:List Ex):lQ (.mk 0 n mod name ks):=by
 refine M920 ?_;intro w0 w vs base L v hr hb h0 hle ho hok Am hs hlc hks hs' hsk;unfold Ex.fl at hr;obtain⟨y0,_,rfl,rfl,y1,_,rfl,rfl,y2,_,rfl,⟨a2,c2,rfl,h2,hc2,_⟩,y3,_,rfl,⟨a3,c3,rfl,h3,hc3,_⟩,y4,_,rfl,Be,rfl⟩:=hr;obtain⟨a4,c4,rfl,h4⟩:=Be.list;clear Be;refine M924 ?_;intro An hk9 nk hnk;rw[<-hnk]at hk9 ⊢;have HNK:=hid hnk.symm;clear hnk;refine M931 ?_;intro nn hnn nm hnm;rw[<-hnn]at h3 hs' hc3 ⊢;rw[<-hnm]at h2 hs' hc2 ⊢;have HNA:=hid hnn.symm;have HMO:=hid hnm.symm
 have hn01:-2147483648<=n/\n<=2147483647:=by simp[iW,inB,fD,dF]at hlc;omega
 clear hnn hnm hs
 have HE:Hid (L++cS (.mk 0 n mod name ks)=L++[32]++gL n):=by show _=_;simp[cS,pM,qY,zD0]
 have hsz2:(L++[32]++gL n).length<=1000000000:=by rw[<-HE.out,zA1];exact Am
 refine M961 ?_;clear hsz2;intro hsz2 hL;have x0:=Blk.new w 119 [.int .i64 0,.int .i64 n,.slice a2 nm c2,.slice a3 nn c3,.slice a4 nk c4]
 have G0:Sg w0 w L.length base (fun x=>Blk x w.heap.size 119 [.int .i64 0,.int .i64 n,.slice a2 nm c2,.slice a3 nn c3,.slice a4 nk c4]) (w.alloc (.cells #[.int .i64 0,.int .i64 n,.slice a2 nm c2,.slice a3 nn c3,.slice a4 nk c4] 119 (0,0))) L v:=⟨ho.alloc _,x0,dB Q5,Wr.of (aB w _ none),zB0 _,hb.alloc hb.size _,by simp;omega,h0⟩
 have q0:=x0.k 0;clear x0 ho hb hok Am;go_enter Tryz.func91,Tryz.ntmps91;go_upto_region 1 with fail;generalize w.alloc (.cells #[.int .i64 0,.int .i64 n,.slice a2 nm c2,.slice a3 nn c3,.slice a4 nk c4] 119 (0,0))=w1 at *;generalize w.heap.size=gx at *;go_upto_region 3 with fail;clear q0;have G1:=G0.drew
 refine zK1 (S:=fun wx=>wx.cell? ⟨gx,1,none⟩=some (.int .i64 n)) Q1 (G1.k 1) (fun Aa=>?_)
 generalize w1.drew=w1 at *;clear G0;refine M930 ?_
 refine ra 1 fun K hK=>?_
 go_simp
 have R3:(w1.alloc (.cells #[.int .u8 32] 5)).heap[w1.heap.size]?=some (Obj.cells #[.int .u8 32] 5 (0,0)):=zJ1 w1 _
 have F3:=G1.free;have G3:=G1.alloc (.cells #[.int .u8 32] 5)
 refine hK.out _ _ (G3.k 1) (fun Aa=>?_)
 clear hK K G1;try simp only[nrm]
 generalize w1.alloc (.cells #[.int .u8 32] 5)=w3 at *;generalize w1.heap.size=g3 at *
 refine ra 2 fun K hK=>?_
 rw[if_pos Q1];refine G3.row_wp _ _ rfl rfl (some ⟨g3,0,none⟩) 1 1 [32] rfl (eP Q0 Q0 R3) Q0 Q7 ?_;intro v5 w5 G5 gr5
 refine hK.out _ _ (G5.k 1) (fun Aa=>?_)
 clear hK K G3;try simp only[nrm]
 refine ra 5 fun K hK=>?_
 go_simp
 (with_reducible refine(aRs n Q0 Q0 w5).mono ?_)
 rintro e w7 ⟨vd,rfl,hod,hgd⟩
 obtain⟨nd,hnd⟩:∃z,z=(gL n).length:=⟨_,rfl⟩
 rw[<-hnd]at hod
 have hnd1:nd<=21:=by rw[hnd];exact jW Q0 Q0
 have hnd0:0<nd:=by rw[hnd];exact xE _
 have HND:=hid hnd.symm;clear hnd;obtain⟨ad,cd,rfl,hM⟩:=hod.made (aA hgd);have G7:=G5.grown hgd;have Rd:=hM.row;clear hM hod hgd;go_wp2_with fail
 refine hK.out _ _ (G7.k 1) (fun Aa=>?_)
 clear hK K G5;try simp only[nrm]
 refine ra 6 fun K hK=>?_
 rw[if_pos Q1];refine G7.row_wp _ _ rfl rfl ad nd cd (gL n) rfl Rd hnd0 Q7 ?_;intro v9 w9 G9 gr9
 refine hK.out _ _ (G9.k 1) (fun Aa=>?_)
 clear hK K G7;try simp only[nrm]
 refine ta 7 ?_;try simp only[nrm]
 refine zK2 Q1 ?_ _;go_wp2;go_ret;rw[HE.out];exact⟨_,rfl,G9.own,G9.wrote⟩
theorem aN0 (n:Int)(mod name:List Int)(ks:List Ex):lQ (.mk 1 n mod name ks):=by
 refine M920 ?_;intro w0 w vs base L v hr hb h0 hle ho hok Am hs hlc hks hs' hsk;unfold Ex.fl at hr;obtain⟨y0,_,rfl,rfl,y1,_,rfl,rfl,y2,_,rfl,⟨a2,c2,rfl,h2,hc2,_⟩,y3,_,rfl,⟨a3,c3,rfl,h3,hc3,_⟩,y4,_,rfl,Be,rfl⟩:=hr;obtain⟨a4,c4,rfl,h4⟩:=Be.list;clear Be;refine M924 ?_;intro An hk9 nk hnk;rw[<-hnk]at hk9 ⊢;have HNK:=hid hnk.symm;clear hnk;refine M931 ?_;intro nn hnn nm hnm;rw[<-hnn]at h3 hs' hc3 ⊢;rw[<-hnm]at h2 hs' hc2 ⊢;refine M962 ?_;intro HNA HMO hnp;clear hnn hnm hs
 have HE:Hid (L++cS (.mk 1 n mod name ks)=L++[32]++name):=by show _=_;simp[cS,pM,qY,zD0]
 have hsz2:(L++[32]++name).length<=1000000000:=by rw[<-HE.out,zA1];exact Am
 refine M961 ?_;clear hsz2;intro hsz2 hL;have x0:=Blk.new w 119 [.int .i64 1,.int .i64 n,.slice a2 nm c2,.slice a3 nn c3,.slice a4 nk c4]
 have G0:Sg w0 w L.length base (fun x=>Blk x w.heap.size 119 [.int .i64 1,.int .i64 n,.slice a2 nm c2,.slice a3 nn c3,.slice a4 nk c4]) (w.alloc (.cells #[.int .i64 1,.int .i64 n,.slice a2 nm c2,.slice a3 nn c3,.slice a4 nk c4] 119 (0,0))) L v:=⟨ho.alloc _,x0,dB Q5,Wr.of (aB w _ none),zB0 _,hb.alloc hb.size _,by simp;omega,h0⟩
 have q0:=x0.k 0;clear x0 ho hb hok Am;go_enter Tryz.func91,Tryz.ntmps91;go_upto_region 1 with fail;generalize w.alloc (.cells #[.int .i64 1,.int .i64 n,.slice a2 nm c2,.slice a3 nn c3,.slice a4 nk c4] 119 (0,0))=w1 at *;generalize w.heap.size=gx at *;go_upto_region 5 with fail;clear q0;have G10:=G0.drew
 refine zK1 (S:=fun wx=>wx.cell? ⟨gx,3,none⟩=some (.slice a3 nn c3)) Q1 (G10.k 3) (fun Aa=>?_)
 generalize w1.drew=w10 at *;clear G0;refine M930 ?_
 refine ra 1 fun K hK=>?_
 go_simp
 have R12:(w10.alloc (.cells #[.int .u8 32] 5)).heap[w10.heap.size]?=some (Obj.cells #[.int .u8 32] 5 (0,0)):=zJ1 w10 _
 have F12:=G10.free;have G12:=G10.alloc (.cells #[.int .u8 32] 5)
 refine hK.out _ _ (G12.k 3) (fun Aa=>?_)
 clear hK K G10;try simp only[nrm]
 generalize w10.alloc (.cells #[.int .u8 32] 5)=w12 at *;generalize w10.heap.size=g12 at *
 refine ra 2 fun K hK=>?_
 rw[if_pos Q1];refine G12.row_wp _ _ rfl rfl (some ⟨g12,0,none⟩) 1 1 [32] rfl (eP Q0 Q0 R12) Q0 Q7 ?_;intro v14 w14 G14 gr14
 refine hK.out _ _ (G14.k 3) (fun Aa=>?_)
 clear hK K G12;try simp only[nrm]
 refine ra 5 fun K hK=>?_
 rw[if_pos Q1];refine G14.row_wp _ _ rfl rfl a3 nn c3 name rfl (G14.row h3) hnp Q7 ?_;intro v16 w16 G16 gr16
 refine hK.out _ _ (G16.k 3) (fun Aa=>?_)
 clear hK K G14;try simp only[nrm]
 refine ta 6 ?_;try simp only[nrm]
 refine zK2 Q1 ?_ _;go_wp2;go_ret;rw[HE.out];exact⟨_,rfl,G16.own,G16.wrote⟩
theorem aNz (n:Int)(mod name:List Int)(e0:Ex)(S0:lQ e0):lQ (.mk 2 n mod name [e0]):=by
 intro w0 w vs base L v hr hb h0 hle ho hok Am hs;obtain⟨hlc,hks⟩:=cW hok
 have hs':mod.length<=1048576/\name.length<=1048576:=by simp only[Ex.fl,aL,Fl.len]at hs;omega
 have hsk:aH (exs [e0])<=1048576:=by simp only[Ex.fl,aL,Fl.len]at hs;omega
 unfold Ex.fl at hr;obtain⟨y0,_,rfl,rfl,y1,_,rfl,rfl,y2,_,rfl,⟨a2,c2,rfl,h2,hc2,_⟩,y3,_,rfl,⟨a3,c3,rfl,h3,hc3,_⟩,y4,_,rfl,Be,rfl⟩:=hr;obtain⟨a4,c4,rfl,h4⟩:=Be.list;clear Be
 have An:(exs [e0]).length=1:=by simp[aQ]
 rw[An];simp only[agg];obtain⟨b4,o4,rfl⟩:=h4.addr Q18
 obtain⟨cc,rfl⟩:∃cc,c4=cc+1:=⟨c4-1,by have:=h4.cap;rw[An]at this;omega⟩
 simp only[eI,zC0,and_true]at hks;obtain⟨us0,hv0,Af⟩:=(h4.el (i:=0) rfl).vals;obtain⟨u00,u01,u02,u03,u04,rfl⟩:=eZ (hv0.len.trans (cF e0));refine M92 ?_;intro Au As Ar Aq Ap;clear Af
 have hsk0:aL e0.fl<=1048576:=by simp only[exs,aH]at hsk;omega
 have hse0:=nH hks hsk0;have hk0:=hks;refine M931 ?_;intro nn hnn nm hnm;rw[<-hnn]at h3 hs' hc3 ⊢;rw[<-hnm]at h2 hs' hc2 ⊢;refine M962 ?_;intro HNA HMO hnp;clear hnn hnm hs
 have HE:Hid (L++cS (.mk 2 n mod name [e0])=L++[32]++name++[32,91]++cS e0++[32,93]):=by show _=_;simp[cS,pM,qY,zD0]
 have hsz2:(L++[32]++name++[32,91]++cS e0++[32,93]).length<=1000000000:=by rw[<-HE.out,zA1];exact Am
 refine M961 ?_;clear hsz2;intro hsz2 hL;have x0:=Blk.new w 119 [.int .i64 2,.int .i64 n,.slice a2 nm c2,.slice a3 nn c3,.slice (some ⟨b4,o4,none⟩) 1 (cc+1)]
 have G0:Sg w0 w L.length base (fun x=>Blk x w.heap.size 119 [.int .i64 2,.int .i64 n,.slice a2 nm c2,.slice a3 nn c3,.slice (some ⟨b4,o4,none⟩) 1 (cc+1)]) (w.alloc (.cells #[.int .i64 2,.int .i64 n,.slice a2 nm c2,.slice a3 nn c3,.slice (some ⟨b4,o4,none⟩) 1 (cc+1)] 119 (0,0))) L v:=⟨ho.alloc _,x0,dB Q5,Wr.of (aB w _ none),zB0 _,hb.alloc hb.size _,by simp;omega,h0⟩
 have q0:=x0.k 0;clear x0 ho hb hok Am;go_enter Tryz.func91,Tryz.ntmps91;go_upto_region 1 with fail;generalize w.alloc (.cells #[.int .i64 2,.int .i64 n,.slice a2 nm c2,.slice a3 nn c3,.slice (some ⟨b4,o4,none⟩) 1 (cc+1)] 119 (0,0))=w1 at *;generalize w.heap.size=gx at *;go_upto_region 7 with fail;clear q0;have G17:=G0.drew
 refine zK1 (S:=fun wx=>wx.cell? ⟨gx,3,none⟩=some (.slice a3 nn c3)) Q1 (G17.k 3) (fun Aa=>?_)
 generalize w1.drew=w17 at *;clear G0;refine M930 ?_
 refine ra 1 fun K hK=>?_
 go_simp
 have R19:(w17.alloc (.cells #[.int .u8 32] 5)).heap[w17.heap.size]?=some (Obj.cells #[.int .u8 32] 5 (0,0)):=zJ1 w17 _
 have F19:=G17.free;have G19:=G17.alloc (.cells #[.int .u8 32] 5)
 refine hK.out _ _ (G19.k 3) (fun Aa=>?_)
 clear hK K G17;try simp only[nrm]
 generalize w17.alloc (.cells #[.int .u8 32] 5)=w19 at *;generalize w17.heap.size=g19 at *
 refine ra 2 fun K hK=>?_
 rw[if_pos Q1];refine G19.row_wp _ _ rfl rfl (some ⟨g19,0,none⟩) 1 1 [32] rfl (eP Q0 Q0 R19) Q0 Q7 ?_;intro v21 w21 G21 gr21
 refine hK.out _ _ (G21.k 3) (fun Aa=>?_)
 clear hK K G19;try simp only[nrm]
 refine ra 5 fun K hK=>?_
 rw[if_pos Q1];refine G21.row_wp _ _ rfl rfl a3 nn c3 name rfl (G21.row h3) hnp Q7 ?_;intro v23 w23 G23 gr23
 refine hK.out _ _ (G23.k 3) (fun Aa=>?_)
 clear hK K G21;try simp only[nrm]
 refine ra 6 fun K hK=>?_
 rw[if_pos Q1];refine G23.str_wp _ _ rfl rfl ⟨#[32,91]⟩ rfl Q10 ?_;intro v25 w25 G25 gr25
 replace G25:Sg w0 w L.length base _ w25 (L++[32]++name++[32,91]) v25:=G25
 refine hK.out _ _ (G25.k 3) (fun Aa=>?_)
 clear hK K G23;try simp only[nrm]
 refine ta 7 ?_;try simp only[nrm]
 refine zK2 Q1 ?_ _;have q4:=G25.k 4;have d0:=aC Au G25.bel;have d1:=aC As G25.bel;have d2:=aC Ar G25.bel;have d3:=aC Aq G25.bel;have d4:=aC Ap G25.bel;go_wp2_with fail;have H26:=S0 w0 w25 _ base (L++[32]++name++[32,91]) v25 hv0 G25.bel G25.h0 G25.le G25.own hk0 Q7 hsk0;simp only[agg]at H26;refine H26.mono ?_;rintro e w26 ⟨v26,rfl,ho26,hw26⟩;have G26:=G25.step hw26 ho26;clear H26 ho26 hw26;clear q4 d0 d1 d2 d3 d4
 go_wp2_with (at_builtin;refine Sg.str_list G26 rfl _ _ rfl rfl ⟨#[32,93]⟩ rfl Q10 ?_)
 intro v27 w27 G27 gr27
 replace G27:=G27.cast (M:=L++[32]++name++[32,91]++cS e0++[32,93]) (by simp[show sI ⟨#[32,93]⟩=[32,93] from rfl])
 go_wp2;go_ret;rw[HE.out];exact⟨_,rfl,G27.own,G27.wrote⟩
theorem aNy (n:Int)(mod name:List Int)(e0:Ex)(S0:lQ e0)(e1:Ex)(S1:lQ e1):lQ (.mk 3 n mod name [e0,e1]):=by
 intro w0 w vs base L v hr hb h0 hle ho hok Am hs;obtain⟨hlc,hks⟩:=cW hok
 have hs':mod.length<=1048576/\name.length<=1048576:=by simp only[Ex.fl,aL,Fl.len]at hs;omega
 have hsk:aH (exs [e0,e1])<=1048576:=by simp only[Ex.fl,aL,Fl.len]at hs;omega
 unfold Ex.fl at hr;obtain⟨y0,_,rfl,rfl,y1,_,rfl,rfl,y2,_,rfl,⟨a2,c2,rfl,h2,hc2,_⟩,y3,_,rfl,⟨a3,c3,rfl,h3,hc3,_⟩,y4,_,rfl,Be,rfl⟩:=hr;obtain⟨a4,c4,rfl,h4⟩:=Be.list;clear Be
 have An:(exs [e0,e1]).length=2:=by simp[aQ]
 rw[An];simp only[agg];obtain⟨b4,o4,rfl⟩:=h4.addr Q18
 obtain⟨cc,rfl⟩:∃cc,c4=cc+1:=⟨c4-1,by have:=h4.cap;rw[An]at this;omega⟩
 simp only[eI,zC0,and_true]at hks;obtain⟨us0,hv0,Af⟩:=(h4.el (i:=0) rfl).vals;obtain⟨u00,u01,u02,u03,u04,rfl⟩:=eZ (hv0.len.trans (cF e0));refine M92 ?_;intro Au As Ar Aq Ap;clear Af
 have hsk0:aL e0.fl<=1048576:=by simp only[exs,aH]at hsk;omega
 have hse0:=nH hks.1 hsk0;have hk0:=hks.1;obtain⟨us1,hv1,hcl1⟩:=(h4.el (i:=1) rfl).vals;obtain⟨u10,u11,u12,u13,u14,rfl⟩:=eZ (hv1.len.trans (cF e1));refine M948 ?_;intro hc10 hc11 hc12 hc13 hc14;clear hcl1
 have hsk1:aL e1.fl<=1048576:=by simp only[exs,aH]at hsk;omega
 have hse1:=nH hks.2 hsk1;have hk1:=hks.2;refine M931 ?_;intro nn hnn nm hnm;rw[<-hnn]at h3 hs' hc3 ⊢;rw[<-hnm]at h2 hs' hc2 ⊢;have HNA:=hid hnn.symm;have HMO:=hid hnm.symm;have hsix:=aOm hlc;clear hnn hnm hs
 have HE:Hid (L++cS (.mk 3 n mod name [e0,e1])=L++[32,40]++cS e0++[32]++opI n++cS e1++[32,41]):=by show _=_;simp[cS,pM,qY,zD0]
 have hsz2:(L++[32,40]++cS e0++[32]++opI n++cS e1++[32,41]).length<=1000000000:=by rw[<-HE.out,zA1];exact Am
 refine M961 ?_;clear hsz2;intro hsz2 hL;have x0:=Blk.new w 119 [.int .i64 3,.int .i64 n,.slice a2 nm c2,.slice a3 nn c3,.slice (some ⟨b4,o4,none⟩) 2 (cc+1)]
 have G0:Sg w0 w L.length base (fun x=>Blk x w.heap.size 119 [.int .i64 3,.int .i64 n,.slice a2 nm c2,.slice a3 nn c3,.slice (some ⟨b4,o4,none⟩) 2 (cc+1)]) (w.alloc (.cells #[.int .i64 3,.int .i64 n,.slice a2 nm c2,.slice a3 nn c3,.slice (some ⟨b4,o4,none⟩) 2 (cc+1)] 119 (0,0))) L v:=⟨ho.alloc _,x0,dB Q5,Wr.of (aB w _ none),zB0 _,hb.alloc hb.size _,by simp;omega,h0⟩
 have q0:=x0.k 0;clear x0 ho hb hok Am;go_enter Tryz.func91,Tryz.ntmps91;go_upto_region 1 with fail;generalize w.alloc (.cells #[.int .i64 3,.int .i64 n,.slice a2 nm c2,.slice a3 nn c3,.slice (some ⟨b4,o4,none⟩) 2 (cc+1)] 119 (0,0))=w1 at *;generalize w.heap.size=gx at *;go_upto_region 10 with fail;clear q0;have G28:=G0.drew
 refine zK1 (S:=fun wx=>wx.cell? ⟨gx,4,none⟩=some (.slice (some ⟨b4,o4,none⟩) 2 (cc+1))/\wx.cell? ⟨b4,o4,none⟩=some u00/\wx.cell? ⟨b4,o4+1,none⟩=some u01/\wx.cell? ⟨b4,o4+2,none⟩=some u02/\wx.cell? ⟨b4,o4+3,none⟩=some u03/\wx.cell? ⟨b4,o4+4,none⟩=some u04) Q1 ⟨G28.k 4,aC Au G28.bel,aC As G28.bel,aC Ar G28.bel,aC Aq G28.bel,aC Ap G28.bel⟩ (fun Aa=>?_)
 generalize w1.drew=w28 at *;clear G0;refine M927 ?_;refine ta 4 ?_;refine ta 5 ?_;try simp only[nrm]
 refine wpAnyH_ready (rs:=[1,7]) Q1 Q9 ?_;refine AllReadyH.cons (i:=1) (o:=?oS29) ?iS29 ?gS29 (AllReadyH.cons (i:=7) (o:=?oS30) ?iS30 ?gS30 AllReadyH.nil)
 case iS29=>exact rfl
 case iS30=>exact rfl
 case gS29=>
  intro K hK;rw[if_pos Q1];refine G28.str_wp _ _ rfl rfl ⟨#[32,40]⟩ rfl Q10 ?_;intro v31 w31 G31 gr31
  replace G31:Sg w0 w L.length base _ w31 (L++[32,40]) v31:=G31
  refine hK.out _ _ ⟨G31.k 4,aC Au G31.bel,aC As G31.bel,aC Ar G31.bel,aC Aq G31.bel,aC Ap G31.bel⟩ (fun Aa=>?_)
  clear hK K G28;try simp only[nrm]
  refine wpAnyH_ready (rs:=[6,7]) Q1 Q9 ?_;refine AllReadyH.cons (i:=6) (o:=?oS32) ?iS32 ?gS32 (AllReadyH.cons (i:=7) (o:=?oS33) ?iS33 ?gS33 AllReadyH.nil)
  case iS32=>exact rfl
  case iS33=>exact rfl
  case gS32=>
   intro K hK;go_simp;have H34:=S0 w0 w31 _ base (L++[32,40]) v31 hv0 G31.bel G31.h0 G31.le G31.own hk0 Q7 hsk0;simp only[agg]at H34;refine H34.mono ?_;rintro e w34 ⟨v34,rfl,ho34,hw34⟩;have G34:=G31.step hw34 ho34;clear H34 ho34 hw34;go_wp2_with fail
   refine hK.out _ _ ⟨G34.k 4,aC Au G34.bel,aC As G34.bel,aC Ar G34.bel,aC Aq G34.bel,aC Ap G34.bel⟩ (fun Aa=>?_)
   clear hK K G31;try simp only[nrm]
   refine ra 7 fun K hK=>?_
   go_simp
   have R36:(w34.alloc (.cells #[.int .u8 32] 5)).heap[w34.heap.size]?=some (Obj.cells #[.int .u8 32] 5 (0,0)):=zJ1 w34 _
   have F36:=G34.free;have G36:=G34.alloc (.cells #[.int .u8 32] 5)
   refine hK.out _ _ ⟨G36.k 4,aC Au G36.bel,aC As G36.bel,aC Ar G36.bel,aC Aq G36.bel,aC Ap G36.bel⟩ (fun Aa=>?_)
   clear hK K G34;try simp only[nrm]
   generalize w34.alloc (.cells #[.int .u8 32] 5)=w36 at *;generalize w34.heap.size=g36 at *
   refine ra 8 fun K hK=>?_
   rw[if_pos Q1];refine G36.row_wp _ _ rfl rfl (some ⟨g36,0,none⟩) 1 1 [32] rfl (eP Q0 Q0 R36) Q0 Q7 ?_;intro v38 w38 G38 gr38
   refine hK.out _ _ ⟨G38.k 4,aC Au G38.bel,aC As G38.bel,aC Ar G38.bel,aC Aq G38.bel,aC Ap G38.bel⟩ (fun Aa=>?_)
   clear hK K G36;try simp only[nrm]
   refine ta 9 ?_;try simp only[nrm]
   refine zK2 Q1 ?_ _;have q1:=G38.k 1;go_wp2_with fail;have HO:=aL0 n hsix w38;refine HO.mono ?_;rintro e w39 ⟨⟨so,rfl,hso⟩,hgo⟩;have G39:=G38.grown hgo
   have hsz9:so.size<=1:=by rw[<-kM,hso];exact pR n
   clear HO hgo q1
   go_wp2_with (at_builtin;refine Sg.str_list G39 rfl _ _ rfl rfl so rfl Q13 ?_)
   intro v40 w40 G40 _
   replace G40:Sg w0 w L.length base (fun x=>Blk x gx 119 [.int .i64 3,.int .i64 n,.slice a2 nm c2,.slice a3 nn c3,.slice (some ⟨b4,o4,none⟩) 2 (cc+1)]) w40 (L++[32,40]++cS e0++[32]++opI n) v40:=by simpa [hso] using G40
   have hop:=pR n;have q4:=G40.k 4;have d0:=aC hc10 G40.bel;have d1:=aC hc11 G40.bel;have d2:=aC hc12 G40.bel;have d3:=aC hc13 G40.bel;have d4:=aC hc14 G40.bel;go_wp2_with fail;have H41:=S1 w0 w40 _ base (L++[32,40]++cS e0++[32]++opI n) v40 hv1 G40.bel G40.h0 G40.le G40.own hk1 Q7 hsk1;simp only[agg]at H41;refine H41.mono ?_;rintro e w41 ⟨v41,rfl,ho41,hw41⟩;have G41:=G40.step hw41 ho41;clear H41 ho41 hw41;clear q4 d0 d1 d2 d3 d4
   go_wp2_with (at_builtin;refine Sg.str_list G41 rfl _ _ rfl rfl ⟨#[32,41]⟩ rfl Q10 ?_)
   intro v42 w42 G42 gr42;replace G42:=G42.cast (M:=L++[32,40]++cS e0++[32]++opI n++cS e1++[32,41]) Q34;go_wp2;go_ret;rw[HE.out];exact⟨_,rfl,G42.own,G42.wrote⟩
  case gS33=>
   intro K hK;go_simp
   have R43:(w31.alloc (.cells #[.int .u8 32] 5)).heap[w31.heap.size]?=some (Obj.cells #[.int .u8 32] 5 (0,0)):=zJ1 w31 _
   have F43:=G31.free;have G43:=G31.alloc (.cells #[.int .u8 32] 5)
   refine hK.out _ _ ⟨G43.k 4,aC Au G43.bel,aC As G43.bel,aC Ar G43.bel,aC Aq G43.bel,aC Ap G43.bel⟩ (fun Aa=>?_)
   clear hK K G31;try simp only[nrm]
   generalize w31.alloc (.cells #[.int .u8 32] 5)=w43 at *;generalize w31.heap.size=g43 at *
   refine ra 6 fun K hK=>?_
   go_simp;have H45:=S0 w0 w43 _ base (L++[32,40]) v31 hv0 G43.bel G43.h0 G43.le G43.own hk0 Q7 hsk0;simp only[agg]at H45;refine H45.mono ?_;rintro e w45 ⟨v45,rfl,ho45,hw45⟩;have G45:=G43.step hw45 ho45;replace R43:=(hw45.small _ _ R43 Q9).trans R43;clear H45 ho45 hw45;go_wp2_with fail
   refine hK.out _ _ ⟨G45.k 4,aC Au G45.bel,aC As G45.bel,aC Ar G45.bel,aC Aq G45.bel,aC Ap G45.bel⟩ (fun Aa=>?_)
   clear hK K G43;try simp only[nrm]
   refine ra 8 fun K hK=>?_
   rw[if_pos Q1];refine G45.row_wp _ _ rfl rfl (some ⟨g43,0,none⟩) 1 1 [32] rfl (eP Q0 Q0 R43) Q0 Q7 ?_;intro v47 w47 G47 gr47
   refine hK.out _ _ ⟨G47.k 4,aC Au G47.bel,aC As G47.bel,aC Ar G47.bel,aC Aq G47.bel,aC Ap G47.bel⟩ (fun Aa=>?_)
   clear hK K G45;try simp only[nrm]
   refine ta 9 ?_;try simp only[nrm]
   refine zK2 Q1 ?_ _;have q1:=G47.k 1;go_wp2_with fail;have HO:=aL0 n hsix w47;refine HO.mono ?_;rintro e w48 ⟨⟨so,rfl,hso⟩,hgo⟩;have G48:=G47.grown hgo
   have hsz9:so.size<=1:=by rw[<-kM,hso];exact pR n
   clear HO hgo q1
   go_wp2_with (at_builtin;refine Sg.str_list G48 rfl _ _ rfl rfl so rfl Q13 ?_)
   intro v49 w49 G49 _
   replace G49:Sg w0 w L.length base (fun x=>Blk x gx 119 [.int .i64 3,.int .i64 n,.slice a2 nm c2,.slice a3 nn c3,.slice (some ⟨b4,o4,none⟩) 2 (cc+1)]) w49 (L++[32,40]++cS e0++[32]++opI n) v49:=by simpa [hso] using G49
   have hop:=pR n;have q4:=G49.k 4;have d0:=aC hc10 G49.bel;have d1:=aC hc11 G49.bel;have d2:=aC hc12 G49.bel;have d3:=aC hc13 G49.bel;have d4:=aC hc14 G49.bel;go_wp2_with fail;have H50:=S1 w0 w49 _ base (L++[32,40]++cS e0++[32]++opI n) v49 hv1 G49.bel G49.h0 G49.le G49.own hk1 Q7 hsk1;simp only[agg]at H50;refine H50.mono ?_;rintro e w50 ⟨v50,rfl,ho50,hw50⟩;have G50:=G49.step hw50 ho50;clear H50 ho50 hw50;clear q4 d0 d1 d2 d3 d4
   go_wp2_with (at_builtin;refine Sg.str_list G50 rfl _ _ rfl rfl ⟨#[32,41]⟩ rfl Q10 ?_)
   intro v51 w51 G51 gr51;replace G51:=G51.cast (M:=L++[32,40]++cS e0++[32]++opI n++cS e1++[32,41]) Q34;go_wp2;go_ret;rw[HE.out];exact⟨_,rfl,G51.own,G51.wrote⟩
 case gS30=>
  intro K hK;go_simp
  have R52:(w28.alloc (.cells #[.int .u8 32] 5)).heap[w28.heap.size]?=some (Obj.cells #[.int .u8 32] 5 (0,0)):=zJ1 w28 _
  have F52:=G28.free;have G52:=G28.alloc (.cells #[.int .u8 32] 5)
  refine hK.out _ _ ⟨G52.k 4,aC Au G52.bel,aC As G52.bel,aC Ar G52.bel,aC Aq G52.bel,aC Ap G52.bel⟩ (fun Aa=>?_)
  clear hK K G28;try simp only[nrm]
  generalize w28.alloc (.cells #[.int .u8 32] 5)=w52 at *;generalize w28.heap.size=g52 at *
  refine ra 1 fun K hK=>?_
  rw[if_pos Q1];refine G52.str_wp _ _ rfl rfl ⟨#[32,40]⟩ rfl Q10 ?_;intro v54 w54 G54 gr54
  replace G54:Sg w0 w L.length base _ w54 (L++[32,40]) v54:=G54
  replace R52:=(gr54.block _ (zJ0.1 R52).1 (fun e=>F52 e.symm)).trans R52
  refine hK.out _ _ ⟨G54.k 4,aC Au G54.bel,aC As G54.bel,aC Ar G54.bel,aC Aq G54.bel,aC Ap G54.bel⟩ (fun Aa=>?_)
  clear hK K G52;try simp only[nrm]
  refine ra 6 fun K hK=>?_
  go_simp;have H56:=S0 w0 w54 _ base (L++[32,40]) v54 hv0 G54.bel G54.h0 G54.le G54.own hk0 Q7 hsk0;simp only[agg]at H56;refine H56.mono ?_;rintro e w56 ⟨v56,rfl,ho56,hw56⟩;have G56:=G54.step hw56 ho56;replace R52:=(hw56.small _ _ R52 Q9).trans R52;clear H56 ho56 hw56;go_wp2_with fail
  refine hK.out _ _ ⟨G56.k 4,aC Au G56.bel,aC As G56.bel,aC Ar G56.bel,aC Aq G56.bel,aC Ap G56.bel⟩ (fun Aa=>?_)
  clear hK K G54;try simp only[nrm]
  refine ra 8 fun K hK=>?_
  rw[if_pos Q1];refine G56.row_wp _ _ rfl rfl (some ⟨g52,0,none⟩) 1 1 [32] rfl (eP Q0 Q0 R52) Q0 Q7 ?_;intro v58 w58 G58 gr58
  refine hK.out _ _ ⟨G58.k 4,aC Au G58.bel,aC As G58.bel,aC Ar G58.bel,aC Aq G58.bel,aC Ap G58.bel⟩ (fun Aa=>?_)
  clear hK K G56;try simp only[nrm]
  refine ta 9 ?_;try simp only[nrm]
  refine zK2 Q1 ?_ _;have q1:=G58.k 1;go_wp2_with fail;have HO:=aL0 n hsix w58;refine HO.mono ?_;rintro e w59 ⟨⟨so,rfl,hso⟩,hgo⟩;have G59:=G58.grown hgo
  have hsz9:so.size<=1:=by rw[<-kM,hso];exact pR n
  clear HO hgo q1
  go_wp2_with (at_builtin;refine Sg.str_list G59 rfl _ _ rfl rfl so rfl Q13 ?_)
  intro v60 w60 G60 _
  replace G60:Sg w0 w L.length base (fun x=>Blk x gx 119 [.int .i64 3,.int .i64 n,.slice a2 nm c2,.slice a3 nn c3,.slice (some ⟨b4,o4,none⟩) 2 (cc+1)]) w60 (L++[32,40]++cS e0++[32]++opI n) v60:=by simpa [hso] using G60
  have hop:=pR n;have q4:=G60.k 4;have d0:=aC hc10 G60.bel;have d1:=aC hc11 G60.bel;have d2:=aC hc12 G60.bel;have d3:=aC hc13 G60.bel;have d4:=aC hc14 G60.bel;go_wp2_with fail;have H61:=S1 w0 w60 _ base (L++[32,40]++cS e0++[32]++opI n) v60 hv1 G60.bel G60.h0 G60.le G60.own hk1 Q7 hsk1;simp only[agg]at H61;refine H61.mono ?_;rintro e w61 ⟨v61,rfl,ho61,hw61⟩;have G61:=G60.step hw61 ho61;clear H61 ho61 hw61;clear q4 d0 d1 d2 d3 d4
  go_wp2_with (at_builtin;refine Sg.str_list G61 rfl _ _ rfl rfl ⟨#[32,41]⟩ rfl Q10 ?_)
  intro v62 w62 G62 gr62;replace G62:=G62.cast (M:=L++[32,40]++cS e0++[32]++opI n++cS e1++[32,41]) Q34;go_wp2;go_ret;rw[HE.out];exact⟨_,rfl,G62.own,G62.wrote⟩
theorem aNx (n:Int)(mod name:List Int)(ks:List Ex):lQ (.mk 4 n mod name ks):=by
 refine M920 ?_;intro w0 w vs base L v hr hb h0 hle ho hok Am hs hlc hks hs' hsk;unfold Ex.fl at hr;obtain⟨y0,_,rfl,rfl,y1,_,rfl,rfl,y2,_,rfl,⟨a2,c2,rfl,h2,hc2,_⟩,y3,_,rfl,⟨a3,c3,rfl,h3,hc3,_⟩,y4,_,rfl,Be,rfl⟩:=hr;obtain⟨a4,c4,rfl,h4⟩:=Be.list;clear Be;refine M924 ?_;intro An hk9 nk hnk;rw[<-hnk]at hk9 ⊢;have HNK:=hid hnk.symm;clear hnk;refine M931 ?_;intro nn hnn nm hnm;rw[<-hnn]at h3 hs' hc3 ⊢;rw[<-hnm]at h2 hs' hc2 ⊢;have HNA:=hid hnn.symm;have HMO:=hid hnm.symm;clear hnn hnm hs
 have HE:Hid (L++cS (.mk 4 n mod name ks)=L++[32,73,78]):=by show _=_;simp[cS,pM,qY,zD0]
 have hsz2:(L++[32,73,78]).length<=1000000000:=by rw[<-HE.out,zA1];exact Am
 refine M961 ?_;clear hsz2;intro hsz2 hL;have x0:=Blk.new w 119 [.int .i64 4,.int .i64 n,.slice a2 nm c2,.slice a3 nn c3,.slice a4 nk c4]
 have G0:Sg w0 w L.length base (fun x=>Blk x w.heap.size 119 [.int .i64 4,.int .i64 n,.slice a2 nm c2,.slice a3 nn c3,.slice a4 nk c4]) (w.alloc (.cells #[.int .i64 4,.int .i64 n,.slice a2 nm c2,.slice a3 nn c3,.slice a4 nk c4] 119 (0,0))) L v:=⟨ho.alloc _,x0,dB Q5,Wr.of (aB w _ none),zB0 _,hb.alloc hb.size _,by simp;omega,h0⟩
 have q0:=x0.k 0;clear x0 ho hb hok Am;go_enter Tryz.func91,Tryz.ntmps91;go_upto_region 1 with fail;generalize w.alloc (.cells #[.int .i64 4,.int .i64 n,.slice a2 nm c2,.slice a3 nn c3,.slice a4 nk c4] 119 (0,0))=w1 at *;generalize w.heap.size=gx at *
 go_wp2_with (at_builtin;refine Sg.str_list G0 rfl _ _ rfl rfl ⟨#[32,73,78]⟩ rfl (by show _+3<=_;omega) ?_)
 intro v1 w2 G1 _
 replace G1:Sg w0 w L.length base _ w2 (L++[32,73,78]) v1:=G1
 go_wp2;go_ret;rw[HE.out];exact⟨_,rfl,G1.own,G1.wrote⟩
theorem aNw (n:Int)(mod name:List Int)(ks:List Ex):lQ (.mk 5 n mod name ks):=by
 refine M920 ?_;intro w0 w vs base L v hr hb h0 hle ho hok Am hs hlc hks hs' hsk;unfold Ex.fl at hr;obtain⟨y0,_,rfl,rfl,y1,_,rfl,rfl,y2,_,rfl,⟨a2,c2,rfl,h2,hc2,_⟩,y3,_,rfl,⟨a3,c3,rfl,h3,hc3,_⟩,y4,_,rfl,Be,rfl⟩:=hr;obtain⟨a4,c4,rfl,h4⟩:=Be.list;clear Be;refine M924 ?_;intro An hk9 nk hnk;rw[<-hnk]at hk9 ⊢;have HNK:=hid hnk.symm;clear hnk;refine M931 ?_;intro nn hnn nm hnm;rw[<-hnn]at h3 hs' hc3 ⊢;rw[<-hnm]at h2 hs' hc2 ⊢;refine M962 ?_;intro HNA HMO hnp;clear hnn hnm hs
 have HE:Hid (L++cS (.mk 5 n mod name ks)=L++[32,76,69,78,32]++name):=by show _=_;simp[cS,pM,qY,zD0]
 have hsz2:(L++[32,76,69,78,32]++name).length<=1000000000:=by rw[<-HE.out,zA1];exact Am
 refine M961 ?_;clear hsz2;intro hsz2 hL;have x0:=Blk.new w 119 [.int .i64 5,.int .i64 n,.slice a2 nm c2,.slice a3 nn c3,.slice a4 nk c4]
 have G0:Sg w0 w L.length base (fun x=>Blk x w.heap.size 119 [.int .i64 5,.int .i64 n,.slice a2 nm c2,.slice a3 nn c3,.slice a4 nk c4]) (w.alloc (.cells #[.int .i64 5,.int .i64 n,.slice a2 nm c2,.slice a3 nn c3,.slice a4 nk c4] 119 (0,0))) L v:=⟨ho.alloc _,x0,dB Q5,Wr.of (aB w _ none),zB0 _,hb.alloc hb.size _,by simp;omega,h0⟩
 have q0:=x0.k 0;clear x0 ho hb hok Am;go_enter Tryz.func91,Tryz.ntmps91;go_upto_region 1 with fail;generalize w.alloc (.cells #[.int .i64 5,.int .i64 n,.slice a2 nm c2,.slice a3 nn c3,.slice a4 nk c4] 119 (0,0))=w1 at *;generalize w.heap.size=gx at *;go_upto_region 16 with fail;clear q0;have G63:=G0.drew
 refine zK1 (S:=fun wx=>wx.cell? ⟨gx,3,none⟩=some (.slice a3 nn c3)) Q1 (G63.k 3) (fun Aa=>?_)
 generalize w1.drew=w63 at *;clear G0;refine M927 ?_
 refine ra 1 fun K hK=>?_
 rw[if_pos Q1];refine G63.str_wp _ _ rfl rfl ⟨#[32,76,69,78,32]⟩ rfl Q24 ?_;intro v65 w65 G65 gr65
 replace G65:Sg w0 w L.length base _ w65 (L++[32,76,69,78,32]) v65:=G65
 refine hK.out _ _ (G65.k 3) (fun Aa=>?_)
 clear hK K G63;try simp only[nrm]
 refine ra 4 fun K hK=>?_
 rw[if_pos Q1];refine G65.row_wp _ _ rfl rfl a3 nn c3 name rfl (G65.row h3) hnp Q7 ?_;intro v67 w67 G67 gr67
 refine hK.out _ _ (G67.k 3) (fun Aa=>?_)
 clear hK K G65;try simp only[nrm]
 refine ta 5 ?_;try simp only[nrm]
 refine zK2 Q1 ?_ _;go_wp2;go_ret;rw[HE.out];exact⟨_,rfl,G67.own,G67.wrote⟩
theorem aNu (n:Int)(mod name:List Int)(ks:List Ex):lQ (.mk 7 n mod name ks):=by
 refine M920 ?_;intro w0 w vs base L v hr hb h0 hle ho hok Am hs hlc hks hs' hsk;unfold Ex.fl at hr;obtain⟨y0,_,rfl,rfl,y1,_,rfl,rfl,y2,_,rfl,⟨a2,c2,rfl,h2,hc2,_⟩,y3,_,rfl,⟨a3,c3,rfl,h3,hc3,_⟩,y4,_,rfl,Be,rfl⟩:=hr;obtain⟨a4,c4,rfl,h4⟩:=Be.list;clear Be;refine M924 ?_;intro An hk9 nk hnk;rw[<-hnk]at hk9 ⊢;have HNK:=hid hnk.symm;clear hnk;refine M931 ?_;intro nn hnn nm hnm;rw[<-hnn]at h3 hs' hc3 ⊢;rw[<-hnm]at h2 hs' hc2 ⊢;refine M962 ?_;intro HNA HMO hnp;clear hnn hnm hs
 have HE:Hid (L++cS (.mk 7 n mod name ks)=L++[32,64,32]++name):=by show _=_;simp[cS,pM,qY,zD0]
 have hsz2:(L++[32,64,32]++name).length<=1000000000:=by rw[<-HE.out,zA1];exact Am
 refine M961 ?_;clear hsz2;intro hsz2 hL;have x0:=Blk.new w 119 [.int .i64 7,.int .i64 n,.slice a2 nm c2,.slice a3 nn c3,.slice a4 nk c4]
 have G0:Sg w0 w L.length base (fun x=>Blk x w.heap.size 119 [.int .i64 7,.int .i64 n,.slice a2 nm c2,.slice a3 nn c3,.slice a4 nk c4]) (w.alloc (.cells #[.int .i64 7,.int .i64 n,.slice a2 nm c2,.slice a3 nn c3,.slice a4 nk c4] 119 (0,0))) L v:=⟨ho.alloc _,x0,dB Q5,Wr.of (aB w _ none),zB0 _,hb.alloc hb.size _,by simp;omega,h0⟩
 have q0:=x0.k 0;clear x0 ho hb hok Am;go_enter Tryz.func91,Tryz.ntmps91;go_upto_region 1 with fail;generalize w.alloc (.cells #[.int .i64 7,.int .i64 n,.slice a2 nm c2,.slice a3 nn c3,.slice a4 nk c4] 119 (0,0))=w1 at *;generalize w.heap.size=gx at *;go_upto_region 18 with fail;clear q0;have G68:=G0.drew
 refine zK1 (S:=fun wx=>wx.cell? ⟨gx,3,none⟩=some (.slice a3 nn c3)) Q1 (G68.k 3) (fun Aa=>?_)
 generalize w1.drew=w68 at *;clear G0;refine M927 ?_
 refine ra 1 fun K hK=>?_
 rw[if_pos Q1];refine G68.str_wp _ _ rfl rfl ⟨#[32,64,32]⟩ rfl Q12 ?_;intro v70 w70 G70 gr70
 replace G70:Sg w0 w L.length base _ w70 (L++[32,64,32]) v70:=G70
 refine hK.out _ _ (G70.k 3) (fun Aa=>?_)
 clear hK K G68;try simp only[nrm]
 refine ra 4 fun K hK=>?_
 rw[if_pos Q1];refine G70.row_wp _ _ rfl rfl a3 nn c3 name rfl (G70.row h3) hnp Q7 ?_;intro v72 w72 G72 gr72
 refine hK.out _ _ (G72.k 3) (fun Aa=>?_)
 clear hK K G70;try simp only[nrm]
 refine ta 5 ?_;try simp only[nrm]
 refine zK2 Q1 ?_ _;go_wp2;go_ret;rw[HE.out];exact⟨_,rfl,G72.own,G72.wrote⟩
end Go.Proofs.YtffphdacgblaoaaGreatDoor

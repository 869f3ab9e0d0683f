import Derived.Test.YtnelibmaancmkaaGreatDoorPackC
namespace Go.Proofs.YtnelibmaancmkaaGreatDoor
open Go.RowKit
set_option linter.unusedVariables false
set_option linter.unusedSimpArgs false
set_option maxRecDepth 100000
def pI (k n:Int)(mod name:List Int)(ss:List (List Int)):List Int:=
 if k=0 then [32]++fI n
 else if k=1 then [32]++name
 else if k=2 then [32]++name++[32,91]++ss[0]?.getD []++[32,93]
 else if k=3 then [32,40]++ss[0]?.getD []++[32]++opI n++ss[1]?.getD []++[32,41]
 else if k=4 then [32,73,78]
 else if k=5 then [32,76,69,78,32]++name
 else if k=6 then (if mod.length=0 then [] else [32]++mod++[32,46])++[32]++name++[32,40]++aV [32,44] ss++[32,41]
 else [32,64,32]++name
mutual
def cL:Ex->List Int
 | .mk k n m a ks=>pI k n m a (oG ks)
def oG:List Ex->List (List Int)
 | []=>[]
 | e :: l=>cL e :: oG l
end
theorem lL (l:List Ex):oG l=l.map cL:=by
 induction l with
 | nil=>rfl
 | cons x l ih=>simp[oG,ih]
def Sw (t s:List Int):Prop:=32 :: t=s++[32]
theorem uP:∀(ts ss:List (List Int)),ts.length=ss.length->(∀(i:Nat) (t s:List Int),ts[i]?=some t->ss[i]?=some s->Sw t s)->Sw (aV [44,32] ts) (aV [32,44] ss)
 | [],[],_,_=>rfl
 | [],_ :: _,h,_=>by simp at h
 | _ :: _,[],h,_=>by simp at h
 | [t],[s],_,H=>H 0 t s rfl rfl
 | [t],_ :: _ :: _,h,_=>by simp at h
 | _ :: _ :: _,[s],h,_=>by simp at h
 | t :: t2 :: ts,s :: s2 :: ss,h,H=>by
  have h1:Sw t s:=H 0 t s rfl rfl
  have h2:=uP (t2 :: ts) (s2 :: ss) V28 (fun i a b ha hb=>H (i+1) a b (by simpa using ha) (by simpa using hb))
  unfold Sw at h1 h2 ⊢;simp only[aV]
  calc 32 :: (t++[44,32]++aV [44,32] (t2 :: ts))=(32 :: t)++[44]++(32 :: aV [44,32] (t2 :: ts)):=by simp
   _=s++[32]++[44]++(aV [32,44] (s2 :: ss)++[32]):=by rw[h1,h2]
   _=s++[32,44]++aV [32,44] (s2 :: ss)++[32]:=by simp
theorem aMc {k n:Int}{mod name:List Int}{ts ss:List (List Int)}(hl:ts.length=ss.length)(H:∀(i:Nat) (t s:List Int),ts[i]?=some t->ss[i]?=some s->Sw t s)(h2:k=2->1<=ts.length)(h3:k=3->2<=ts.length):Sw (iO k n mod name ts) (pI k n mod name ss):=by
 have h0:1<=ts.length->Sw (ts[0]?.getD []) (ss[0]?.getD []):=fun h=>by
  rw[List.getElem?_eq_getElem (show 0<ts.length by omega),List.getElem?_eq_getElem (show 0<ss.length by omega)]
  exact H 0 _ _ (List.getElem?_eq_getElem _) (List.getElem?_eq_getElem _)
 have h1:2<=ts.length->Sw (ts[1]?.getD []) (ss[1]?.getD []):=fun h=>by
  rw[List.getElem?_eq_getElem (show 1<ts.length by omega),List.getElem?_eq_getElem (show 1<ss.length by omega)]
  exact H 1 _ _ (List.getElem?_eq_getElem _) (List.getElem?_eq_getElem _)
 have hj:=uP ts ss hl H;unfold iO pI
 split
 .
  simp[Sw]
 split
 .
  simp[Sw]
 split
 .
  rename_i hk
  have e0:=h0 (h2 hk);generalize ts[0]?.getD []=t0 at *;generalize ss[0]?.getD []=s0 at *;unfold Sw at e0 ⊢
  calc 32 :: (name++[32]++[91,32]++t0++[93,32])=[32]++name++[32,91]++(32 :: t0)++[93,32]:=by simp
   _=_:=by rw[e0];simp
 split
 .
  rename_i hk
  have hk':=h3 hk;have e0:=h0 V6;have e1:=h1 hk';generalize ts[0]?.getD []=t0 at *;generalize ss[0]?.getD []=s0 at *;generalize ts[1]?.getD []=t1 at *;generalize ss[1]?.getD []=s1 at *;unfold Sw at e0 e1 ⊢
  calc 32 :: ([40,32]++t0++(opI n++[32])++t1++[41,32])=[32,40]++(32 :: t0)++opI n++(32 :: t1)++[41,32]:=by simp
   _=_:=by rw[e0,e1];simp
 split
 .
  rfl
 split
 .
  simp[Sw]
 split
 .
  generalize aV [44,32] ts=jt at *;generalize aV [32,44] ss=js at *;unfold Sw at hj ⊢
  split
  .
   calc 32 :: ([]++(name++[32])++([40,32]++jt++[41,32]))=[32]++name++[32,40]++(32 :: jt)++[41,32]:=by simp
    _=_:=by rw[hj];simp
  .
   calc 32 :: (mod++[32]++[46,32]++(name++[32])++([40,32]++jt++[41,32]))=[32]++mod++[32,46]++[32]++name++[32,40]++(32 :: jt)++[41,32]:=by simp
    _=_:=by rw[hj];simp
 .
  simp[Sw]
mutual
theorem kO:∀x:Ex,nQ x=true->Sw (prE x) (cL x)
 | .mk k n m a ks,h=>by
  obtain⟨h1,h2⟩:=cM h;have h3:=aBe ks h2;have h4:=aIj h1;rw[prE,cL]
  refine aMc (by simp[kB,lL]) (fun i t s ht hs=>?_) (fun hk=>?_) (fun hk=>?_)
  .
   rw[kB,List.getElem?_map]at ht;rw[lL,List.getElem?_map]at hs
   cases hx:ks[i]? with
   | none=>rw[hx]at ht;cases ht
   | some x=>
    rw[hx]at ht hs;simp only[Option.map_some,Option.some.injEq]at ht hs;subst ht hs;exact h3 x (List.mem_of_getElem? hx)
  .
   subst hk;simp[dL]at h4;simp[kB];omega
  .
   subst hk;simp[dL]at h4;simp[kB];omega
theorem aBe:∀l:List Ex,dR l=true->∀x ∈ l,Sw (prE x) (cL x)
 | [],_=>by simp
 | y :: l,h=>by
  simp only[dR,Bool.and_eq_true]at h;have h1:=kO y h.1;have h2:=aBe l h.2;intro x hx
  rcases List.mem_cons.1 hx with rfl|hx
  .
   exact h1
  .
   exact h2 x hx
end
theorem aHt {x:Ex}(h:nQ x=true):(cL x).length=(prE x).length:=by
 have:=congrArg List.length (kO x h)
 simpa using this.symm
theorem U47{p:Prop}(h:p:=by
 go_enter Tryz.func210,Tryz.ntmps210
 go_wp2_with fail
 go_ret
 exact⟨⟨_,rfl,by decide⟩,yy⟩):p:=h
def Dig (n:Int):Prop:=∀w:World,Calls Tryz.prog 121 #[.int .i64 n] w fun e w'=>∃v,e=.returned v/\Own w' w.heap.size v (fI n).length (fI n)/\w.grownBy w' none
theorem aB1 {u:Nat}(h:u<10):fI u=[48+(u:Int)]:=by
 unfold fI Lib.itoa;rw[if_neg V6,Int.toNat_natCast,Lib.decDigits,dif_pos h];simp only[List.map_cons,List.map_nil,UInt8.toNat_ofNat']
 congr 1
 omega
theorem aH9 {u:Nat}(h:¬u<10):fI u=fI ((u / 10:Nat):Int)++[48+((u % 10:Nat):Int)]:=by
 unfold fI Lib.itoa;rw[if_neg V6,if_neg V6,Int.toNat_natCast,Int.toNat_natCast,Lib.decDigits,dif_neg h,List.map_append];simp only[List.map_cons,List.map_nil,UInt8.toNat_ofNat']
 congr 2
 omega
theorem aH8 {n:Int}(h:n<0):fI n=45 :: fI (-n):=by
 unfold fI Lib.itoa
 rw[if_pos h,if_neg V6,show(-n).toNat=n.natAbs by omega]
 rfl
theorem sU {w wa wb wc:World}{v:Value}{n:Nat}{l:List Int}(h1:w.grownBy wa none)(h2:wa.grownBy wb none)(ho:Own wb w.heap.size v n l)(h3:wb.grownBy wc v.ownBlock):w.grownBy wc none:=by
 have h12:=aD h1 h2
 refine⟨h3.os.trans h12.os,h3.tape.trans h12.tape,h3.output.trans h12.output,Nat.le_trans h12.size h3.size,fun k hk _=>?_⟩
 refine(h3.block k (Nat.lt_of_lt_of_le hk h12.size) (fun e=>?_)).trans (h12.block k hk V15)
 have:=(ho.1.lt k e.symm).1
 omega
theorem aDa (u:Nat)(h:u<10):Dig u:=by
 intro w;have h1:¬(u:Int)<0:=V6;have h2:(u:Int)<10:=V6
 have he:Hid (fI u=[48+(u:Int)]):=aB1 h
 clear h;generalize (u:Int)=n at *
 have ho:Own (w.alloc (.cells #[.int .u8 (48+n)] 5)) w.heap.size (.slice (some ⟨w.heap.size,0,none⟩) 1 1) 1 [48+n]:=jP (l:=[48+n]) (heap_alloc_new w _) (Nat.le_refl _) (by simp[maxLen]) V52
 have yy:=aC w (.cells #[.int .u8 (48+n)] 5) none;go_enter Tryz.func121,Tryz.ntmps121;go_wp2_with fail;go_ret;rw[he.out];exact⟨_,rfl,ho,yy⟩
theorem aI8 (u:Nat)(h:¬u<10)(hm:u<9223372036854775808)(ih:Dig ((u / 10:Nat):Int)):Dig u:=by
 intro w;have hl:=iS (n:=((u / 10:Nat):Int)) V6 V6;have h1:¬(u:Int)<0:=V6;have h2:¬(u:Int)<10:=V6
 have he:Hid (fI u=fI ((u / 10:Nat):Int)++[48+((u % 10:Nat):Int)]):=aH9 h
 have hd:Int.tdiv (u:Int) 10=((u / 10:Nat):Int):=by rw[Int.tdiv_eq_ediv_of_nonneg V6];omega
 have hm2:Int.tmod (u:Int) 10=((u % 10:Nat):Int):=by rw[Int.tmod_eq_emod_of_nonneg V6];omega
 have r1:((u % 10:Nat):Int)<10:=V6
 have r0:0<=((u % 10:Nat):Int):=V6
 have H:=ih w;have hb:(u:Int)<=9223372036854775807:=V6
 have hw:wrap64 ((u / 10:Nat):Int)=((u / 10:Nat):Int):=by unfold wrap64;omega
 generalize ((u % 10:Nat):Int)=r at *;generalize ((u / 10:Nat):Int)=q at *;clear h hm ih;generalize (u:Int)=n at *;go_enter Tryz.func121,Tryz.ntmps121;go_wp2_with fail;refine H.mono ?_;rintro e w1 ⟨v,rfl,ho,hg⟩
 obtain⟨nq,hnq⟩:∃z,z=(fI q).length:=⟨_,rfl⟩
 rw[<-hnq]at ho hl
 have hlen:Hid ((fI q++[48+r]).length=nq+1):=by show _=_;rw[List.length_append,<-hnq];rfl
 clear hnq;obtain⟨a1,c1,rfl,_⟩:=ho.shape;have Be:=aC w1 (.cells #[.int .u8 (48+r)] 5) none;clear H
 go_wp2_with (at_builtin;refine kN rfl _ _ rfl w.heap.size _ nq (fI q) rfl (ho.alloc _) _ 1 1 [48+r] rfl (qT w1 (48+r) V6 V6) V15 V6 (by have:=hg.size;have:=Be.size;omega) ?_)
 intro v2 w2 ho2 hg3
 have hf:w.grownBy w2 none:=sU hg Be (ho.alloc _) hg3
 clear hg Be hg3;go_wp2_with fail;go_ret;rw[he.out,hlen.out];exact⟨_,rfl,ho2,hf⟩
theorem aDb:∀(u:Nat),u<9223372036854775808->Dig u:=by
 intro u
 induction u using Nat.strongRecOn with
 | _ u ih=>
  intro hu
  by_cases h:u<10
  .
   exact aDa u h
  .
   exact aI8 u h hu (ih (u / 10) V6 V6)
theorem aI7 (n:Int)(h:n<0)(hm:-9223372036854775808<n)(ih:Dig (-n)):Dig n:=by
 intro w;have hl:=iS (n:=-n) V6 V6
 have he:Hid (fI n=45 :: fI (-n)):=aH8 h
 have H:=ih (w.alloc (.cells #[.int .u8 45] 5))
 have ho:Own (w.alloc (.cells #[.int .u8 45] 5)) w.heap.size (.slice (some ⟨w.heap.size,0,none⟩) 1 1) 1 [45]:=jP (l:=[45]) (heap_alloc_new w _) (Nat.le_refl _) (by simp[maxLen]) V15
 have yy:=aC w (.cells #[.int .u8 45] 5) none
 have hw:wrap64 (-n) = -n:=by unfold wrap64;omega
 clear ih;go_enter Tryz.func121,Tryz.ntmps121;go_wp2_with fail;refine H.mono ?_;rintro e w1 ⟨v,rfl,hod,hg⟩;replace ho:=ho.below (aA hg);generalize w.alloc (.cells #[.int .u8 45] 5)=wa at *
 obtain⟨nq,hnq⟩:∃z,z=(fI (-n)).length:=⟨_,rfl⟩
 rw[<-hnq]at hod hl
 have hlen:Hid ((45 :: fI (-n)).length=1+nq):=by show _=_;rw[List.length_cons,<-hnq];omega
 clear hnq;obtain⟨a1,c1,rfl,hM⟩:=hod.made (aA hg);clear H
 go_wp2_with (at_builtin;refine kN rfl _ _ rfl w.heap.size _ 1 [45] rfl ho a1 nq c1 (fI (-n)) rfl hM.row hM.nil V6 (by have:=yy.size;have:=hg.size;omega) ?_)
 intro v2 w2 ho2 hg3
 have hf:w.grownBy w2 none:=sU yy hg ho hg3
 go_wp2_with fail;go_ret;rw[he.out,hlen.out];exact⟨_,rfl,ho2,hf⟩
theorem dig (n:Int)(h0:-9223372036854775808<n)(h1:n<=9223372036854775807):Dig n:=by
 by_cases h:n<0
 .
  refine aI7 n h h0 ?_
  have:=aDb (-n).toNat V6
  rwa [show(((-n).toNat:Nat):Int) = -n by omega]at this
 .
  have:=aDb n.toNat V6
  rwa [show((n.toNat:Nat):Int)=n by omega]at this
theorem aIf (n:Int)(h:n=0\/n=1\/n=2\/n=3\/n=4\/n=5)(w:World):
  Calls Tryz.prog 210 #[.int .i64 n] w fun e w'=>(∃s,e=.returned (.string s)/\sI s=opI n)/\w.grownBy w' none:=by
 have yy:=aC w (.cells #[.string ⟨#[43]⟩,.string ⟨#[45]⟩,.string ⟨#[42]⟩,.string ⟨#[47]⟩,.string ⟨#[60]⟩,.string ⟨#[61]⟩] 9) none
 rcases h with rfl|rfl|rfl|rfl|rfl|rfl
 .
  exact U47
 .
  exact U47
 .
  exact U47
 .
  exact U47
 .
  exact U47
 .
  exact U47
structure Wr (n base:Nat) (w w':World):Prop where
 wr:aL base none w w'
 small:∀(k:Nat) (cs:Array Value),w.heap[k]?=some (Obj.cells cs 5 (0,0))->cs.size<n->w'.heap[k]?=w.heap[k]?
theorem Wr.refl (n base:Nat)(w:World):Wr n base w w:=⟨aL.refl _ _ _,fun _ _ _ _=>rfl⟩
theorem Wr.trans {n base:Nat}{a b c:World}(h:Wr n base a b)(k:Wr n base b c):Wr n base a c:=
 ⟨h.wr.trans k.wr,fun i cs hi hs=>by
  have h1:=h.small i cs hi hs
  exact(k.small i cs (h1.trans hi) hs).trans h1⟩
theorem Wr.mono {n m base:Nat}{a b:World}(h:Wr n base a b)(hm:m<=n):Wr m base a b:=⟨h.wr,fun k cs hk hs=>h.small k cs hk V6⟩
theorem Wr.of {n base:Nat}{w w':World}(h:w.grownBy w' none):Wr n base w w':=
 ⟨aL.of h,fun k cs hk _=>h.block k (Array.getElem?_eq_some_iff.1 hk).1 V15⟩
theorem Wr.own {base:Nat}{w w':World}{v:Value}{n:Nat}{l:List Int}(ho:Own w base v n l)(h:w.grownBy w' v.ownBlock):Wr n base w w':=by
 refine⟨aL.own ho h,fun k cs hk hs=>h.block k (Array.getElem?_eq_some_iff.1 hk).1 (fun e=>?_)⟩
 rcases ho.1.2 with⟨rfl,_⟩|⟨g,cap,cur,rfl,hg,hh,hc,_,hcs,_⟩
 .
  simp[Value.ownBlock]at e
 .
  simp only[Value.ownBlock,Option.some.injEq]at e;subst e
  have:=hk.symm.trans hh
  simp only[Option.some.injEq,Obj.cells.injEq]at this;rw[this.1]at hs
  omega
structure Sg (w0 ws:World) (n0 base:Nat) (B:World->Prop) (w:World) (L:List Int) (v:Value):Prop where
 own:Own w base v L.length L
 b:B w
 keep:∀x y,B x->aL base none x y->B y
 wrote:Wr n0 base ws w
 hn:n0<=L.length
 bel:Below w0.heap.size w0 w
 le:base<=w.heap.size
 h0:w0.heap.size<=base
theorem Sg.step {w0 ws w w':World}{n0 base:Nat}{B:World->Prop}{L L':List Int}{v v':Value}(h:Sg w0 ws n0 base B w L v)(hw:Wr L.length base w w')(ho:Own w' base v' (L++L').length (L++L')):Sg w0 ws n0 base B w' (L++L') v':=
 ⟨ho,h.keep _ _ h.b hw.wr,h.keep,h.wrote.trans (hw.mono h.hn),by have:=h.hn;rw[List.length_append];omega,hw.wr.below h.bel h.h0 V15,Nat.le_trans h.le hw.wr.size,h.h0⟩
theorem Sg.grown {w0 ws w w':World}{n0 base:Nat}{B:World->Prop}{L:List Int}{v:Value}(h:Sg w0 ws n0 base B w L v)(hg:w.grownBy w' none):Sg w0 ws n0 base B w' L v:=by
 have:=h.step (L':=[]) (v':=v) (Wr.of hg) (by rw[List.append_nil];exact h.own.below (aA hg))
 rwa [List.append_nil]at this
theorem Sg.alloc {w0 ws w:World}{n0 base:Nat}{B:World->Prop}{L:List Int}{v:Value}(h:Sg w0 ws n0 base B w L v)(o:Obj):Sg w0 ws n0 base B (w.alloc o) L v:=h.grown (aC w o none)
theorem Sg.drew {w0 ws w:World}{n0 base:Nat}{B:World->Prop}{L:List Int}{v:Value}(h:Sg w0 ws n0 base B w L v):Sg w0 ws n0 base B w.drew L v:=
 h.grown ⟨rfl,rfl,rfl,Nat.le_refl _,fun _ _ _=>rfl⟩
theorem Sg.more {w0 ws w:World}{n0 base:Nat}{B C:World->Prop}{L:List Int}{v:Value}(h:Sg w0 ws n0 base B w L v)(hc:C w)(hk:∀x y,C x->aL base none x y->C y):Sg w0 ws n0 base (fun x=>B x/\C x) w L v:=
 ⟨h.own,⟨h.b,hc⟩,fun x y hb hw=>⟨h.keep x y hb.1 hw,hk x y hb.2 hw⟩,h.wrote,h.hn,h.bel,h.le,h.h0⟩
theorem Sg.less {w0 ws w:World}{n0 base:Nat}{B C:World->Prop}{L:List Int}{v:Value}(h:Sg w0 ws n0 base (fun x=>B x/\C x) w L v)(hk:∀x y,B x->aL base none x y->B y):Sg w0 ws n0 base B w L v:=
 ⟨h.own,h.b.1,hk,h.wrote,h.hn,h.bel,h.le,h.h0⟩
theorem cS {base g:Nat}{T:TypeId}{vs:List Value}(hT:T ≠ 5):∀x y,Blk x g T vs->aL base none x y->Blk y g T vs:=fun x y hb hw=>hw.blk hb hT V15
theorem Sg.row {w0 ws w:World}{n0 base:Nat}{B:World->Prop}{L:List Int}{v:Value}(h:Sg w0 ws n0 base B w L v){a:Option Addr}{n:Nat}{l:List Int}(hr:bW w0 a n l):bW w a n l:=hr.below h.bel
theorem Sg.free {w0 ws w:World}{n0 base:Nat}{B:World->Prop}{L:List Int}{v:Value}(h:Sg w0 ws n0 base B w L v):v.ownBlock ≠ some w.heap.size:=fun e=>by have:=(h.own.1.lt _ e).2;omega
theorem Sg.cast {w0 ws w:World}{n0 base:Nat}{B:World->Prop}{L M:List Int}{v:Value}(h:Sg w0 ws n0 base B w L v)(e:L=M):Sg w0 ws n0 base B w M v:=e ▸ h
theorem eN {w:World}{g:Nat}{x:Int}(h0:0<=x)(h1:x<=255)(h:w.heap[g]?=some (.cells #[.int .u8 x] 5 (0,0))):bW w (some ⟨g,0,none⟩) 1 [x]:=by
 refine⟨rfl,by simp;omega,fun _=>⟨g,0,rfl,fun i hi=>?_⟩⟩
 obtain rfl:i=0:=V6
 have:=Blk.cell (T:=5) (vs:=[.int .u8 x]) (i:=0) (show Blk w g 5 [.int .u8 x] from h) rfl
 simpa using this
theorem Sg.row_wp {w0 ws w:World}{n0 base:Nat}{B:World->Prop}{L:List Int}{v:Value}{o:Oper}{a:Act}{K:Act->World->Prop}{Q:Exit->Act->World->Prop}(hg:Sg w0 ws n0 base B w L v)(s x:Operand)
  (ho:o.op=.call { callee:=.builtin .append,args:=#[s,x],argTypes:=#[22,22] }) (hs:a.eval s=v)
  (ad:Option Addr) (m c:Nat) (l2:List Int) (hx:a.eval x=.slice ad m c) (hr:bW w ad m l2) (hp:0<m) (Bb:L.length+m<=1099511627776)
  (h:∀v' w',Sg w0 ws n0 base B w' (L++l2) v'->w.grownBy w' v.ownBlock->K (a.put o.dst v') w'):Oper.wp Tryz.prog o a w K Q:=by
 obtain⟨i0,hi,hz0,hz1,hz2⟩:=info_parts uQ
 have hby:∀x ∈ L++l2,0<=x/\x<=255:=fun x hx=>(List.mem_append.1 hx).elim (hg.own.2 x) (hr.2.1 x)
 obtain⟨b,off,rfl,hc⟩:=hr.2.2 hp
 refine wp_append_own w s x 22 ho base 5 i0 (.int .u8 0) 1 1 Tryz.underlying22 hi hz0 hz1 hz2 rfl V7 v L.length _ hs hg.own.1 ⟨b,off,none⟩ m c (l2.map (Value.int .u8)) hx (by simp[hr.1]) ?_ (ints_oneCell _ _) V14 V6 hg.le ?_
 .
  exact U58
 .
  intro v' w' ho' hg' _
  have hl:(L++l2).length=L.length+m:=by rw[List.length_append,hr.1]
  exact h v' w' (hg.step (Wr.own hg.own hg') ⟨by rw[hl];simpa using ho',hby⟩) hg'
theorem Sg.str_wp {w0 ws w:World}{n0 base:Nat}{B:World->Prop}{L:List Int}{v:Value}{o:Oper}{a:Act}{K:Act->World->Prop}{Q:Exit->Act->World->Prop}(hg:Sg w0 ws n0 base B w L v)(s x:Operand)
  (ho:o.op=.call { callee:=.builtin .append,args:=#[s,x],argTypes:=#[22,9] }) (hs:a.eval s=v)
  (t:ByteArray) (hx:a.eval x=.string t) (Bb:L.length+t.size<=1099511627776)
  (h:∀v' w',Sg w0 ws n0 base B w' (L++sI t) v'->w.grownBy w' v.ownBlock->K (a.put o.dst v') w'):Oper.wp Tryz.prog o a w K Q:=by
 obtain⟨i0,hi,hz0,hz1,hz2⟩:=info_parts uQ;obtain⟨v',w',hr,h2,h3,h4⟩:=Lib.run_append_own_string (P:=Tryz.prog) w base 22 9 o.type 5 i0 Tryz.underlying22 Tryz.underlying9 hi hz0 hz1 hz2 v L.length _ hg.own.1 t V14 V6 hg.le
 have e:(L++sI t).map (Value.int .u8)=L.map (Value.int .u8)++Lib.strCells t:=by
  rw[List.map_append]
  congr 1
  unfold sI Lib.strCells;rw[List.map_map]
  rfl
 have hl:(L++sI t).length=L.length+t.size:=by rw[List.length_append,jI]
 have hs':Sg w0 ws n0 base B w' (L++sI t) v':=hg.step (Wr.own hg.own h3) ⟨by rw[hl,e];exact h2,fun x hx=>(List.mem_append.1 hx).elim (hg.own.2 x) (aBg t x)⟩
 unfold Oper.wp execOp;simp only[ho,resolve,invoke,builtin,Sem.run_bind,Sem.run_pure,Result.andThen_ok,List.map_toArray,List.map_cons,List.map_nil,hs,hx,hr];exact h v' w' hs' h3
theorem Sg.str_list {w0 ws w:World}{n0 base:Nat}{B:World->Prop}{L:List Int}{v:Value}{ops:Array Oper}{rest:List Oper}{o:Oper}{a:Act}{Q:Exit->Act->World->Prop}(hg:Sg w0 ws n0 base B w L v)(hgd:o.guard=none)(s x:Operand)
  (ho:o.op=.call { callee:=.builtin .append,args:=#[s,x],argTypes:=#[22,9] }) (hs:a.eval s=v)
  (t:ByteArray) (hx:a.eval x=.string t) (Bb:L.length+t.size<=1099511627776)
  (h:∀v' w',Sg w0 ws n0 base B w' (L++sI t) v'->w.grownBy w' v.ownBlock->wpList Tryz.prog ops Q rest (a.put o.dst v') w'):wpList Tryz.prog ops Q (o :: rest) a w:=
 wpList_plain hgd fun _ hK=>hg.str_wp s x ho hs t hx Bb fun v' w' h' hb'=>hK _ _ (h v' w' h' hb')
end Go.Proofs.YtnelibmaancmkaaGreatDoor

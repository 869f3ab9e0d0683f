import Derived.Test.YtcbhdhmhidpdgaaGreatDoorPackF
namespace Go.Proofs.YtcbhdhmhidpdgaaGreatDoor
open Go.RowKit
set_option linter.unusedVariables false
set_option linter.unusedSimpArgs false
set_option maxRecDepth 100000
theorem QA26{p:Prop}(h:p:=by
 go_enter Tryz.func191,Tryz.ntmps191
 go_wp2
 go_ret
 exact⟨⟨_,rfl,by decide⟩,yy⟩):p:=h
def Dig (n:Int):Prop:=∀w:World,Calls Tryz.prog 170 #[.int .i64 n] w fun e w'=>∃v,e=.returned v/\Own w' w.heap.size v (nK n).length (nK n)/\w.grownBy w' none
theorem aDn {u:Nat}(h:u<10):nK u=[48+(u:Int)]:=by
 unfold nK Lib.itoa;rw[if_neg A0,Int.toNat_natCast,Lib.decDigits,dif_pos h];simp only[zH2,List.map_nil,UInt8.toNat_ofNat'];congr 1;omega
theorem aK2 {u:Nat}(h:¬u<10):nK u=nK ((u / 10:Nat):Int)++[48+((u % 10:Nat):Int)]:=by
 unfold nK Lib.itoa;rw[if_neg A0,if_neg A0,Int.toNat_natCast,Int.toNat_natCast,Lib.decDigits,dif_neg h,List.map_append];simp only[zH2,List.map_nil,UInt8.toNat_ofNat'];congr 2;omega
theorem aK1 {n:Int}(h:n<0):nK n=45 :: nK (-n):=by
 unfold nK Lib.itoa;rw[if_pos h,if_neg A0,show(-n).toNat=n.natAbs by omega];rfl
theorem uP {w wa wb wc:World}{v:Value}{n:Nat}{l:List Int}(h1:w.grownBy wa none)(h2:wa.grownBy wb none)(ho:Own wb w.heap.size v n l)(h3:wb.grownBy wc v.ownBlock):w.grownBy wc none:=by
 have Ww:=aC h1 h2;refine⟨h3.os.trans Ww.os,h3.tape.trans Ww.tape,h3.output.trans Ww.output,zF2 Ww.size h3.size,fun k hk _=>?_⟩;refine(h3.block k (Nat.lt_of_lt_of_le hk Ww.size) (fun e=>?_)).trans (Ww.block k hk A8);have:=(ho.1.lt k e.symm).1;omega
theorem aEz (u:Nat)(h:u<10):Dig u:=by
 intro w;have h1:¬(u:Int)<0:=A0;have h2:(u:Int)<10:=A0;have he:=hid (aDn h);clear h;generalize (u:Int)=n at *;have ho:Own (w.alloc (.cells #[.int .u8 (48+n)] 5)) w.heap.size (.slice (some ⟨w.heap.size,0,none⟩) 1 1) 1 [48+n]:=iF (l:=[48+n]) (heap_alloc_new w _) (zB0 _) (by simp[maxLen]) A10;have yy:=aE w (.cells #[.int .u8 (48+n)] 5) none;go_enter Tryz.func170,Tryz.ntmps170;go_wp2;go_ret;rw[he.out];exact⟨_,rfl,ho,yy⟩
theorem aMr (u:Nat)(h:¬u<10)(hm:u<9223372036854775808)(ih:Dig ((u / 10:Nat):Int)):Dig u:=by
 intro w;have hl:=lD (n:=((u / 10:Nat):Int)) A0 A0;have h1:¬(u:Int)<0:=A0;have h2:¬(u:Int)<10:=A0;have he:=hid (aK2 h);have hd:Int.tdiv (u:Int) 10=((u / 10:Nat):Int):=by rw[Int.tdiv_eq_ediv_of_nonneg A0];omega
 have hm2:Int.tmod (u:Int) 10=((u % 10:Nat):Int):=by rw[Int.tmod_eq_emod_of_nonneg A0];omega
 have r1:((u % 10:Nat):Int)<10:=A0;have r0:0<=((u % 10:Nat):Int):=A0;have H:=ih w;have hb:(u:Int)<=9223372036854775807:=A0;have hw:wrap64 ((u / 10:Nat):Int)=((u / 10:Nat):Int):=by unfold wrap64;omega
 generalize ((u % 10:Nat):Int)=r at *;generalize ((u / 10:Nat):Int)=q at *;clear h hm ih;generalize (u:Int)=n at *;go_enter Tryz.func170,Tryz.ntmps170;go_wp2_with fail;refine H.mono ?_;rintro e w1 ⟨v,rfl,ho,hg⟩;obtain⟨nq,Js⟩:=zx ((nK q).length);rw[<-Js]at ho hl;have Ah:Hid ((nK q++[48+r]).length=nq+1):=by show _=_;rw[zA1,<-Js];rfl
 clear Js;obtain⟨a1,c1,rfl,_⟩:=ho.shape;have hg2:=aE w1 (.cells #[.int .u8 (48+r)] 5) none;clear H;go_wp2_with (at_builtin;refine cC rfl _ _ rfl w.heap.size _ nq (nK q) rfl (ho.alloc _) _ 1 1 [48+r] rfl (oO w1 (48+r) A0 A0) A8 A0 (by have:=hg.size;have:=hg2.size;omega) ?_);intro v2 w2 Hr Bm;have hf:w.grownBy w2 none:=uP hg hg2 (ho.alloc _) Bm;clear hg hg2 Bm;go_wp2;go_ret;rw[he.out,Ah.out];exact⟨_,rfl,Hr,hf⟩
theorem aE0:∀(u:Nat),u<9223372036854775808->Dig u:=by
 intro u;induction u using Nat.strongRecOn with
 | _ u ih=>
  intro hu;by_cases h:u<10
  .
   exact aEz u h
  .
   exact aMr u h hu (ih (u / 10) A0 A0)
theorem aMq (n:Int)(h:n<0)(hm:-9223372036854775808<n)(ih:Dig (-n)):Dig n:=by
 intro w;have hl:=lD (n:=-n) A0 A0;have he:=hid (aK1 h);have H:=ih (w.alloc (.cells #[.int .u8 45] 5));have ho:Own (w.alloc (.cells #[.int .u8 45] 5)) w.heap.size (.slice (some ⟨w.heap.size,0,none⟩) 1 1) 1 [45]:=iF (l:=[45]) (heap_alloc_new w _) (zB0 _) (by simp[maxLen]) A8;have yy:=aE w (.cells #[.int .u8 45] 5) none;have hw:wrap64 (-n) = -n:=by unfold wrap64;omega
 clear ih;go_enter Tryz.func170,Tryz.ntmps170;go_wp2_with fail;refine H.mono ?_;rintro e w1 ⟨v,rfl,hod,hg⟩;replace ho:=ho.below (aA hg);generalize w.alloc (.cells #[.int .u8 45] 5)=wa at *;obtain⟨nq,Js⟩:=zx ((nK (-n)).length);rw[<-Js]at hod hl;have Ah:Hid ((45 :: nK (-n)).length=1+nq):=by show _=_;rw[zB1,<-Js];omega
 clear Js;obtain⟨a1,c1,rfl,hM⟩:=hod.made (aA hg);clear H;go_wp2_with (at_builtin;refine cC rfl _ _ rfl w.heap.size _ 1 [45] rfl ho a1 nq c1 (nK (-n)) rfl hM.row hM.nil A0 (by have:=yy.size;have:=hg.size;omega) ?_);intro v2 w2 Hr Bm;have hf:=uP yy hg ho Bm;go_wp2;go_ret;rw[he.out,Ah.out];exact⟨_,rfl,Hr,hf⟩
theorem dig (n:Int)(h0:-9223372036854775808<n)(h1:n<=9223372036854775807):Dig n:=by
 by_cases h:n<0
 .
  refine aMq n h h0 ?_;have:=aE0 (-n).toNat A0;rwa [show(((-n).toNat:Nat):Int) = -n by omega]at this
 .
  have:=aE0 n.toNat A0;rwa [show((n.toNat:Nat):Int)=n by omega]at this
theorem aLc (n:Int)(h:n=0\/n=1\/n=2\/n=3\/n=4\/n=5)(w:World):
  Calls Tryz.prog 191 #[.int .i64 n] w fun e w'=>(∃s,e=.returned (.string s)/\sI s=opI n)/\w.grownBy w' none:=by
 have yy:=aE w (.cells #[.string ⟨#[43]⟩,.string ⟨#[45]⟩,.string ⟨#[42]⟩,.string ⟨#[47]⟩,.string ⟨#[60]⟩,.string ⟨#[61]⟩] 9) none;rcases h with rfl|rfl|rfl|rfl|rfl|rfl
 .
  exact QA26
 .
  exact QA26
 .
  exact QA26
 .
  exact QA26
 .
  exact QA26
 .
  exact QA26
section
variable{a:Act}{Q:Exit->Act->World->Prop}{L:List Int}{base g n0:Nat}{v:Value}{w w' w0 ws:World}{B:World->Prop}
structure Wr (n base:Nat) (w w':World):Prop where
 wr:eD base none w w'
 small:∀(k:Nat) (cs:Array Value),w.heap[k]?=some (Obj.cells cs 5 (0,0))->cs.size<n->w'.heap[k]?=w.heap[k]?
theorem Wr.refl (n base:Nat)(w:World):Wr n base w w:=⟨eD.refl _ _ _,fun _ _ _ _=>rfl⟩
theorem Wr.trans {n base:Nat}{a b c:World}(h:Wr n base a b)(k:Wr n base b c):Wr n base a c:=
 ⟨h.wr.trans k.wr,fun i cs hi hs=>by
  have h1:=h.small i cs hi hs;exact(k.small i cs (h1.trans hi) hs).trans h1⟩
theorem Wr.mono{n m:Nat}{a b:World}(h:Wr n base a b)(hm:m<=n):Wr m base a b:=⟨h.wr,fun k cs hk hs=>h.small k cs hk A0⟩
theorem Wr.of {n base:Nat}{w w':World}(h:w.grownBy w' none):Wr n base w w':=
 ⟨eD.of h,fun k cs hk _=>h.block k (zI3.1 hk).1 A8⟩
theorem Wr.own {base:Nat}{w w':World}{v:Value}{n:Nat}{l:List Int}(ho:Own w base v n l)(h:w.grownBy w' v.ownBlock):Wr n base w w':=by
 refine⟨eD.own ho h,fun k cs hk hs=>h.block k (zI3.1 hk).1 (fun e=>?_)⟩;rcases ho.1.2 with⟨rfl,_⟩|⟨g,cap,cur,rfl,hg,hh,hc,_,Kl,_⟩
 .
  simp[Value.ownBlock]at e
 .
  simp only[Value.ownBlock,zG2]at e;subst e;have:=hk.symm.trans hh;simp only[zG2,Obj.cells.injEq]at this;rw[this.1]at hs;omega
structure Sg (w0 ws:World) (n0 base:Nat) (B:World->Prop) (w:World) (L:List Int) (v:Value):Prop where
 own:Own w base v L.length L
 b:B w
 keep:∀x y,B x->eD base none x y->B y
 wrote:Wr n0 base ws w
 hn:n0<=L.length
 bel:Below w0.heap.size w0 w
 le:base<=w.heap.size
 h0:w0.heap.size<=base
theorem Sg.step{L':List Int}{v':Value}(h:Sg w0 ws n0 base B w L v)(hw:Wr L.length base w w')(ho:Own w' base v' (L++L').length (L++L')):Sg w0 ws n0 base B w' (L++L') v':=
 ⟨ho,h.keep _ _ h.b hw.wr,h.keep,h.wrote.trans (hw.mono h.hn),by have:=h.hn;rw[zA1];omega,hw.wr.below h.bel h.h0 A8,zF2 h.le hw.wr.size,h.h0⟩
theorem Sg.grown(h:Sg w0 ws n0 base B w L v)(hg:w.grownBy w' none):Sg w0 ws n0 base B w' L v:=by
 have:=h.step (L':=[]) (v':=v) (Wr.of hg) (by rw[List.append_nil];exact h.own.below (aA hg));rwa [List.append_nil]at this
theorem Sg.alloc {w0 ws w:World}{n0 base:Nat}{B:World->Prop}{L:List Int}{v:Value}(h:Sg w0 ws n0 base B w L v)(o:Obj):Sg w0 ws n0 base B (w.alloc o) L v:=h.grown (aE w o none)
theorem Sg.drew {w0 ws w:World}{n0 base:Nat}{B:World->Prop}{L:List Int}{v:Value}(h:Sg w0 ws n0 base B w L v):Sg w0 ws n0 base B w.drew L v:=
 h.grown ⟨rfl,rfl,rfl,zB0 _,fun _ _ _=>rfl⟩
theorem Sg.more{C:World->Prop}(h:Sg w0 ws n0 base B w L v)(hc:C w)(hk:∀x y,C x->eD base none x y->C y):Sg w0 ws n0 base (fun x=>B x/\C x) w L v:=
 ⟨h.own,⟨h.b,hc⟩,fun x y hb hw=>⟨h.keep x y hb.1 hw,hk x y hb.2 hw⟩,h.wrote,h.hn,h.bel,h.le,h.h0⟩
theorem kM{T:TypeId}{vs:List Value}(hT:T ≠ 5):∀x y,Blk x g T vs->eD base none x y->Blk y g T vs:=fun x y hb hw=>hw.blk hb hT A8
theorem Sg.row(h:Sg w0 ws n0 base B w L v){a:Option Addr}{n:Nat}{l:List Int}(hr:aV w0 a n l):aV w a n l:=hr.below h.bel
theorem Sg.free(h:Sg w0 ws n0 base B w L v):v.ownBlock ≠ some w.heap.size:=fun e=>by have:=(h.own.1.lt _ e).2;omega
theorem dQ{x:Int}(h0:0<=x)(h1:x<=255)(h:w.heap[g]?=some (.cells #[.int .u8 x] 5 (0,0))):aV w (some ⟨g,0,none⟩) 1 [x]:=by
 refine⟨rfl,by simp;omega,fun _=>⟨g,0,rfl,fun i hi=>?_⟩⟩;obtain rfl:i=0:=A0;have:=Blk.cell (T:=5) (vs:=[.int .u8 x]) (i:=0) (show Blk w g 5 [.int .u8 x] from h) rfl;simpa using this
theorem Sg.row_wp{o:Oper}{K:Act->World->Prop}(hg:Sg w0 ws n0 base B w L v)(s x:Operand)
  (ho:o.op=.call { callee:=.builtin .append,args:=#[s,x],argTypes:=#[22,22] }) (hs:a.eval s=v)
  (ad:Option Addr) (m c:Nat) (l2:List Int) (hx:a.eval x=.slice ad m c) (hr:aV w ad m l2) (hp:0<m) (Bg:L.length+m<=1099511627776)
  (h:∀v' w',Sg w0 ws n0 base B w' (L++l2) v'->w.grownBy w' v.ownBlock->K (a.put o.dst v') w'):Oper.wp Tryz.prog o a w K Q:=by
 obtain⟨i0,hi,Dd,Db,Cz⟩:=info_parts uI;have Bv:∀x ∈ L++l2,0<=x/\x<=255:=fun x hx=>(List.mem_append.1 hx).elim (hg.own.2 x) (hr.2.1 x);obtain⟨b,off,rfl,hc⟩:=hr.2.2 hp;refine wp_append_own w s x 22 ho base 5 i0 (.int .u8 0) 1 1 Tryz.underlying22 hi Dd Db Cz rfl A6 v L.length _ hs hg.own.1 ⟨b,off,none⟩ m c (l2.map (Value.int .u8)) hx (by simp[hr.1]) ?_ (ints_oneCell _ _) A11 A0 hg.le ?_
 .
  exact QA24
 .
  intro v' w' ho' hg' _;have hl:(L++l2).length=L.length+m:=by rw[zA1,hr.1]
  exact h v' w' (hg.step (Wr.own hg.own hg') ⟨by rw[hl];simpa using ho',Bv⟩) hg'
theorem Sg.str_wp{o:Oper}{K:Act->World->Prop}(hg:Sg w0 ws n0 base B w L v)(s x:Operand)
  (ho:o.op=.call { callee:=.builtin .append,args:=#[s,x],argTypes:=#[22,9] }) (hs:a.eval s=v)
  (t:ByteArray) (hx:a.eval x=.string t) (Bg:L.length+t.size<=1099511627776)
  (h:∀v' w',Sg w0 ws n0 base B w' (L++sI t) v'->w.grownBy w' v.ownBlock->K (a.put o.dst v') w'):Oper.wp Tryz.prog o a w K Q:=by
 obtain⟨i0,hi,Dd,Db,Cz⟩:=info_parts uI;obtain⟨v',w',hr,h2,h3,h4⟩:=Lib.run_append_own_string (P:=Tryz.prog) w base 22 9 o.type 5 i0 Tryz.underlying22 Tryz.underlying9 hi Dd Db Cz v L.length _ hg.own.1 t A11 A0 hg.le;have e:(L++sI t).map (Value.int .u8)=L.map (Value.int .u8)++Lib.strCells t:=by
  rw[List.map_append];congr 1;unfold sI Lib.strCells;rw[List.map_map];rfl
 have hl:(L++sI t).length=L.length+t.size:=by rw[zA1,mK]
 have Ee:Sg w0 ws n0 base B w' (L++sI t) v':=hg.step (Wr.own hg.own h3) ⟨by rw[hl,e];exact h2,fun x hx=>(List.mem_append.1 hx).elim (hg.own.2 x) (aKk t x)⟩;unfold Oper.wp execOp;simp only[ho,resolve,invoke,builtin,Sem.run_bind,Sem.run_pure,Result.andThen_ok,List.map_toArray,zH2,List.map_nil,hs,hx,hr];exact h v' w' Ee h3
theorem Sg.str_list{ops:Array Oper}{rest:List Oper}{o:Oper}(hg:Sg w0 ws n0 base B w L v)(Le:o.guard=none)(s x:Operand)
  (ho:o.op=.call { callee:=.builtin .append,args:=#[s,x],argTypes:=#[22,9] }) (hs:a.eval s=v)
  (t:ByteArray) (hx:a.eval x=.string t) (Bg:L.length+t.size<=1099511627776)
  (h:∀v' w',Sg w0 ws n0 base B w' (L++sI t) v'->w.grownBy w' v.ownBlock->wpList Tryz.prog ops Q rest (a.put o.dst v') w'):wpList Tryz.prog ops Q (o :: rest) a w:=
 wpList_plain Le fun _ hK=>hg.str_wp s x ho hs t hx Bg fun v' w' h' Dy=>hK _ _ (h v' w' h' Dy)
end
section
def Zg (w0 ws:World)(n0 base:Nat)(B:World->Prop)(N:Nat)(w:World)(v:Value):Prop:=∃L,Sg w0 ws n0 base B w L v/\L.length<=N
def SB (w0:World)(B:World->Prop)(w:World):Prop:=B w/\Below w0.heap.size w0 w
def Zp (base k:Nat)(L:List Int)(w:World)(e:Ending)(w':World):Prop:=∃v' L',e=.returned v'/\Own w' base v' L'.length L'/\L.length<=L'.length/\L'.length<=L.length+k/\Wr L.length base w w'
section
variable {w0 ws w:World} {n0 base N:Nat} {B:World->Prop} {v:Value}
theorem Zg.sb (h:Zg w0 ws n0 base B N w v):SB w0 B w:=by
 obtain⟨L,g,_⟩:=h;exact⟨g.b,g.bel⟩
theorem Zg.grown {w':World}(h:Zg w0 ws n0 base B N w v)(hg:w.grownBy w' none):Zg w0 ws n0 base B N w' v:=by
 obtain⟨L,g,hl⟩:=h;exact⟨L,g.grown hg,hl⟩
theorem Zg.mono {M:Nat}(h:Zg w0 ws n0 base B N w v)(hm:N<=M):Zg w0 ws n0 base B M w v:=by
 obtain⟨L,g,hl⟩:=h;exact⟨L,g,zF2 hl hm⟩
theorem Zg.with {C:World->Prop}(h:Zg w0 ws n0 base B N w v)(hc:C w)(hk:∀x y,C x->eD base none x y->C y):Zg w0 ws n0 base C N w v:=by
 obtain⟨L,g,hl⟩:=h;exact⟨L,⟨g.own,hc,hk,g.wrote,g.hn,g.bel,g.le,g.h0⟩,hl⟩
theorem Zg.out {k:Nat}{L0:List Int}(h:Zg w0 ws L0.length base B (L0.length+k) w v):Zp base k L0 ws (.returned v) w:=by
 obtain⟨L,g,hl⟩:=h;exact⟨v,L,rfl,g.own,g.hn,hl,g.wrote⟩
theorem Zg.call (h:Zg w0 ws n0 base B N w v){f k:Nat}{args:Array Value}(H:∀L,Own w base v L.length L->base<=w.heap.size->Below w0.heap.size w0 w->w0.heap.size<=base->L.length<=N->n0<=L.length->Calls Tryz.prog f args w (Zp base k L w)):
  Calls Tryz.prog f args w fun e w'=>∃v',e=.returned v'/\Zg w0 ws n0 base B (N+k) w' v'/\Wr n0 base w w':=by
 obtain⟨L,g,hl⟩:=h;refine(H L g.own g.le g.bel g.h0 hl g.hn).mono ?_;rintro e w' ⟨v',L',rfl,ho,h1,h2,hw⟩;exact⟨v',rfl,⟨L',⟨ho,g.keep _ _ g.b hw.wr,g.keep,g.wrote.trans (hw.mono g.hn),zF2 g.hn h1,hw.wr.below g.bel g.h0 A8,zF2 g.le hw.wr.size,g.h0⟩,by omega⟩,hw.mono g.hn⟩
end
section
variable {w0 ws w:World} {n0 base N:Nat} {B:World->Prop} {v:Value} {ops:Array Oper} {Q:Exit->Act->World->Prop} {md:Region.Mode} {L:Nat} {o:Oper} {fuel:Nat} {listed:Array Bool} {a:Act}
def Zt (md:Region.Mode)(ops:Array Oper)(Q:Exit->Act->World->Prop)(S:World->Prop)(L i fuel:Nat)(listed:Array Bool)(a:Act)(w:World):Prop:=wpOp Tryz.prog ops Q i (fun a' w'=>(i=L\/S w')/\cR Tryz.prog md ops Q S L fuel (listed.setIfInBounds i true) a' w') a w
theorem z1 {S:World->Prop}{i:Nat}(h:Zt md ops Q S L i fuel listed a w)(hr:Region.ready md ops listed=[i]:=by kernel_rfl):cR Tryz.prog md ops Q S L (fuel+1) listed a w:=
 ⟨fun e=>(by rw[hr]at e;cases e),fun j hj=>by rw[hr]at hj;rw[List.mem_singleton.1 hj];exact h⟩
theorem z2 {S:World->Prop}{i k:Nat}(h:Zt md ops Q S L i fuel listed a w)(h':Zt md ops Q S L k fuel listed a w)(hr:Region.ready md ops listed=[i,k]:=by kernel_rfl):cR Tryz.prog md ops Q S L (fuel+1) listed a w:=
 ⟨fun e=>(by rw[hr]at e;cases e),fun j hj=>by
  rw[hr]at hj;rcases zG3.1 hj with rfl|hj
  .
   exact h
  .
   rw[List.mem_singleton.1 hj];exact h'⟩
theorem zt {S:World->Prop}{i:Nat}(h:∀K:Act->World->Prop,Shut (∀a w,S w->(S w->cR Tryz.prog md ops Q S L fuel (listed.setIfInBounds i true) a w)->K a w)->if Region.wanted o (yielded ops a.tmps)=true then Oper.wp Tryz.prog o a w K Q else K (a.put o.dst undef) w)
  (ho:ops[i]?=some o:=by rfl):Zt md ops Q S L i fuel listed a w:=wpOp_step ho fun K hK=>h K (fun a w hS hW=>hK a w ⟨.inr hS,hW hS⟩)
theorem zd (L:Nat){id:Nat}(z:Zg w0 ws n0 base B N w v)(h:∀w',Zg w0 ws n0 base B N w' v->SB w0 B w'->cR Tryz.prog .any ops Q (SB w0 B) L ops.size (Array.replicate ops.size false) a w'):(Code.region id ops true).wp Tryz.prog Q a w:=by
 have z':=z.grown (show w.grownBy w.drew none from⟨rfl,rfl,rfl,zB0 _,fun _ _ _=>rfl⟩);exact rl L (by kernel_rfl) z'.sb fun hs=>h _ z' hs
theorem zR (i:Nat){s x:Operand}{ad:Option Addr}{m c:Nat}{l:List Int}(z:Zg w0 ws n0 base B N w v)(hr:aV w ad m l)(hp:0<m)
  (h:∀v' w',Zg w0 ws n0 base B (N+m) w' v'->SB w0 B w'->Wr n0 base w w'->cR Tryz.prog md ops Q (SB w0 B) L fuel (listed.setIfInBounds i true) (a.put o.dst v') w')
  (hN:N+m<=1099511627776:=by omega) (ho:ops[i]?=some o:=by rfl)
  (hop:o.op=.call { callee:=.builtin .append,args:=#[s,x],argTypes:=#[22,22] }:=by rfl) (hs:a.eval s=v:=by rfl) (hx:a.eval x=.slice ad m c:=by rfl) (hw:Region.wanted o (yielded ops a.tmps)=true:=by kernel_rfl):
  Zt md ops Q (SB w0 B) L i fuel listed a w:=
 zt (fun K hK=>by
  rw[if_pos hw];obtain⟨T,g,hl⟩:=z;refine g.row_wp s x hop hs ad m c l hx hr hp A0 fun v' w' g' hg'=>?_;have z':Zg w0 ws n0 base B (N+m) w' v':=⟨_,g',by rw[zA1,hr.1];omega⟩
  exact hK.out _ _ z'.sb fun hs=>h v' w' z' hs (Wr.mono (Wr.own g.own hg') g.hn)) ho
theorem zS (i:Nat){s x:Operand}{t:ByteArray}(z:Zg w0 ws n0 base B N w v)
  (h:∀v' w',Zg w0 ws n0 base B (N+8) w' v'->SB w0 B w'->Wr n0 base w w'->cR Tryz.prog md ops Q (SB w0 B) L fuel (listed.setIfInBounds i true) (a.put o.dst v') w')
  (hN:N+8<=1099511627776:=by omega) (ho:ops[i]?=some o:=by rfl)
  (hop:o.op=.call { callee:=.builtin .append,args:=#[s,x],argTypes:=#[22,9] }:=by rfl) (hs:a.eval s=v:=by rfl) (hx:a.eval x=.string t:=by rfl) (ht:t.size<=8:=by decide) (hw:Region.wanted o (yielded ops a.tmps)=true:=by kernel_rfl):
  Zt md ops Q (SB w0 B) L i fuel listed a w:=
 zt (fun K hK=>by
  rw[if_pos hw];obtain⟨T,g,hl⟩:=z;refine g.str_wp s _ hop hs t hx A0 fun v' w' g' hg'=>?_;have z':Zg w0 ws n0 base B (N+8) w' v':=⟨_,g',by rw[zA1,mK];omega⟩
  exact hK.out _ _ z'.sb fun hs=>h v' w' z' hs (Wr.mono (Wr.own g.own hg') g.hn)) ho
theorem zK (i:Nat){b:Int}(z:Zg w0 ws n0 base B N w v)
  (h:∀g w',Zg w0 ws n0 base B N w' v->SB w0 B w'->w'.heap[g]?=some (.cells #[.int .u8 b] 5 (0,0))->cR Tryz.prog md ops Q (SB w0 B) L fuel (listed.setIfInBounds i true) (a.put o.dst (.slice (some ⟨g,0,none⟩) 1 1)) w')
  (ho:ops[i]?=some o:=by rfl)
  (hop:o.op=.buildSlice 22 1 #[(0,.const (.int .u8 b))]:=by rfl) (hw:Region.wanted o (yielded ops a.tmps)=true:=by kernel_rfl):
  Zt md ops Q (SB w0 B) L i fuel listed a w:=
 zt (fun K hK=>by
  rw[if_pos hw];obtain⟨dst,op,ty,pos,aft,gd⟩:=o;subst hop;go_simp;have z':=z.grown (aE w (.cells #[.int .u8 b] 5 (0,0)) none);exact hK.out _ _ z'.sb fun hs=>h _ _ z' hs (heap_alloc_new w _)) ho
theorem zE {x:Operand}(h:Q .normal (a.put o.dst (a.eval x)) w)(ho:ops[L]?=some o:=by rfl)(hrd:Region.ready md ops listed=[L]:=by kernel_rfl)(hn:Region.ready md ops (listed.setIfInBounds L true)=[]:=by kernel_rfl)
  (hop:o.op=.assign x:=by rfl) (hw:Region.wanted o (yielded ops a.tmps)=true:=by kernel_rfl):cR Tryz.prog md ops Q (SB w0 B) L (fuel+1) listed a w:=
 ea (fun K hK=>by
  rw[if_pos hw];obtain⟨dst,op,ty,pos,aft,gd⟩:=o;subst hop;cases dst <;> cases x <;> go_simp <;> exact hK.out _ _ (by simpa [Act.put,Act.eval] using h)) ho hrd hn
theorem zF (i k:Nat){T g:Nat}{vs:List Value}{x:Operand}{t:TypeId}{u:Value}(hb:∀y,B y->Blk y g T vs)(hS:SB w0 B w)
  (h:cR Tryz.prog md ops Q (SB w0 B) L fuel (listed.setIfInBounds i true) (a.put o.dst u) w) (hv:vs[k]?=some u:=by rfl) (ho:ops[i]?=some o:=by rfl)
  (hk:(Region.noSelect ops && Region.free md ops listed i && (Region.ready md ops listed).contains i && vO md ops L i)=true:=by kernel_rfl)
  (hop:o.op=.load t x:=by rfl) (hd:o.guard=none:=by rfl)
  (hl:∀w:World,w.cell? ⟨g,k,none⟩=some u->(execOp a.eval ⟨o.dst,.load t x,o.type,o.pos,o.after,none⟩).run Tryz.prog w=.ok (.value u) w:=by intro w hc;go_simp)
  (hQ:∀c a w,Q (.panic c) (a.put o.dst u) w->Q (.panic c) a w:=by exact fun _ _ _ h=>h):cR Tryz.prog md ops Q (SB w0 B) L (fuel+1) listed a w:=by
 refine tl i ho hk (.inl ⟨?_,fun w' Nf=>?_⟩) hS hQ h
 .
  unfold Region.wanted;rw[hd]
 .
  obtain⟨dst,op,ty,pos,aft,gd⟩:=o;subst hop;subst hd;exact hl w' (Blk.cell (hb w' Nf.1) hv)
theorem zM (i:Nat){x:Operand}{b off:Nat}{u0 u1 u2 u3 u4:Value}(hc:∀j u,[u0,u1,u2,u3,u4][j]?=some u->w0.cell? ⟨b,off+j,none⟩=some u)(hS:SB w0 B w)
  (h:cR Tryz.prog md ops Q (SB w0 B) L fuel (listed.setIfInBounds i true) (a.put o.dst (.agg #[u0,u1,u2,u3,u4])) w) (ho:ops[i]?=some o:=by rfl)
  (hk:(Region.noSelect ops && Region.free md ops listed i && (Region.ready md ops listed).contains i && vO md ops L i)=true:=by kernel_rfl)
  (hop:o.op=.load 176 x:=by rfl) (hd:o.guard=none:=by rfl)
  (hl:∀w:World,w.cell? ⟨b,off,none⟩=some u0->w.cell? ⟨b,off+1,none⟩=some u1->w.cell? ⟨b,off+2,none⟩=some u2->w.cell? ⟨b,off+3,none⟩=some u3->w.cell? ⟨b,off+4,none⟩=some u4->(execOp a.eval ⟨o.dst,.load 176 x,o.type,o.pos,o.after,none⟩).run Tryz.prog w=.ok (.value (.agg #[u0,u1,u2,u3,u4])) w:=by intro w c0 c1 c2 c3 c4;go_simp)
  (hQ:∀c a w,Q (.panic c) (a.put o.dst (.agg #[u0,u1,u2,u3,u4])) w->Q (.panic c) a w:=by exact fun _ _ _ h=>h):cR Tryz.prog md ops Q (SB w0 B) L (fuel+1) listed a w:=by
 refine tl i ho hk (.inl ⟨?_,fun w' Nf=>?_⟩) hS hQ h
 .
  unfold Region.wanted;rw[hd]
 .
  obtain⟨dst,op,ty,pos,aft,gd⟩:=o;subst hop;subst hd;exact hl w' (aB (hc 0 _ rfl) Nf.2) (aB (hc 1 _ rfl) Nf.2) (aB (hc 2 _ rfl) Nf.2) (aB (hc 3 _ rfl) Nf.2) (aB (hc 4 _ rfl) Nf.2)
theorem aVn {f : Nat}(hf : (match Tryz.prog.funcs[f]? with | some fn => !(fn.name == "runtime.NumGoroutine") && fn.body.isSome | none => false) = true)(args : Array Value)(w : World) : (callFunc f args).run Tryz.prog w = .ok (.enter f args) w := by
 split at hf
 .
  rename_i fn h1;simp only[zC0,Bool.not_eq_true']at hf;obtain⟨b,hb⟩:=Option.isSome_iff_exists.1 hf.2;have h9 : ¬ fn.name = "runtime.NumGoroutine" := by simpa using hf.1
  simp[callFunc,h1,h9,hb,go_sem]
 .
  cases hf
theorem aE5 {K : Act → World → Prop}{c : Call}{f : Nat}{R : Value → World → Prop}(hop : o.op = .call c)(hc : c.callee = .value (.func f))(hf : (match Tryz.prog.funcs[f]? with | some fn => !(fn.name == "runtime.NumGoroutine") && fn.body.isSome | none => false) = true)
  (H:Calls Tryz.prog f (c.args.map a.eval) w fun e w'=>∃v,e=.returned v/\R v w') (h:∀v w',R v w'->K (a.put o.dst v) w'):Oper.wp Tryz.prog o a w K Q:=by
 obtain⟨dst,op,ty,pos,aft,gd⟩:=o;subst hop;unfold Oper.wp;have hrun:(execOp a.eval ⟨dst,.call c,ty,pos,aft,gd⟩).run Tryz.prog w=.ok (.enter f (c.args.map a.eval)) w:=by
  have he:a.eval (.func f)=.func (.func f) #[] #[]:=rfl;simp only[execOp,resolve,hc,he,Deferred.ofValue,Sem.run_bind,Sem.run_pure,Result.andThen_ok,invoke,aVn hf];simp
 rw[hrun,Oper.upon_enter];refine H.mono ?_;rintro e w' ⟨v,rfl,hr⟩;exact h v w' hr
theorem zC (i:Nat){f k:Nat}{ps:Array Operand}{ts:Array TypeId}{args:List Value}(z:Zg w0 ws n0 base B N w v)
  (H:∀M,Own w base v M.length M->base<=w.heap.size->Below w0.heap.size w0 w->w0.heap.size<=base->M.length<=N->n0<=M.length->Calls Tryz.prog f args.toArray w (Zp base k M w))
  (h:∀v' w',Zg w0 ws n0 base B (N+k) w' v'->SB w0 B w'->Wr n0 base w w'->cR Tryz.prog md ops Q (SB w0 B) L fuel (listed.setIfInBounds i true) (a.put o.dst v') w')
  (ho:ops[i]?=some o:=by rfl)
  (hop : o.op = .call { callee := .value (.func f), args := ps, argTypes := ts } := by rfl) (ha : ps.toList.map a.eval = args := by rfl) (hf : (match Tryz.prog.funcs[f]? with | some fn => !(fn.name == "runtime.NumGoroutine") && fn.body.isSome | none => false) = true := by kernel_rfl) (hw : Region.wanted o (yielded ops a.tmps) = true := by kernel_rfl) :
  Zt md ops Q (SB w0 B) L i fuel listed a w:=
 zt (fun K hK=>by
  rw[if_pos hw];have hA:ps.map a.eval=args.toArray:=Array.ext' (by rw[Array.toList_map,ha]);rw[<-hA]at H;exact aE5 hop rfl hf (z.call H) fun v' w' z'=>hK.out _ _ z'.1.sb fun hs=>h v' w' z'.1 hs z'.2) ho
theorem zD (i:Nat){f:Nat}{ps:Array Operand}{ts:Array TypeId}{args:List Value}{l:List Int}(z:Zg w0 ws n0 base B N w v)
  (H:Calls Tryz.prog f args.toArray w fun e w'=>∃v,e=.returned v/\Own w' w.heap.size v l.length l/\w.grownBy w' none) (hp:0<l.length)
  (h:∀ad c w',Zg w0 ws n0 base B N w' v->SB w0 B w'->aV w' ad l.length l->cR Tryz.prog md ops Q (SB w0 B) L fuel (listed.setIfInBounds i true) (a.put o.dst (.slice ad l.length c)) w')
  (ho:ops[i]?=some o:=by rfl)
  (hop : o.op = .call { callee := .value (.func f), args := ps, argTypes := ts } := by rfl) (ha : ps.toList.map a.eval = args := by rfl) (hf : (match Tryz.prog.funcs[f]? with | some fn => !(fn.name == "runtime.NumGoroutine") && fn.body.isSome | none => false) = true := by kernel_rfl) (hw : Region.wanted o (yielded ops a.tmps) = true := by kernel_rfl) :
  Zt md ops Q (SB w0 B) L i fuel listed a w:=
 zt (fun K hK=>by
  rw[if_pos hw];have hA:ps.map a.eval=args.toArray:=Array.ext' (by rw[Array.toList_map,ha]);rw[<-hA]at H;refine aE5 hop rfl hf H fun v' w' ⟨ho',hg'⟩=>?_;have z':=z.grown hg';obtain⟨ad,c,rfl,_⟩:=ho'.shape;exact hK.out _ _ z'.sb fun hs=>h ad c w' z' hs ho'.row) ho
theorem zl {s x:Operand}{t:ByteArray}{rest:List Oper}(z:Zg w0 ws n0 base B N w v)
  (h:∀v' w',Zg w0 ws n0 base B (N+8) w' v'->wpList Tryz.prog ops Q rest (a.put o.dst v') w')
  (hN:N+8<=1099511627776:=by omega) (Le:o.guard=none:=by rfl)
  (hop:o.op=.call { callee:=.builtin .append,args:=#[s,x],argTypes:=#[22,9] }:=by rfl) (hs:a.eval s=v:=by rfl) (hx:a.eval x=.string t:=by rfl) (ht:t.size<=8:=by decide):
  wpList Tryz.prog ops Q (o :: rest) a w:=by
 obtain⟨T,g,hl⟩:=z;exact g.str_list Le s x hop hs t hx A0 fun v' w' g' _=>h v' w' ⟨_,g',by rw[zA1,mK];omega⟩
end
theorem Zg.cell {w0 ws w:World}{n0 base N g:Nat}{T:TypeId}{vs:List Value}{v:Value}(z:Zg w0 ws n0 base (fun x=>Blk x g T vs) N w v){i:Nat}{u:Value}(hu:vs[i]?=some u):w.cell? ⟨g,i,none⟩=some u:=Blk.cell (show Blk w g T vs from z.sb.1) hu
theorem Zg.k{w0 ws w:World}{n0 base N g:Nat}{T:TypeId}{vs:List Value}{v:Value}(z:Zg w0 ws n0 base (fun x=>Blk x g T vs) N w v)(i:Nat){u:Value}(hu:vs[i]?=some u:=by rfl):w.cell? ⟨g,i,none⟩=some u:=z.cell hu
theorem Wr.keep {n base g:Nat}{cs:Array Value}{w w':World}(h:Wr n base w w')(hc:w.heap[g]?=some (.cells cs 5 (0,0)))(hs:cs.size<n:=by simp;omega):w'.heap[g]?=some (.cells cs 5 (0,0)):=(h.small g cs hc hs).trans hc
theorem aH1 {w0 w:World}{b off:Nat}{u0 u1 u2 u3 u4:Value}(hc:∀i u,[u0,u1,u2,u3,u4][i]?=some u->w0.cell? ⟨b,off+i,none⟩=some u)(hb:Below w0.heap.size w0 w):
  w.cell? ⟨b,off,none⟩=some u0/\w.cell? ⟨b,off+1,none⟩=some u1/\w.cell? ⟨b,off+2,none⟩=some u2/\w.cell? ⟨b,off+3,none⟩=some u3/\w.cell? ⟨b,off+4,none⟩=some u4:=
 ⟨aB (hc 0 _ rfl) hb,aB (hc 1 _ rfl) hb,aB (hc 2 _ rfl) hb,aB (hc 3 _ rfl) hb,aB (hc 4 _ rfl) hb⟩
end
section
theorem QA6{p:Prop}(h:p:=by
 go_upto_region 21 with fail
 refine zd 7 Z fun w2 Z Aa=>?_
 refine la 0 ?_
 refine la 3 ?_
 refine zF 4 3 hb Aa ?_
 refine z1 (zK 1 Z fun g w3 Z Aa R=>?_)
 refine z1 (zR 2 Z (dQ A6 A6 R) A6 fun v4 w4 Z Aa _=>?_)
 try simp only[nrm]
 refine z1 (zR 5 Z (r3 Aa.2) hp fun v5 w5 Z Aa _=>?_)
 try simp only[nrm]
 refine z1 (zS 6 Z fun v6 w6 Z Aa _=>?_)
 try simp only[nrm]
 refine zE ?_
 go_wp2_with fail
 go_loopw [0,5] (fun b i wr=>∃j:Nat,j<=nk/\i=.int .i64 j/\Zg w0 w L.length base (fun x=>Blk x gx 176 [.int .i64 6,.int .i64 n,.slice a2 nm c2,.slice a3 nn c3,.slice a4 nk c4]) (L.length+(nm+nn+18)+(50*aG ((exs ks).take j)+48*j)) wr b) (fun _ i _=>nk-(intOf i).toNat)
 case atStart=>exact⟨0,zD1 _,rfl,Z.mono A0⟩
 case round=>
  obtain⟨j,hj,rfl,Z⟩:=hrel
  have q4:=Z.k 4
  by_cases Ad:j<nk
  .
   obtain⟨b4,o4,x,u0,u1,u2,u3,u4,rfl,hS,Ib,hv,hc,ht⟩:=aBq h4 S Ay (j:=j) (by rw[HK.out];exact Ad)
   by_cases hj0:j=0
   .
    subst hj0
    simp only[Nat.zero_mul,zG1]at hc
    clear q4
    have q4:=Z.k 4
    obtain⟨d0,d1,d2,d3,d4⟩:=aH1 hc Z.sb.2
    go_wp2_with fail
    refine(Z.say Av hS Ib hv A0).mono ?_
    rintro e w3 ⟨v3,rfl,Z,_⟩
    clear q4 d0 d1 d2 d3 d4
    go_wp2
    go_roundw
    case rel=>exact⟨0+1,by omega,by go_num,Z.mono A0⟩
    case measure=>simp[intOf];omega
   .
    have h9:(0:Int)<j:=A0
    go_wp2_with (at_builtin;refine zl Z ?_)
    intro v8 w8 Z
    clear q4
    have q4:=Z.k 4
    obtain⟨d0,d1,d2,d3,d4⟩:=aH1 hc Z.sb.2
    go_wp2_with fail
    refine(Z.say Av hS Ib hv A0).mono ?_
    rintro e w3 ⟨v3,rfl,Z,_⟩
    clear q4 d0 d1 d2 d3 d4
    go_wp2
    go_roundw
    case rel=>exact⟨j+1,by omega,by go_num,Z.mono A0⟩
    case measure=>simp[intOf];omega
  .
   have ht:=bL (exs ks) j
   have:nk=j:=A0
   subst this
   go_wp2_with (at_builtin;refine zl Z fun v8 w8 Z=>?_)
   go_wp2
   go_ret
   exact(Z.mono A0).out):p:=h
theorem QA10{p:Prop}(h:p:=by
 refine z1 (zR 8 Z (dQ A6 A6 R) A6 fun v6 w6 Z Aa _=>?_)
 try simp only[nrm]
 refine zE ?_
 have q1:=Z.k 1
 go_wp2_with fail
 refine(aLc n hsix _).mono ?_
 rintro e w7 ⟨⟨so,rfl,Ff⟩,hgo⟩
 replace Z:=Z.grown hgo
 have Xl:so.size<=1:=by rw[<-mK,Ff];exact yV n
 clear q1 Ff hgo
 go_wp2_with (at_builtin;refine zl Z (ht:=by omega) ?_)
 intro v8 w8 Z
 have q4:=Z.k 4
 obtain⟨d0,d1,d2,d3,d4⟩:=aH1 Dc Z.sb.2
 simp only[Nat.add_assoc,Nat.reduceAdd]at d1 d2 d3 d4
 go_wp2_with fail
 refine(Z.say Av Nf hoy Wg A0).mono ?_
 rintro e w9 ⟨v9,rfl,Z,_⟩
 clear q4 d0 d1 d2 d3 d4
 go_wp2_with (at_builtin;refine zl Z fun v10 w10 Z=>?_)
 go_wp2
 go_ret
 exact(Z.mono A0).out):p:=h
theorem QA30{p:Prop}(h:p:=by
 go_wp2
 go_ret
 exact(Z.mono A0).out):p:=h
variable{N base n0:Nat}{v:Value}{w w0:World}
def aIs (x:Ex):Prop:=∀(w0 w:World) (vs:List Value) (base:Nat) (L:List Int) (v:Value),aL w0 x.fl vs->Below w0.heap.size w0 w->w0.heap.size<=base->base<=w.heap.size->Own w base v L.length L->tZ x=true->2<=L.length->L.length+(50*aO x.fl+40)<=1000000000 →
 Calls Tryz.prog 184 #[v,agg vs] w (Zp base (50*aO x.fl+40) L w)
theorem gH{l:List Int}{g:Bool}(h:aN l g=true):0<l.length:=by
 cases l with
 | nil=>cases g <;> simp[aN]at h| cons x l=>simp
theorem mR (n:Int):0<(nK n).length:=by
 unfold nK Lib.itoa;rw[zB2];have h:∀u,0<(Lib.decDigits u).length:=fun u=>by rw[Lib.decDigits];split <;> simp
 split
 .
  simp
 .
  exact h _
theorem aTa (n:Int)(h0:-9223372036854775808<n)(h1:n<=9223372036854775807)(w:World):Calls Tryz.prog 170 #[.int .i64 n] w fun e w'=>∃v,e=.returned v/\Own w' w.heap.size v (nK n).length (nK n)/\w.grownBy w' none:=dig n h0 h1 w
theorem aJd{k n:Int}{mod name:List Int}{nk:Nat}(h:gZ k n mod name nk=true):cX k<=nk/\(nk:Int)<=iM k:=by
 unfold gZ inB at h;simp only[zC0,zE3]at h;exact h.1.2.1.2
theorem aGc{α:Type}{l:List α}(h:l.length=5):∃a b c d e,l=[a,b,c,d,e]:=by
 match l,h with
 | [a,b,c,d,e],_=>exact⟨a,b,c,d,e,rfl⟩
theorem aBq{a4:Option Addr}{c4:Nat}{ks:List Ex}(h:aW w0 a4 c4 5 (exs ks))(S:∀x ∈ ks,aIs x)(hk:jO ks=true){j:Nat}(hj:j<ks.length):
  ∃b o x u0 u1 u2 u3 u4,a4=some ⟨b,o,none⟩/\aIs x/\tZ x=true/\aL w0 x.fl [u0,u1,u2,u3,u4]/\(∀i u,[u0,u1,u2,u3,u4][i]?=some u->w0.cell? ⟨b,o+j*5+i,none⟩=some u)/\aG ((exs ks).take j)+aO x.fl<=aG ((exs ks).take (j+1))/\aG ((exs ks).take (j+1))<=aG (exs ks):=by
 obtain⟨b,o,rfl⟩:=h.addr (by simp[aX];omega);have hx:ks[j]?=some ks[j]:=zA0 hj;have hm:=zA3 hx;have Bc:(exs ks)[j]?=some (ks[j]).fl:=by rw[aX,zA2,hx];rfl
 obtain⟨us,hv,hc⟩:=(h.el Bc).vals;obtain⟨u0,u1,u2,u3,u4,rfl⟩:=aGc (hv.len.trans (eL _));rw[oQ,zF3]at hk;exact⟨b,o,_,u0,u1,u2,u3,u4,rfl,S _ hm,hk _ hm,hv,hc,Nat.le_of_eq (dO Bc).symm,bL _ _⟩
theorem aIs.on{x:Ex}{us:List Value}(S:aIs x)(hn0:2<=n0)(Dh:tZ x=true)(hr:aL w0 x.fl us)(hN:N+(50*aO x.fl+40)<=1000000000):
  ∀M:List Int,Own w base v M.length M->base<=w.heap.size->Below w0.heap.size w0 w->w0.heap.size<=base->M.length<=N->n0<=M.length->Calls Tryz.prog 184 #[v,.agg us.toArray] w (Zp base (50*aO x.fl+40) M w):=
 fun M hO hl hb h0 hm hn=>S w0 w us base M v hr hb h0 hl hO Dh A0 A0
theorem Zg.say{ws:World}{B:World->Prop}(z:Zg w0 ws n0 base B N w v)(hn:2<=n0){x:Ex}{us:List Value}(S:aIs x)(Dh:tZ x=true)(hr:aL w0 x.fl us)(hN:N+(50*aO x.fl+40)<=1000000000):
  Calls Tryz.prog 184 #[v,.agg us.toArray] w fun e w'=>∃v',e=.returned v'/\Zg w0 ws n0 base B (N+(50*aO x.fl+40)) w' v'/\Wr n0 base w w':=z.call (S.on hn Dh hr hN)
set_option maxHeartbeats 8000000 in
theorem aUo (k n:Int)(mod name:List Int)(ks:List Ex)(S:∀x ∈ ks,aIs x):aIs (.mk k n mod name ks):=by
 intro w0 w vs base L v hr hb h0 Ce ho Dh Av Bg;obtain⟨Ya,Ay⟩:=yX Dh;have hl:aO (Ex.fl (.mk k n mod name ks))=mod.length+(name.length+(ks.length+aG (exs ks))):=by simp[Ex.fl,aO,Fl.len,aX]
 rw[hl]at Bg ⊢;unfold Ex.fl at hr;obtain⟨y0,_,rfl,rfl,y1,_,rfl,rfl,y2,_,rfl,⟨a2,c2,rfl,h2,Dl,_⟩,y3,_,rfl,⟨a3,c3,rfl,h3,Gj,_⟩,y4,_,rfl,Ps,rfl⟩:=hr;obtain⟨a4,c4,rfl,h4⟩:=Ps.list;clear Ps hl Dh;have Dp:(exs ks).length=ks.length:=by simp[aX]
 have Ju:ks.length<=9223372036854775807:=by have h5:=h4.cap;have h6:=h4.most;unfold maxLen at h6;omega
 rw[Dp];simp only[agg];have Gz:eC k=true->0<name.length:=fun h=>gH (aG1 Ya h);have Cg:0<=k/\k<=7:=by
  have:=Ya;unfold gZ inB at this;simp only[zC0,zE3]at this;exact this.1.1
 obtain⟨R,hR⟩:=zx (50*(mod.length+(name.length+(ks.length+aG (exs ks))))+40);rw[<-hR]at Bg ⊢;obtain⟨nk,hnk⟩:=zx (ks.length);obtain⟨nn,Iv⟩:=zx (name.length);obtain⟨nm,hnm2⟩:=zx (mod.length);have hRn:50*nm+50*nn+50*nk+50*aG (exs ks)+40<=R:=A0;clear hR;rw[<-hnk]at Ju ⊢;rw[<-Iv]at h3 Gj Gz ⊢;rw[<-hnm2]at h2 Dl ⊢;have HK:=hid hnk.symm;have HM:=hid hnm2.symm;clear hnk Iv hnm2 Dp;have x0:=Blk.new w 176 [.int .i64 k,.int .i64 n,.slice a2 nm c2,.slice a3 nn c3,.slice a4 nk c4];have Z:Zg w0 w L.length base (fun x=>Blk x w.heap.size 176 [.int .i64 k,.int .i64 n,.slice a2 nm c2,.slice a3 nn c3,.slice a4 nk c4]) L.length (w.alloc (.cells #[.int .i64 k,.int .i64 n,.slice a2 nm c2,.slice a3 nn c3,.slice a4 nk c4] 176 (0,0))) v:=
  ⟨L,⟨ho.alloc _,x0,kM A6,Wr.of (aE w _ none),zB0 _,hb.alloc hb.size _,by simp;omega,h0⟩,zB0 _⟩
 have q0:=x0.k 0;have q2:=x0.k 2;have r3:=fun {y:World} (h:Below w0.heap.size w0 y)=>aV.below h3 h;clear x0 ho hb;have k8:k=0\/k=1\/k=2\/k=3\/k=4\/k=5\/k=6\/k=7:=A0;go_enter Tryz.func184,Tryz.ntmps184;go_upto_region 1 with fail;obtain⟨gx,Ar⟩:=zx (w.heap.size);rw[<-Ar]at q0 q2 Z ⊢;generalize w.alloc (.cells #[.int .i64 k,.int .i64 n,.slice a2 nm c2,.slice a3 nn c3,.slice a4 nk c4] 176 (0,0))=w1 at *;have hb:∀y:World,Blk y gx 176 [.int .i64 k,.int .i64 n,.slice a2 nm c2,.slice a3 nn c3,.slice a4 nk c4]->Blk y gx 176 [.int .i64 k,.int .i64 n,.slice a2 nm c2,.slice a3 nn c3,.slice a4 nk c4]:=fun _ h=>h;clear Ar;rcases k8 with rfl|rfl|rfl|rfl|rfl|rfl|rfl|rfl
 .
  have hn0:-2147483648<=n/\n<=2147483647:=by simp[gZ,inB,fV,dK]at Ya;omega
  have hd:=lD (n:=n) A0 A0;go_upto_region 3 with fail;refine zd 7 Z fun w2 Z Aa=>?_;refine la 0 ?_;refine la 3 ?_;refine zF 4 1 hb Aa ?_;refine z1 (zK 1 Z fun g w3 Z Aa R=>?_);refine z1 (zR 2 Z (dQ A6 A6 R) A6 fun v4 w4 Z Aa _=>?_);try simp only[nrm]
  refine z1 (zD 5 Z (aTa n A0 A0 _) (mR n) fun ad cd w5 Z Aa R=>?_);try simp only[nrm]
  refine z1 (zR 6 Z R (mR n) fun v6 w6 Z Aa _=>?_);try simp only[nrm]
  refine zE ?_;exact QA30
 .
  have hp:=Gz A6;go_upto_region 5 with fail;refine zd 6 Z fun w2 Z Aa=>?_;refine la 0 ?_;refine la 3 ?_;refine zF 4 3 hb Aa ?_;refine z1 (zK 1 Z fun g w3 Z Aa R=>?_);refine z1 (zR 2 Z (dQ A6 A6 R) A6 fun v4 w4 Z Aa _=>?_);try simp only[nrm]
  refine z1 (zR 5 Z (r3 Aa.2) hp fun v5 w5 Z Aa _=>?_);try simp only[nrm]
  refine zE ?_;exact QA30
 .
  have hp:=Gz A6;obtain⟨l0,l1⟩:=aJd Ya;obtain⟨b4,o4,x,u0,u1,u2,u3,u4,e4,hS,Dh,hv,hc,ht⟩:=aBq h4 S Ay (j:=0) (by simp[cX]at l0;omega);subst e4;obtain rfl:nk=1:=by have:=HK.out;simp[cX]at l0;simp[iM]at l1;omega
  simp only[Nat.zero_mul,zG1]at hc;go_upto_region 7 with fail;refine zd 7 Z fun w2 Z Aa=>?_;refine la 0 ?_;refine la 3 ?_;refine zF 4 3 hb Aa ?_;refine z1 (zK 1 Z fun g w3 Z Aa R=>?_);refine z1 (zR 2 Z (dQ A6 A6 R) A6 fun v4 w4 Z Aa _=>?_);try simp only[nrm]
  refine z1 (zR 5 Z (r3 Aa.2) hp fun v5 w5 Z Aa _=>?_);try simp only[nrm]
  refine z1 (zS 6 Z fun v6 w6 Z Aa _=>?_);try simp only[nrm]
  refine zE ?_;have q4:=Z.k 4;obtain⟨d0,d1,d2,d3,d4⟩:=aH1 hc Aa.2;go_wp2_with fail;refine(Z.say Av hS Dh hv A0).mono ?_;rintro e w7 ⟨v7,rfl,Z,_⟩;clear q4 d0 d1 d2 d3 d4;go_wp2_with (at_builtin;refine zl Z fun v8 w8 Z=>?_);exact QA30
 .
  have hsix:=aR2 Ya;obtain⟨l0,l1⟩:=aJd Ya;simp[cX]at l0;obtain⟨b4,o4,x,u0,u1,u2,u3,u4,rfl,hS,Ib,hv,hc,ht⟩:=aBq h4 S Ay (j:=0) A0;obtain⟨_,_,y,t0,t1,t2,t3,t4,e9,Nf,hoy,Wg,Dc,Xr⟩:=aBq h4 S Ay (j:=1) A0;cases e9;obtain rfl:nk=2:=by have:=HK.out;simp[iM]at l1;omega
  simp only[Nat.zero_mul,zG1,Nat.one_mul,zJ0]at hc Dc ht Xr;go_upto_region 10 with fail;clear q0 q2;refine zd 9 Z fun w2 Z Aa=>?_;refine la 0 ?_;refine la 2 ?_;refine zF 3 4 hb Aa ?_;refine la 4 ?_;refine zM 5 hc Aa ?_;refine z2 (zS 1 Z fun v3 w3 Z Aa _=>?_) (zK 7 Z fun g w3 Z Aa R=>?_)
  .
   try simp only[nrm]
   refine z2 (zC 6 Z (hS.on Av Ib hv A0) fun v4 w4 Z Aa _=>?_) (zK 7 Z fun g w4 Z Aa R=>?_)
   .
    try simp only[nrm]
    refine z1 (zK 7 Z fun g w5 Z Aa R=>?_);exact QA10
   .
    refine z1 (zC 6 Z (hS.on Av Ib hv A0) fun v4 w5 Z Aa W=>?_);replace R:=W.keep R;exact QA10
  .
   refine z1 (zS 1 Z fun v3 w4 Z Aa V=>?_);try simp only[nrm]
   refine z1 (zC 6 Z (hS.on Av Ib hv A0) fun v4 w5 Z Aa W=>?_);try simp only[nrm]
   replace R:=W.keep (V.keep R);exact QA10
 .
  go_wp2_with (at_builtin;refine zl Z fun v8 w8 Z=>?_);exact QA30
 .
  have hp:=Gz A6;go_upto_region 16 with fail;refine zd 5 Z fun w2 Z Aa=>?_;refine la 0 ?_;refine la 2 ?_;refine zF 3 3 hb Aa ?_;refine z1 (zS 1 Z fun v4 w4 Z Aa _=>?_);try simp only[nrm]
  refine z1 (zR 4 Z (r3 Aa.2) hp fun v5 w5 Z Aa _=>?_);try simp only[nrm]
  refine zE ?_;exact QA30
 .
  have hp:=Gz A6;by_cases hm:(0:Int)<nm
  .
   have Ez:0<nm:=A0;go_upto_region 20 with fail;refine zd 7 Z fun w2 Z Aa=>?_;refine la 0 ?_;refine la 3 ?_;refine zF 4 2 hb Aa ?_;refine z1 (zK 1 Z fun g w3 Z Aa R=>?_);refine z1 (zR 2 Z (dQ A6 A6 R) A6 fun v4 w4 Z Aa _=>?_);try simp only[nrm]
   refine z1 (zR 5 Z (aV.below h2 Aa.2) Ez fun v5 w5 Z Aa _=>?_);try simp only[nrm]
   refine z1 (zS 6 Z fun v6 w6 Z Aa _=>?_);try simp only[nrm]
   refine zE ?_;exact QA6
  .
   exact QA6
 .
  have hp:=Gz A6;go_upto_region 18 with fail;refine zd 5 Z fun w2 Z Aa=>?_;refine la 0 ?_;refine la 2 ?_;refine zF 3 3 hb Aa ?_;refine z1 (zS 1 Z fun v4 w4 Z Aa _=>?_);try simp only[nrm]
  refine z1 (zR 4 Z (r3 Aa.2) hp fun v5 w5 Z Aa _=>?_);try simp only[nrm]
  refine zE ?_;exact QA30
mutual
theorem aGd:∀x:Ex,aIs x
 | .mk k n m a ks=>aUo k n m a ks (aNt ks)
theorem aNt:∀l:List Ex,∀x ∈ l,aIs x
 | [],x,h=>by cases h
 | y :: l,x,h=>by
  rcases zG3.1 h with e|h
  .
   rw[e];exact aGd y
  .
   exact aNt l x h
end
end
end Go.Proofs.YtcbhdhmhidpdgaaGreatDoor

import Derived.Test.YtcbhdhmhidpdgaaGreatDoorRows
import Derived.WalkKit
import Derived.ProofKit
import Derived.Deep.QuietTactic
import Derived.BigQuiet
import Derived.Laws.CopyOwn
import Derived.OpenShut
import Derived.WalkSmall
import Derived.Deep.RegionHeld3
namespace Go.Proofs.YtcbhdhmhidpdgaaGreatDoor
open Go.RowKit
section
theorem zx{α:Sort _}(a:α):∃z,z=a:=⟨_,rfl⟩
theorem zA0:type_of% @List.getElem?_eq_getElem.{0}:=@List.getElem?_eq_getElem
theorem zA1:type_of% @List.length_append.{0}:=@List.length_append
theorem zA2:type_of% @List.getElem?_map.{0,0}:=@List.getElem?_map
theorem zA3:type_of% @List.mem_of_getElem?.{0}:=@List.mem_of_getElem?
theorem zB0:type_of% @Nat.le_refl:=@Nat.le_refl
theorem zB1:type_of% @List.length_cons.{0}:=@List.length_cons
theorem zB2:type_of% @List.length_map.{0,0}:=@List.length_map
theorem zB3:type_of% @decide_eq_true:=@decide_eq_true
theorem zC0:type_of% @Bool.and_eq_true:=@Bool.and_eq_true
theorem zC1:type_of% @List.getElem?_eq_some_iff.{0}:=@List.getElem?_eq_some_iff
theorem zC2:type_of% @decide_eq_false:=@decide_eq_false
theorem zC3:type_of% @List.length_nil.{0}:=@List.length_nil
theorem zD0:type_of% @List.append_assoc.{0}:=@List.append_assoc
theorem zD1:type_of% @Nat.zero_le:=@Nat.zero_le
theorem zD2:type_of% @Below.refl:=@Below.refl
theorem zD3:type_of% @List.take_of_length_le.{0}:=@List.take_of_length_le
theorem zE0:type_of% @List.eq_nil_of_length_eq_zero.{0}:=@List.eq_nil_of_length_eq_zero
theorem zE1:type_of% @List.mem_map.{0,0}:=@List.mem_map
theorem zE2:type_of% @rounds_succ:=@rounds_succ
theorem zE3:type_of% @decide_eq_true_eq:=@decide_eq_true_eq
theorem zF0:type_of% @Option.map_eq_some_iff.{0,0}:=@Option.map_eq_some_iff
theorem zF1:type_of% @List.take_succ_eq_append_getElem.{0}:=@List.take_succ_eq_append_getElem
theorem zF2:type_of% @Nat.le_trans:=@Nat.le_trans
theorem zF3:type_of% @List.all_eq_true.{0}:=@List.all_eq_true
theorem zG0:type_of% @Nat.eq_zero_or_pos:=@Nat.eq_zero_or_pos
theorem zG1:type_of% @Nat.add_zero:=@Nat.add_zero
theorem zG2:type_of% @Option.some.injEq.{0}:=@Option.some.injEq
theorem zG3:type_of% @List.mem_cons.{0}:=@List.mem_cons
theorem zH0:type_of% @decide_eq_false_iff_not:=@decide_eq_false_iff_not
theorem zH1:type_of% @wp_loop_rounds:=@wp_loop_rounds
theorem zH2:type_of% @List.map_cons.{0,0}:=@List.map_cons
theorem zH3:type_of% @Bool.and_eq_false_iff:=@Bool.and_eq_false_iff
theorem zI0:type_of% @Option.getD_some.{0}:=@Option.getD_some
theorem zI1:type_of% @bodyPost_ret:=@bodyPost_ret
theorem zI2:type_of% @World.block_lt_of_cell?:=@World.block_lt_of_cell?
theorem zI3:type_of% @Array.getElem?_eq_some_iff.{0}:=@Array.getElem?_eq_some_iff
theorem zJ0:type_of% @Nat.zero_add:=@Nat.zero_add
theorem zJ1:type_of% @Nat.lt_or_ge:=@Nat.lt_or_ge
theorem zJ2:type_of% @List.cons.injEq.{0}:=@List.cons.injEq
theorem A0{p:Prop}(h:p:=by omega):p:=h
theorem A8{p:Prop}(h:p:=by simp):p:=h
theorem A10{p:Prop}(h:p:=by simp;omega):p:=h
theorem A82{p:Prop}(h:p:=by rw[e]):p:=h
theorem QA21{p:Prop}(h:p:=by
 obtain⟨⟨Ah,hr⟩,Bv⟩:=h
 rcases hr with⟨rfl,rfl⟩|⟨g,cap,cur,rfl,hg,hh,Fu,Oi,hs,ht⟩
 .
  exact⟨none,0,rfl,by omega,by simp,⟨by simpa using Ah,Bv,by omega⟩,Ad⟩
 .
  refine⟨some ⟨g,0,none⟩,cap,rfl,Fu,Oi,⟨by simpa using Ah,Bv,fun hn=>⟨g,0,rfl,fun i hi=>?_⟩⟩,Ad⟩
  rw[zJ0,cell_of_row w g i cur _ (0,0) hh]
  have hl:l.length=n:=by simpa using Ah
  have e:(cur.toList.take (n*1))[i]?=cur[i]?:=by rw[List.getElem?_take,if_pos A0];simp
  rw[<-e,ht]
  simp[show i<l.length by omega]):p:=h
theorem QA55{p:Prop}(h:p:=by
 rw[hb.cell (zI2 w _ this)];exact this):p:=h
theorem QA59{p:Prop}(h:p:=by
 refine⟨⟨h.1.1, ?_⟩,h.2⟩
 rcases h.1.2 with hn|⟨g,cap,cur,hv,hg,hh,r⟩
 .
  exact .inl hn
 .
  exact .inr ⟨g,cap,cur,hv,hg,by rw[hb.block g (zI3.1 hh).1];exact hh,r⟩):p:=h
theorem QA70{p:Prop}(h:p:=by
 intro c hv
 rcases h.1.2 with⟨e,_⟩|⟨g,cap,cur,e,_⟩
 .
  rw[hv]at e;simp only[Value.slice.injEq]at e;exact e.2.2
 .
  rw[hv]at e;simp at e):p:=h
variable{l:List Int}{base c g:Nat}{a:Option Addr}{v:Value}{w w':World}
theorem hid{p:Prop}(h:p):Hid p:=h
structure Kx (p:Prop):Prop where o:p
def aV (w:World)(a:Option Addr)(n:Nat)(l:List Int):Prop:=
 l.length=n/\(∀x ∈ l,0<=x/\x<=255)/\(0<n->∃b off,a=some ⟨b,off,none⟩/\∀i,i<n->w.cell? ⟨b,off+i,none⟩=some (.int .u8 (l[i]?.getD 0)))
theorem aV.below{n:Nat}(h:aV w a n l)(hb:Below w.heap.size w w'):aV w' a n l:=by
 refine⟨h.1,h.2.1,fun hn=>?_⟩;obtain⟨b,off,ha,hc⟩:=h.2.2 hn;refine⟨b,off,ha,fun i hi=>?_⟩;have:=hc i hi;exact QA55
theorem kD(h:∀x ∈ l,0<=x/\x<=255)(i:Nat):0<=l[i]?.getD 0/\l[i]?.getD 0<=255:=by
 by_cases hi:i<l.length
 .
  rw[zA0 hi];exact h _ (List.getElem_mem hi)
 .
  rw[List.getElem?_eq_none A0];simp
def aFo (k:IntKind)(w:World)(a:Option Addr)(len cap:Nat)(zs:List Int):Prop:=
 (a=none/\len=0/\cap=0/\zs=[]) ∨
 ∃x,a=some x/\len<=cap/\cap<=maxLen/\zs.length=cap/\(∀i,i<zs.length->w.cell? (x.add i)=some (.int k (zs.getD i 0)))/\∀n ∈ zs,(Lit.int k n).wf=true
theorem aFo.row{n:Nat}{zs:List Int}(h:aFo .u8 w a n c zs):aV w a n (zs.take n)/\n<=c/\c<=maxLen:=by
 rcases h with⟨rfl,rfl,rfl,rfl⟩|⟨x,rfl,hl,hm,hz,hc,hw⟩
 .
  exact⟨⟨rfl,by simp,by omega⟩,by omega,by simp⟩
 .
  refine⟨⟨by simp;omega,fun x hx=>?_,fun hn=>?_⟩,hl,hm⟩
  .
   have:=hw x (List.mem_of_mem_take hx);exact bounds_u8 this
  .
   obtain⟨b,off,spot⟩:=x;have h0:=hc 0 A0;have hspot:spot=none:=by simpa [Addr.add] using World.cell?_spot h0
   subst hspot;refine⟨b,off,rfl,fun i hi=>?_⟩;have:=hc i A0;rw[Addr.add_lit]at this;rw[this];have e:(zs.take n)[i]?.getD 0=zs.getD i 0:=by simp[List.getD,hi]
   rw[e]
def Own (w:World)(base:Nat)(v:Value)(n:Nat)(l:List Int):Prop:=
 w.ownsRow base 5 1 v n (l.map (Value.int .u8))/\∀x ∈ l,0<=x/\x<=255
theorem Own.below{n:Nat}(h:Own w base v n l)(hb:Below w.heap.size w w'):Own w' base v n l:=by
 exact QA59
theorem Own.kept {w w':World}{base:Nat}{v:Value}{n:Nat}{l:List Int}{row:Option Nat}(h:Own w base v n l)(hg:w.grownBy w' row)(Ae:v.ownBlock=none\/v.ownBlock ≠ row):Own w' base v n l:=
 ⟨h.1.kept hg Ae,h.2⟩
theorem Own.mono{Ci:Nat}{n:Nat}(h:Own w base v n l)(hb:Ci<=base):Own w Ci v n l:=by
 refine⟨⟨h.1.1, ?_⟩,h.2⟩;rcases h.1.2 with hn|⟨g,cap,cur,hv,hg,r⟩
 .
  exact .inl hn
 .
  exact .inr ⟨g,cap,cur,hv,by omega,r⟩
theorem Own.shape{n:Nat}(h:Own w base v n l):
  ∃a c,v=.slice a n c/\n<=c/\c<=maxLen/\aV w a n l/\∀k,v.ownBlock=some k->base<=k/\k<w.heap.size:=by
 have Ad:=h.1.lt;exact QA21
theorem uI:(Tryz.prog.info? 5).map (fun i=>(i.zero,i.size,i.bytes))=some (some (.int .u8 0),1,1):=by kernel_rfl
theorem aF{a b:Bool}(h:a=b):Ending.returned (.bool a)=.returned (.bool b):=by rw[h]
theorem bY{k:IntKind}{a b:Int}(h:a=b):Ending.returned (.int k a)=.returned (.int k b):=by rw[h]
theorem aOh (f:Int->Value)(l m:List Int)(j:Nat)(h:j<m.length)(hl:j<l.length):((l.take j++m.drop j).map f).set j (f (l[j]?.getD 0))=(l.take (j+1)++m.drop (j+1)).map f:=by
 have e:m.drop j=m[j] :: m.drop (j+1):=by rw[List.drop_eq_getElem_cons h]
 have e2:l.take (j+1)=l.take j++[l[j]]:=by rw[zF1 hl]
 rw[e,List.map_append,List.set_append_right _ _ A10,e2];simp only[zB2,List.length_take,Nat.min_eq_left (Nat.le_of_lt hl),Nat.sub_self,zH2,List.set_cons_zero,List.map_append,zD0,List.cons_append,List.nil_append];rw[zA0 hl];rfl
theorem sO{n:Nat}{xs:List Value}(h:w.ownsRow base 5 1 (.slice (some ⟨g,0,none⟩) n n) n xs):w.heap[g]?=some (.cells xs.toArray 5 (0,0)):=by
 rcases h.2 with⟨h',_⟩|⟨g',cap,cur,h',_,hg,_,_,hs,ht⟩
 .
  simp at h'
 .
  simp only[Value.slice.injEq,zG2,Addr.mk.injEq,and_true,true_and]at h';obtain⟨rfl,rfl⟩:=h';rw[zD3 A10]at ht;rw[hg,<-ht]
theorem iF(hg:w.heap[g]?=some (.cells (l.map (Value.int .u8)).toArray 5 (0,0)))(hb:base<=g)(hm:l.length<=maxLen)(Bv:∀x ∈ l,0<=x/\x<=255):
  Own w base (.slice (some ⟨g,0,none⟩) l.length l.length) l.length l:=
 ⟨⟨by simp,.inr ⟨g,l.length,_,rfl,hb,hg,zB0 _,hm,by simp,zD3 A8⟩⟩,Bv⟩
theorem aV.pos{n:Nat}(h:aV w a n l)(hp:0<(l.map (Value.int .u8)).length):
  ∃ad,a=some ad/\∀j v,(l.map (Value.int .u8))[j]?=some v->w.cell? (ad.add j)=some v:=by
 obtain⟨b,off,rfl,hc⟩:=h.2.2 (by rw[<-h.1];simpa using hp);refine⟨_,rfl,fun j v hv=>?_⟩;have hj:j<l.length:=by simpa using (zC1.1 hv).1
 rw[Addr.add_lit,hc j (by rw[<-h.1];exact hj)];simpa [hj] using hv
structure aUh (w w':World) (a:Option Addr) (n c:Nat) (l:List Int):Prop where
 own:Own w' w.heap.size (.slice a n c) n l
 row:aV w' a n l
 cap:n<=c
 most:c<=maxLen
 nil:a=none->c=0
 block:∀k,(Value.slice a n c).ownBlock=some k->w.heap.size<=k/\k<w'.heap.size
 below:Below w.heap.size w w'
theorem Own.made{n:Nat}(h:Own w' w.heap.size v n l)(hb:Below w.heap.size w w'):∃a c,v=.slice a n c/\aUh w w' a n c l:=by
 have Ek:∀c,v=.slice none n c->c=0:=by
  exact QA70
 obtain⟨a,c,rfl,h1,h2,h3,h4⟩:=h.shape;exact⟨a,c,rfl,h,h3,h1,h2,fun e=>Ek c A82,h4,hb⟩
theorem Calls.made {P:Program}{f:Nat}{args:Array Value}{w:World}{n:Nat}{l:List Int}(h:Calls P f args w fun e w'=>∃v,e=.returned v/\Own w' w.heap.size v n l/\Below w.heap.size w w'):
  Calls P f args w fun e w'=>∃a c,e=.returned (.slice a n c)/\aUh w w' a n c l:=by
 refine h.mono ?_;rintro e w' ⟨v,rfl,ho,hb⟩;obtain⟨a,c,hv,hm⟩:=ho.made hb;exact⟨a,c,by rw[hv],hm⟩
theorem Own.row{n:Nat}(h:Own w base (.slice a n c) n l):aV w a n l:=by
 obtain⟨a',c',e,_,_,hr,_⟩:=h.shape;simp only[Value.slice.injEq,true_and]at e;obtain⟨rfl,rfl⟩:=e;exact hr
theorem Own.keptBy{n:Nat}{row:Option Nat}(h:Own w base v n l)(hg:w.grownBy w' row)(Ae:∀k,v.ownBlock=some k->row ≠ some k):Own w' base v n l:=by
 refine h.kept hg ?_;cases hv:v.ownBlock with
 | none=>exact .inl rfl| some k=>exact .inr (fun e=>Ae k hv e.symm)
theorem Own.drewN {w:World}{base:Nat}{v:Value}{n:Nat}{l:List Int}(h:Own w base v n l)(d:Nat):Own (w.drewN d) base v n l:=h
theorem aV.drewN {w:World}{a:Option Addr}{n:Nat}{l:List Int}(h:aV w a n l)(d:Nat):aV (w.drewN d) a n l:=h
end
section
theorem zJ3:type_of% @wp_region_held_drew:=@wp_region_held_drew
theorem zK0:type_of% @wpAnyH_done:=@wpAnyH_done
theorem A57{p:Prop}(h:p:=by simpa using h):p:=h
variable{a:Act}{listed:Array Bool}{ops:Array Oper}{Q:Exit->Act->World->Prop}{fuel i:Nat}{oi:Oper}{P:Program}{md:Region.Mode}{w:World}{S:World->Prop}
theorem nrm:(∀(a:Act) (v:Value),a.put none v=a)/\(∀(a:Act) (d:Nat) (v:Value),a.put (some d) v={ a with tmps:=a.tmps.setIfInBounds d v })/\(∀(l:List Oper) (i:Nat) (h:i<l.toArray.size),l.toArray[i]'h=l[i]' A57)/\(∀(x:Oper) (l:List Oper) (h:0<(x :: l).length),(x :: l)[0]'h=x)/\(∀(x:Oper) (l:List Oper) (i:Nat) (h:i+1<(x :: l).length),(x :: l)[i+1]'h=l[i]' A57)/\(∀(l:List Value) (i:Nat) (v:Value),l.toArray.setIfInBounds i v=(l.set i v).toArray)/\(∀(x:Value) (l:List Value) (v:Value),(x :: l).set 0 v=v :: l)/\(∀(x:Value) (l:List Value) (i:Nat) (v:Value),(x :: l).set (i+1) v=x :: l.set i v):=
 ⟨fun _ _=>rfl,fun _ _ _=>rfl,fun _ _ _=>by simp,fun _ _ _=>rfl,fun _ _ _ _=>rfl,fun _ _ _=>by simp,fun _ _ _=>rfl,fun _ _ _ _=>rfl⟩
theorem ll:(∀a b:List Int,(a++b).length=a.length+b.length)/\(∀(x:Int) (l:List Int),(x :: l).length=l.length+1)/\([]:List Int).length=0:=⟨fun _ _=>zA1,fun _ _=>rfl,rfl⟩
theorem tk{v:Value}(hi:ops[i]?=some oi)
  (hk:(Region.noSelect ops && Region.free md ops listed i && (Region.ready md ops listed).contains i)=true)
  (hy:YieldsIf P ops S oi v a) (hS:S w) (hQ:∀c a w,Q (.panic c) (a.put oi.dst v) w->Q (.panic c) a w)
  (h:wpAnyH P md ops Q S fuel (listed.setIfInBounds i true) (a.put oi.dst v) w):wpAnyH P md ops Q S (fuel+1) listed a w:=by
 simp only[zC0]at hk;exact wpAnyH_take hi hk.1.1 hk.1.2 hk.2 hQ hy hS h
theorem skq(hi:ops[i]?=some oi)
  (hk:(Region.noSelect ops && Region.free md ops listed i && (Region.ready md ops listed).contains i)=true)
  (hn:Region.wanted oi (yielded ops a.tmps)=false) (hS:S w) (hQ:∀c a w,Q (.panic c) (a.put oi.dst undef) w->Q (.panic c) a w)
  (h:wpAnyH P md ops Q S fuel (listed.setIfInBounds i true) (a.put oi.dst undef) w):wpAnyH P md ops Q S (fuel+1) listed a w:=tk hi hk (.inr ⟨hn,rfl⟩) hS hQ h
theorem ta(i:Nat){oi:Oper}{v:Value}{fuel:Nat}{listed:Array Bool}{a:Act}{w:World}
  (h:wpAnyH P md ops Q S fuel (listed.setIfInBounds i true) (a.put oi.dst v) w) (hS:S w:=by exact Aa) (hi:ops[i]?=some oi:=by rfl)
  (hk:(Region.noSelect ops && Region.free md ops listed i && (Region.ready md ops listed).contains i)=true:=by kernel_rfl)
  (hy:YieldsIf P ops S oi v a:=by exact .inl ⟨by rfl,by intro w Ko;(try dsimp only at Ko);go_simp;first|done|rfl⟩) (hQ:∀c a w,Q (.panic c) (a.put oi.dst v) w->Q (.panic c) a w:=by exact fun _ _ _ h=>h):
  wpAnyH P md ops Q S (fuel+1) listed a w:=tk hi hk hy hS hQ h
theorem sa(i:Nat){oi:Oper}{fuel:Nat}{listed:Array Bool}{a:Act}{w:World}
  (h:wpAnyH P md ops Q S fuel (listed.setIfInBounds i true) (a.put oi.dst undef) w) (hS:S w:=by exact Aa) (hi:ops[i]?=some oi:=by rfl)
  (hk:(Region.noSelect ops && Region.free md ops listed i && (Region.ready md ops listed).contains i)=true:=by kernel_rfl)
  (hn:Region.wanted oi (yielded ops a.tmps)=false:=by rfl) (hQ:∀c a w,Q (.panic c) (a.put oi.dst undef) w->Q (.panic c) a w:=by exact fun _ _ _ h=>h):
  wpAnyH P md ops Q S (fuel+1) listed a w:=skq hi hk hn hS hQ h
theorem ra(i:Nat){o:Oper}{fuel:Nat}{listed:Array Bool}{a:Act}{w:World}
  (h:∀K:Act->World->Prop,Shut (∀a w,S w->(S w->wpAnyH P md ops Q S fuel (listed.setIfInBounds i true) a w)->K a w)->if Region.wanted o (yielded ops a.tmps)=true then Oper.wp P o a w K Q else K (a.put o.dst undef) w)
  (ho:ops[i]?=some o:=by rfl) (hr:Region.ready md ops listed=[i]:=by kernel_rfl):wpAnyH P md ops Q S (fuel+1) listed a w:=
 wpAnyH_ready hr A8 (AllReadyH.cons ho h AllReadyH.nil)
end
theorem aCg {w wr:World}{g n k:Nat}{l m:List Int}(hl:l.length=n)(hm:m.length=n)(hk:k<n)(hB:w.heap.size<=g)
  (Aj:wr.ownsRow w.heap.size 5 1 (.slice (some ⟨g,0,none⟩) n n) n ((l.take k++m.drop k).map (Value.int .u8))) (hb:Below w.heap.size w wr):
  (wr.setCell ⟨g,k,none⟩ (.int .u8 (l[k]?.getD 0))).ownsRow w.heap.size 5 1 (.slice (some ⟨g,0,none⟩) n n) n ((l.take (k+1)++m.drop (k+1)).map (Value.int .u8))/\Below w.heap.size w (wr.setCell ⟨g,k,none⟩ (.int .u8 (l[k]?.getD 0))):=by
 refine⟨?_,hb.setCell hB _⟩;have:=(Aj.stored k (.int .u8 (l[k]?.getD 0))).1;rwa [aOh _ _ _ _ A0 A0]at this
def aUy (k n:Nat):List Int:=(List.range n).map fun i=>(((k+i) % 256:Nat):Int)
section
variable{l:List Int}{base:Nat}{v:Value}{w w':World}
def aFq (w:World)(a:Option Addr)(n:Nat)(l:List Int):Prop:=
 l.length=n/\(∀x ∈ l, -9223372036854775808<=x/\x<=9223372036854775807)/\(0<n->∃b off,a=some ⟨b,off,none⟩/\∀i,i<n->w.cell? ⟨b,off+i,none⟩=some (.int .i64 (l[i]?.getD 0)))
theorem aFq.below{a:Option Addr}{n:Nat}(h:aFq w a n l)(hb:Below w.heap.size w w'):aFq w' a n l:=by
 refine⟨h.1,h.2.1,fun hn=>?_⟩;obtain⟨b,off,ha,hc⟩:=h.2.2 hn;refine⟨b,off,ha,fun i hi=>?_⟩;have:=hc i hi;exact QA55
def aNc (w:World)(base:Nat)(v:Value)(n:Nat)(l:List Int):Prop:=
 w.ownsRow base 3 1 v n (l.map (Value.int .i64))/\∀x ∈ l, -9223372036854775808<=x/\x<=9223372036854775807
theorem aNc.below{n:Nat}(h:aNc w base v n l)(hb:Below w.heap.size w w'):aNc w' base v n l:=by
 exact QA59
theorem aNc.shape{n:Nat}(h:aNc w base v n l):
  ∃a c,v=.slice a n c/\n<=c/\c<=maxLen/\aFq w a n l/\∀k,v.ownBlock=some k->base<=k/\k<w.heap.size:=by
 have Ad:=h.1.lt;exact QA21
theorem aSj:(Tryz.prog.info? 3).map (fun i=>(i.zero,i.size,i.bytes))=some (some (.int .i64 0),1,8):=by kernel_rfl
end
end Go.Proofs.YtcbhdhmhidpdgaaGreatDoor

import Derived.Test.YtegkhlkjfeafjaaGreatDoorRows
import Derived.WalkKit
import Derived.ProofKit
import Derived.Deep.QuietTactic
import Derived.BigQuiet
import Derived.Laws.CopyOwn
import Derived.OpenShut
import Derived.WalkSmall
import Derived.Laws.BytesArg
namespace Go.Proofs.YtegkhlkjfeafjaaGreatDoor
open Go.RowKit
set_option maxHeartbeats 1000000
set_option linter.unusedVariables false
theorem zA0:type_of% @List.getElem?_eq_getElem.{0}:=@List.getElem?_eq_getElem
theorem zA1:type_of% @List.length_append.{0}:=@List.length_append
theorem zA2:type_of% @List.getElem?_map.{0,0}:=@List.getElem?_map
theorem zA3:type_of% @List.mem_of_getElem?.{0}:=@List.mem_of_getElem?
theorem zB0:type_of% @Nat.le_refl:=@Nat.le_refl
theorem zB1:type_of% @List.length_cons.{0}:=@List.length_cons
theorem zB2:type_of% @List.length_map.{0,0}:=@List.length_map
theorem zB3:type_of% @decide_eq_true:=@decide_eq_true
theorem zC0:type_of% @Bool.and_eq_true:=@Bool.and_eq_true
theorem zC1:type_of% @List.getElem?_eq_some_iff.{0}:=@List.getElem?_eq_some_iff
theorem zC2:type_of% @decide_eq_false:=@decide_eq_false
theorem zC3:type_of% @List.length_nil.{0}:=@List.length_nil
theorem zD0:type_of% @List.append_assoc.{0}:=@List.append_assoc
theorem zD1:type_of% @Nat.zero_le:=@Nat.zero_le
theorem zD2:type_of% @Below.refl:=@Below.refl
theorem zD3:type_of% @List.take_of_length_le.{0}:=@List.take_of_length_le
theorem zE0:type_of% @List.eq_nil_of_length_eq_zero.{0}:=@List.eq_nil_of_length_eq_zero
theorem zE1:type_of% @List.mem_map.{0,0}:=@List.mem_map
theorem zE2:type_of% @rounds_succ:=@rounds_succ
theorem zE3:type_of% @decide_eq_true_eq:=@decide_eq_true_eq
theorem zF0:type_of% @Option.map_eq_some_iff.{0,0}:=@Option.map_eq_some_iff
theorem zF1:type_of% @List.take_succ_eq_append_getElem.{0}:=@List.take_succ_eq_append_getElem
theorem zF2:type_of% @Nat.le_trans:=@Nat.le_trans
theorem zF3:type_of% @List.all_eq_true.{0}:=@List.all_eq_true
theorem zG0:type_of% @Nat.eq_zero_or_pos:=@Nat.eq_zero_or_pos
theorem zG1:type_of% @List.forall_mem_map.{0,0}:=@List.forall_mem_map
theorem zG2:type_of% @Nat.add_zero:=@Nat.add_zero
theorem zG3:type_of% @Option.some.injEq.{0}:=@Option.some.injEq
theorem zH0:type_of% @List.mem_cons.{0}:=@List.mem_cons
theorem zH1:type_of% @decide_eq_false_iff_not:=@decide_eq_false_iff_not
theorem zH2:type_of% @wp_loop_rounds:=@wp_loop_rounds
theorem zH3:type_of% @List.all_eq_false.{0}:=@List.all_eq_false
theorem zI0:type_of% @List.map_cons.{0,0}:=@List.map_cons
theorem zI1:type_of% @List.getElem?_of_mem.{0}:=@List.getElem?_of_mem
theorem zI2:type_of% @Bool.and_eq_false_iff:=@Bool.and_eq_false_iff
theorem zI3:type_of% @Option.getD_some.{0}:=@Option.getD_some
theorem zJ0:type_of% @bodyPost_ret:=@bodyPost_ret
theorem zJ1:type_of% @World.block_lt_of_cell?:=@World.block_lt_of_cell?
theorem zJ2:type_of% @Array.getElem?_eq_some_iff.{0}:=@Array.getElem?_eq_some_iff
theorem zJ3:type_of% @heap_alloc_new:=@heap_alloc_new
theorem zK0:type_of% @Nat.zero_add:=@Nat.zero_add
theorem zK1:type_of% @Nat.lt_or_ge:=@Nat.lt_or_ge
theorem zK2:type_of% @List.cons.injEq.{0}:=@List.cons.injEq
theorem V6{p:Prop}(h:p:=by omega):p:=h
theorem V15{p:Prop}(h:p:=by simp):p:=h
theorem V52{p:Prop}(h:p:=by simp;omega):p:=h
theorem U290{p:Prop}(h:p:=by
 obtain⟨⟨hlen,hr⟩,hby⟩:=h
 rcases hr with⟨rfl,rfl⟩|⟨g,cap,cur,rfl,hg,hh,hnc,hcm,hs,ht⟩
 .
  exact⟨none,0,rfl,by omega,by simp,⟨by simpa using hlen,hby,by omega⟩,Ai⟩
 .
  refine⟨some ⟨g,0,none⟩,cap,rfl,hnc,hcm,⟨by simpa using hlen,hby,fun hn=>⟨g,0,rfl,fun i hi=>?_⟩⟩,Ai⟩
  rw[zK0,cell_of_row w g i cur _ (0,0) hh]
  have hl:l.length=n:=by simpa using hlen
  have e:(cur.toList.take (n*1))[i]?=cur[i]?:=by rw[List.getElem?_take,if_pos V6];simp
  rw[<-e,ht]
  simp[show i<l.length by omega]):p:=h
theorem U325{p:Prop}(h:p:=by
 rcases h.2 with⟨h',_⟩|⟨g',cap,cur,h',_,hg,_,_,hs,ht⟩
 .
  simp at h'
 .
  simp only[Value.slice.injEq,zG3,Addr.mk.injEq,and_true,true_and]at h'
  obtain⟨rfl,rfl⟩:=h'
  rw[zD3 V52]at ht
  rw[hg,<-ht]):p:=h
theorem U328{p:Prop}(h:p:=by
 refine⟨⟨h.1.1, ?_⟩,h.2⟩
 rcases h.1.2 with hn|⟨g,cap,cur,hv,hg,hh,r⟩
 .
  exact .inl hn
 .
  exact .inr ⟨g,cap,cur,hv,hg,by rw[hb.block g (zJ2.1 hh).1];exact hh,r⟩):p:=h
theorem U332{p:Prop}(h:p:=by
 refine⟨h.1,h.2.1,fun hn=>?_⟩
 obtain⟨b,off,ha,hc⟩:=h.2.2 hn
 refine⟨b,off,ha,fun i hi=>?_⟩
 have:=hc i hi
 rw[hb.cell (zJ1 w _ this)];exact this):p:=h
theorem U349{p:Prop}(h:p:=by
 by_cases hi:i<l.length
 .
  rw[zA0 hi];exact h _ (List.getElem_mem hi)
 .
  rw[List.getElem?_eq_none V6];simp):p:=h
theorem hid {p:Prop}(h:p):Hid p:=h
structure Kx (p:Prop):Prop where o:p
def bW (w:World)(a:Option Addr)(n:Nat)(l:List Int):Prop:=
 l.length=n/\(∀x ∈ l,0<=x/\x<=255)/\(0<n->∃b off,a=some ⟨b,off,none⟩/\∀i,i<n->w.cell? ⟨b,off+i,none⟩=some (.int .u8 (l[i]?.getD 0)))
theorem bW.below {w w':World}{a:Option Addr}{n:Nat}{l:List Int}(h:bW w a n l)(hb:Below w.heap.size w w'):bW w' a n l:=by
 exact U332
theorem oZ {l:List Int}(h:∀x ∈ l,0<=x/\x<=255)(i:Nat):0<=l[i]?.getD 0/\l[i]?.getD 0<=255:=by
 exact U349
def aLe (k:IntKind)(w:World)(a:Option Addr)(len cap:Nat)(zs:List Int):Prop:=
 (a=none/\len=0/\cap=0/\zs=[]) ∨
 ∃x,a=some x/\len<=cap/\cap<=maxLen/\zs.length=cap/\(∀i,i<zs.length->w.cell? (x.add i)=some (.int k (zs.getD i 0)))/\∀n ∈ zs,(Lit.int k n).wf=true
theorem aLe.row {w:World}{a:Option Addr}{n c:Nat}{zs:List Int}(h:aLe .u8 w a n c zs):bW w a n (zs.take n)/\n<=c/\c<=maxLen:=by
 rcases h with⟨rfl,rfl,rfl,rfl⟩|⟨x,rfl,hl,hm,hz,hc,hw⟩
 .
  exact⟨⟨rfl,by simp,by omega⟩,by omega,by simp⟩
 .
  refine⟨⟨by simp;omega,fun x hx=>?_,fun hn=>?_⟩,hl,hm⟩
  .
   have:=hw x (List.mem_of_mem_take hx)
   exact bounds_u8 this
  .
   obtain⟨b,off,spot⟩:=x;have h0:=hc 0 V6
   have hspot:spot=none:=by simpa [Addr.add] using World.cell?_spot h0
   subst hspot
   refine⟨b,off,rfl,fun i hi=>?_⟩
   have:=hc i V6
   rw[Addr.add_lit]at this;rw[this]
   have e:(zs.take n)[i]?.getD 0=zs.getD i 0:=by simp[List.getD,hi]
   rw[e]
def Own (w:World)(base:Nat)(v:Value)(n:Nat)(l:List Int):Prop:=
 w.ownsRow base 5 1 v n (l.map (Value.int .u8))/\∀x ∈ l,0<=x/\x<=255
theorem Own.below {w w':World}{base:Nat}{v:Value}{n:Nat}{l:List Int}(h:Own w base v n l)(hb:Below w.heap.size w w'):Own w' base v n l:=by
 exact U328
theorem Own.kept {w w':World}{base:Nat}{v:Value}{n:Nat}{l:List Int}{row:Option Nat}(h:Own w base v n l)(hg:w.grownBy w' row)(hne:v.ownBlock=none\/v.ownBlock ≠ row):Own w' base v n l:=
 ⟨h.1.kept hg hne,h.2⟩
theorem Own.mono {w:World}{base base':Nat}{v:Value}{n:Nat}{l:List Int}(h:Own w base v n l)(hb:base'<=base):Own w base' v n l:=by
 refine⟨⟨h.1.1, ?_⟩,h.2⟩
 rcases h.1.2 with hn|⟨g,cap,cur,hv,hg,r⟩
 .
  exact .inl hn
 .
  exact .inr ⟨g,cap,cur,hv,by omega,r⟩
theorem Own.shape {w:World}{base:Nat}{v:Value}{n:Nat}{l:List Int}(h:Own w base v n l):
  ∃a c,v=.slice a n c/\n<=c/\c<=maxLen/\bW w a n l/\∀k,v.ownBlock=some k->base<=k/\k<w.heap.size:=by
 have Ai:=h.1.lt;exact U290
theorem uQ:(Tryz.prog.info? 5).map (fun i=>(i.zero,i.size,i.bytes))=some (some (.int .u8 0),1,1):=by kernel_rfl
theorem aE {a b:Bool}(h:a=b):Ending.returned (.bool a)=.returned (.bool b):=by rw[h]
theorem aQ {k:IntKind}{a b:Int}(h:a=b):Ending.returned (.int k a)=.returned (.int k b):=by rw[h]
theorem aGc (f:Int->Value)(l m:List Int)(j:Nat)(h:j<m.length)(hl:j<l.length):((l.take j++m.drop j).map f).set j (f (l[j]?.getD 0))=(l.take (j+1)++m.drop (j+1)).map f:=by
 have e:m.drop j=m[j] :: m.drop (j+1):=by rw[List.drop_eq_getElem_cons h]
 have e2:l.take (j+1)=l.take j++[l[j]]:=by rw[zF1 hl]
 rw[e,List.map_append,List.set_append_right _ _ V52,e2];simp only[zB2,List.length_take,Nat.min_eq_left (Nat.le_of_lt hl),Nat.sub_self,zI0,List.set_cons_zero,List.map_append,zD0,List.cons_append,List.nil_append];rw[zA0 hl];rfl
theorem rL {w:World}{base g n:Nat}{xs:List Value}(h:w.ownsRow base 5 1 (.slice (some ⟨g,0,none⟩) n n) n xs):w.heap[g]?=some (.cells xs.toArray 5 (0,0)):=by
 exact U325
theorem jP {w:World}{base g:Nat}{l:List Int}(hg:w.heap[g]?=some (.cells (l.map (Value.int .u8)).toArray 5 (0,0)))(hb:base<=g)(hm:l.length<=maxLen)(hby:∀x ∈ l,0<=x/\x<=255):
  Own w base (.slice (some ⟨g,0,none⟩) l.length l.length) l.length l:=
 ⟨⟨by simp,.inr ⟨g,l.length,_,rfl,hb,hg,zB0 _,hm,by simp,zD3 V15⟩⟩,hby⟩
theorem bW.pos {w:World}{a:Option Addr}{n:Nat}{l:List Int}(h:bW w a n l)(hp:0<(l.map (Value.int .u8)).length):
  ∃ad,a=some ad/\∀j v,(l.map (Value.int .u8))[j]?=some v->w.cell? (ad.add j)=some v:=by
 obtain⟨b,off,rfl,hc⟩:=h.2.2 (by rw[<-h.1];simpa using hp)
 refine⟨_,rfl,fun j v hv=>?_⟩
 have hj:j<l.length:=by simpa using (zC1.1 hv).1
 rw[Addr.add_lit,hc j (by rw[<-h.1];exact hj)]
 simpa [hj] using hv
structure aMy (w w':World) (a:Option Addr) (n c:Nat) (l:List Int):Prop where
 own:Own w' w.heap.size (.slice a n c) n l
 row:bW w' a n l
 cap:n<=c
 most:c<=maxLen
 nil:a=none->c=0
 block:∀k,(Value.slice a n c).ownBlock=some k->w.heap.size<=k/\k<w'.heap.size
 below:Below w.heap.size w w'
theorem Own.made {w w':World}{v:Value}{n:Nat}{l:List Int}(h:Own w' w.heap.size v n l)(hb:Below w.heap.size w w'):∃a c,v=.slice a n c/\aMy w w' a n c l:=by
 have hnil:∀c,v=.slice none n c->c=0:=by
  intro c hv
  rcases h.1.2 with⟨e,_⟩|⟨g,cap,cur,e,_⟩
  .
   rw[hv]at e;simp only[Value.slice.injEq]at e;exact e.2.2
  .
   rw[hv]at e;simp at e
 obtain⟨a,c,rfl,h1,h2,h3,h4⟩:=h.shape
 exact⟨a,c,rfl,h,h3,h1,h2,fun e=>hnil c (by rw[e]),h4,hb⟩
theorem Calls.made {P:Program}{f:Nat}{args:Array Value}{w:World}{n:Nat}{l:List Int}(h:Calls P f args w fun e w'=>∃v,e=.returned v/\Own w' w.heap.size v n l/\Below w.heap.size w w'):
  Calls P f args w fun e w'=>∃a c,e=.returned (.slice a n c)/\aMy w w' a n c l:=by
 refine h.mono ?_;rintro e w' ⟨v,rfl,ho,hb⟩;obtain⟨a,c,hv,hm⟩:=ho.made hb
 exact⟨a,c,by rw[hv],hm⟩
theorem Own.row {w:World}{base:Nat}{a:Option Addr}{n c:Nat}{l:List Int}(h:Own w base (.slice a n c) n l):bW w a n l:=by
 obtain⟨a',c',e,_,_,hr,_⟩:=h.shape;simp only[Value.slice.injEq,true_and]at e;obtain⟨rfl,rfl⟩:=e;exact hr
theorem Own.drewN {w:World}{base:Nat}{v:Value}{n:Nat}{l:List Int}(h:Own w base v n l)(d:Nat):Own (w.drewN d) base v n l:=h
theorem bW.drewN {w:World}{a:Option Addr}{n:Nat}{l:List Int}(h:bW w a n l)(d:Nat):bW (w.drewN d) a n l:=h
theorem V14{p:Prop}(h:p:=by unfold maxLen;omega):p:=h
theorem V50{p:Prop}(h:p:=by rw[hz2];omega):p:=h
theorem V76{p:Prop}(h:p:=by intro k hk;cases hk):p:=h
theorem U369{p:Prop}(h:p:=by
 have hlt':(k:Int)<(n1:Int):=V6
 by_cases hxe:l1[k]?.getD 0=l2[k]?.getD 0
 .
  have hneq:(l1[k]?.getD 0 != l2[k]?.getD 0)=false:=by simp[hxe]
  have hnext:Hid (l1.take (k+1)=l2.take (k+1)):=rX heq.out (by rw[Hl1.out];exact Ai) (by rw[Hl2.out];exact Ai) hxe
  have HX:Hid _:=hxe
  clear hd1 hd2 hxe
  go_wp2
  go_quiet (fail)
  go_wp2
  go_roundw
  case rel=>exact⟨k+1,by omega,by go_num,hnext,_,rfl⟩
  case measure=>simp[intOf];omega
 .
  have hneq:(l1[k]?.getD 0 != l2[k]?.getD 0)=true:=by simpa using hxe
  have hd:Hid (decide (l1=l2)=false):=by
   show decide (l1=l2)=false
   rw[zH1]
   rintro rfl
   exact hxe rfl
  clear hd1 hd2 hxe
  go_wp2
  go_quiet (fail)
  go_wp2
  go_ret
  exact⟨aE hd.out.symm,_,World.drewN_drewN ..⟩):p:=h
theorem U299{p:Prop}(h:p:=by
 have hd:Hid (decide (l1=l2)=true):=by
  show decide (l1=l2)=true
  have:=heq.out
  rw[zD3 (by rw[Hl1.out];omega),zD3 (by rw[Hl2.out];omega)]at this
  simp[this]
 go_wp2
 go_ret
 exact⟨aE hd.out.symm,_,rfl⟩):p:=h
theorem U92{p:Prop}(h:p:=by
 rintro e w' ⟨v,rfl,rfl,ho,hb⟩
 obtain⟨a1,c1,e1,_,_,hr,Ai⟩:=ho.shape
 simp only[Value.slice.injEq,true_and]at e1
 obtain⟨rfl,rfl⟩:=e1
 exact⟨rfl,ho,hr,hb,(Ai w.heap.size rfl).2⟩):p:=h
theorem U330{p:Prop}(h:p:=by
 show decide (l1=l2)=false
 rw[zH1]
 rintro rfl
 exact hne (Hl1.out.symm.trans Hl2.out)):p:=h
theorem U333{p:Prop}(h:p:=by
 go_wp2
 refine zH2 1 ?_
 rw[zE2]
 go_wp2
 go_ret
 exact⟨aE HD.out.symm,0,rfl⟩):p:=h
theorem U108{p:Prop}(h:p:=by
 have R1:Hid _:=R.1
 have R2:=R.2
 clear R Av
 go_wp2
 go_roundw
 case rel=>exact⟨k+1,by omega,by go_num,R1,R2⟩
 case measure=>simp[intOf];omega):p:=h
theorem U339{p:Prop}(h:p:=by
 intro wr hw
 have:=hw.out
 rw[zD3 (by rw[Hl.out];exact zB0 _),List.drop_of_length_le V15,List.append_nil]at this
 exact⟨this,hby⟩):p:=h
theorem U358{p:Prop}(h:p:=by
 clear Av hgrow
 go_wp2
 refine zH2 1 ?_
 rw[zE2]
 go_wp2
 go_ret
 exact⟨_,rfl,rfl,HV _ hown',hb⟩):p:=h
theorem U200{p:Prop}(h:p:=by
 go_wp2
 go_ret
 exact⟨aE hd.out.symm,0,rfl⟩):p:=h
theorem U368{p:Prop}(h:p:=by
 rintro e w' ⟨rfl,d,rfl⟩
 exact⟨by rw[zB3 rfl],below_drewN (zD2 _ _) d⟩):p:=h
theorem aAh {w wr:World}{g n k:Nat}{l m:List Int}(hl:l.length=n)(hm:m.length=n)(hk:k<n)(hB:w.heap.size<=g)
  (Av:wr.ownsRow w.heap.size 5 1 (.slice (some ⟨g,0,none⟩) n n) n ((l.take k++m.drop k).map (Value.int .u8))) (hb:Below w.heap.size w wr):
  (wr.setCell ⟨g,k,none⟩ (.int .u8 (l[k]?.getD 0))).ownsRow w.heap.size 5 1 (.slice (some ⟨g,0,none⟩) n n) n ((l.take (k+1)++m.drop (k+1)).map (Value.int .u8))/\Below w.heap.size w (wr.setCell ⟨g,k,none⟩ (.int .u8 (l[k]?.getD 0))):=by
 refine⟨?_,hb.setCell hB _⟩
 have:=(Av.stored k (.int .u8 (l[k]?.getD 0))).1
 rwa [aGc _ _ _ _ V6 V6]at this
theorem rX {l1 l2:List Int}{k:Nat}(h:l1.take k=l2.take k)(h1:k<l1.length)(h2:k<l2.length)(hx:l1[k]?.getD 0=l2[k]?.getD 0):l1.take (k+1)=l2.take (k+1):=by
 rw[zF1 h1,zF1 h2,h];rw[zA0 h1,zA0 h2]at hx;simp only[zI3]at hx;rw[hx]
theorem toB (a:Option Addr)(n c:Nat)(l:List Int)(w:World)(h:bW w a n l)(hn:n<=1048576):
  Calls Tryz.prog 80 #[.slice a n c] w fun e w'=>∃v,e=.returned v/\v=.slice (some ⟨w.heap.size,0,none⟩) n n/\Own w' w.heap.size v n l/\Below w.heap.size w w':=by
 obtain⟨i0,hi,hz0,hz1,hz2⟩:=info_parts uQ;obtain⟨hl,hby,hcells⟩:=h
 have Hl:Hid (l.length=n):=hl
 clear hl
 have hv:∀wr:World,Hid (wr.ownsRow w.heap.size 5 1 (.slice (some ⟨w.heap.size,0,none⟩) n n) n ((l.take n++(List.replicate n 0).drop n).map (Value.int .u8)))->Own wr w.heap.size (.slice (some ⟨w.heap.size,0,none⟩) n n) n l:=by
  exact U339
 have HV:=hv;clear hv hby
 rcases zG0 n with h0|Am
 .
  subst h0;clear hcells;go_enter Tryz.func80,Tryz.ntmps80
  go_wp2_with (at_make;refine wpList_make_full _ rfl _ _ 43 rfl w.heap.size 5 i0 (.int .u8 0) 1 Tryz.underlying43 hi hz0 hz1 _ _ _ _ 0 rfl rfl rfl rfl V50 V14 (zB0 _) ?_)
  intro w1 Av hgrow
  have hb:Below w.heap.size w w1:=(zD2 _ _).grown hgrow (zB0 _) V76
  have hown':Hid (w1.ownsRow w.heap.size 5 1 (.slice (some ⟨w.heap.size,0,none⟩) 0 0) 0 ((l.take 0++(List.replicate 0 0).drop 0).map (Value.int .u8))):=by
   show World.ownsRow _ _ _ _ _ _ _
   have e:(madeCells #[Value.int IntKind.u8 0] 0).toList=List.replicate 0 (Value.int IntKind.u8 0):=toList_madeCells_one _ _
   rw[e]at Av
   simpa using Av
  exact U358
 .
  obtain⟨b,off,rfl,hc⟩:=hcells Am;have hbl:b<w.heap.size:=zJ1 w _ (hc 0 Am);go_enter Tryz.func80,Tryz.ntmps80
  go_wp2_with (at_make;refine wpList_make_full _ rfl _ _ 43 rfl w.heap.size 5 i0 (.int .u8 0) 1 Tryz.underlying43 hi hz0 hz1 _ _ _ _ n rfl rfl rfl rfl V50 V14 (zB0 _) ?_)
  intro w1 Av hgrow
  have hb:Below w.heap.size w w1:=(zD2 _ _).grown hgrow (zB0 _) V76
  have hown':w1.ownsRow w.heap.size 5 1 (.slice (some ⟨w.heap.size,0,none⟩) n n) n ((l.take 0++(List.replicate n 0).drop 0).map (Value.int .u8)):=by
   have e:(madeCells #[Value.int IntKind.u8 0] n).toList=List.replicate n (Value.int IntKind.u8 0):=toList_madeCells_one _ _
   rw[e]at Av
   simpa using Av
  have HO:=hown';clear Av hgrow hown';go_wp2
  go_loopw [4] (fun i wr=>∃k:Nat,k<=n/\i=.int .i64 k/\Hid (wr.ownsRow w.heap.size 5 1 (.slice (some ⟨w.heap.size,0,none⟩) n n) n ((l.take k++(List.replicate n 0).drop k).map (Value.int .u8)))/\Below w.heap.size w wr) (fun i _=>n-(intOf i).toNat)
  case atStart=>exact⟨0,zD1 _,rfl,HO,hb⟩
  case round=>
   obtain⟨k,hk,rfl,Av,hbr⟩:=hrel;clear HO hb
   by_cases Ai:k<n
   .
    have hcx:wr.cell? ⟨b,off+k,none⟩=some (.int .u8 (l[k]?.getD 0)):=(hbr.cell (by exact hbl)).trans (hc k Ai)
    have hcy:∃u,wr.cell? ⟨w.heap.size,k,none⟩=some u:=by
     rw[Av.out.cellAt k V6]
     exact⟨_,zA0 (by have:=Av.out.1;omega)⟩
    obtain⟨u,hcy⟩:=hcy
    have hfy:wr.frozen? ⟨w.heap.size,k,none⟩=false:=Av.out.frozenAt k
    have R:=aAh Hl.out (List.length_replicate) Ai (zB0 _) Av.out hbr;exact U108
   .
    go_wp2;go_ret
    have:k=n:=V6
    subst this;exact⟨_,rfl,rfl,HV _ Av,hbr⟩
theorem aMj (a:Option Addr)(n c:Nat)(l:List Int)(w:World)(h:bW w a n l)(hn:n<=1048576):
  Calls Tryz.prog 80 #[.slice a n c] w fun e w'=>e=.returned (.slice (some ⟨w.heap.size,0,none⟩) n n)/\Own w' w.heap.size (.slice (some ⟨w.heap.size,0,none⟩) n n) n l/\bW w' (some ⟨w.heap.size,0,none⟩) n l/\Below w.heap.size w w'/\w.heap.size<w'.heap.size:=by
 refine(toB a n c l w h hn).mono ?_;exact U92
theorem eqB (a1:Option Addr)(n1 c1:Nat)(l1:List Int)(a2:Option Addr)(n2 c2:Nat)(l2:List Int)(w:World)(h1:bW w a1 n1 l1)(h2:bW w a2 n2 l2)(hn:n1<=1073741824):
  Calls Tryz.prog 110 #[.slice a1 n1 c1,.slice a2 n2 c2] w fun e w'=>e=.returned (.bool (decide (l1=l2)))/\∃k,w'=w.drewN k:=by
 obtain⟨hl1,hby1,hc1⟩:=h1;obtain⟨hl2,hby2,hc2⟩:=h2
 have Hl1:Hid (l1.length=n1):=hl1
 have Hl2:Hid (l2.length=n2):=hl2
 clear hl1 hl2
 by_cases hne:n1=n2
 .
  subst hne
  rcases zG0 n1 with h0|Am
  .
   subst h0
   have hd:decide (l1=l2)=true:=by
    have e1:l1=[]:=zE0 Hl1.out;have e2:l2=[]:=zE0 Hl2.out
    simp[e1,e2]
   have HD:Hid _:=hd
   clear hd hc1 hc2 hby1 hby2;go_enter Tryz.func110,Tryz.ntmps110;exact U333
  .
   obtain⟨b1,o1,rfl,hd1⟩:=hc1 Am;obtain⟨b2,o2,rfl,hd2⟩:=hc2 Am;clear hc1 hc2;go_enter Tryz.func110,Tryz.ntmps110;go_wp2
   go_loopw [5] (fun i wr=>∃k:Nat,k<=n1/\i=.int .i64 k/\Hid (l1.take k=l2.take k)/\∃d,wr=w.drewN d) (fun i _=>n1-(intOf i).toNat)
   case atStart=>exact⟨0,zD1 _,rfl,by simp[Hid],0,rfl⟩
   case round=>
    obtain⟨k,hk,rfl,heq,d,rfl⟩:=hrel
    by_cases Ai:k<n1
    .
     have hx1:=hd1 k Ai;have hx2:=hd2 k Ai;have hb1:=oZ hby1 k;have Ae:=oZ hby2 k;exact U369
    .
     exact U299
 .
  have hd:Hid (decide (l1=l2)=false):=by
   exact U330
  have hneq:((n1:Int) != (n2:Int))=true:=by simp;omega
  clear hne;go_enter Tryz.func110,Tryz.ntmps110;exact U200
def aNk (k n:Nat):List Int:=(List.range n).map fun i=>(((k+i) % 256:Nat):Int)
theorem eqT (a1:Option Addr)(n1 c1:Nat)(l:List Int)(a2:Option Addr)(n2 c2:Nat)(w:World)(h1:bW w a1 n1 l)(h2:bW w a2 n2 l)(hn:n1<=1073741824):
  Calls Tryz.prog 110 #[.slice a1 n1 c1,.slice a2 n2 c2] w fun e w'=>e=.returned (.bool true)/\Below w.heap.size w w':=by
 refine(eqB a1 n1 c1 l a2 n2 c2 l w h1 h2 hn).mono ?_;exact U368
theorem aT {w:World}{a:Option Addr}{n:Nat}{l:List Int}(c:Nat)(h:bW w a n l):(convert 43 9 (.slice a n c)).run Tryz.prog w=.ok (.string (strOfNums l)) w:=by
 cases a with
 | none=>
  have hn:n=0:=by
   rcases zG0 n with h0|hp
   .
    exact h0
   .
    obtain⟨b,off,e,_⟩:=h.2.2 hp;cases e
  have hl:l=[]:=zE0 (h.1.trans hn);rw[run_convert_bytes_nil (P:=Tryz.prog) w 43 5 Tryz.underlying43 Tryz.underlying5 n c 9 Tryz.underlying9,hl]
  rfl
 | some ad=>
  rcases zG0 n with h0|hp
  .
   have hl:l=[]:=zE0 (h.1.trans h0);subst h0
   rw[run_convert_bytes_string w 43 9 5 _ 0 c Tryz.underlying43 Tryz.underlying5 Tryz.underlying9,run_bytesToString w ad 0 c [] (by simpa using run_loadCells_list (P:=Tryz.prog) w ad [] V15),hl]
   rfl
  .
   obtain⟨b,off,e,hc⟩:=h.2.2 hp;cases e
   exact run_convert_bytes_arg (P:=Tryz.prog) w 43 5 Tryz.underlying43 Tryz.underlying5 b off n c l h.1 (fun i hi=>by rw[hc i hi];simp[List.getD]) 9 Tryz.underlying9
theorem aA2 {l m:List Int}(hl:∀x ∈ l,0<=x/\x<=255)(hm:∀x ∈ m,0<=x/\x<=255):strOfNums l=strOfNums m ↔ l=m:=by
 refine⟨fun h=>?_,fun h=>by rw[h]⟩
 have e:l.map (fun n=>UInt8.ofNat n.toNat)=m.map (fun n=>UInt8.ofNat n.toNat):=by
  have:=congrArg (fun s:ByteArray=>s.data.toList) h
  simpa [strOfNums_data] using this
 have hlen:l.length=m.length:=by simpa using congrArg List.length e
 apply List.ext_getElem hlen
 intro i h1 h2
 have:=congrArg (fun s:List UInt8=>s[i]?) e
 simp only[zA2,zA0 h1,zA0 h2,Option.map_some,zG3]at this;have b1:=hl _ (List.getElem_mem h1);have b2:=hm _ (List.getElem_mem h2);have t:=congrArg UInt8.toNat this;simp only[UInt8.toNat_ofNat']at t
 omega
theorem iI {l m:List Int}(hl:∀x ∈ l,0<=x/\x<=255)(hm:∀x ∈ m,0<=x/\x<=255):((strOfNums l).toList == (strOfNums m).toList)=decide (l=m):=by
 rw[ByteArray.toList_eq,ByteArray.toList_eq];have h:=aA2 hl hm
 by_cases e:l=m
 .
  subst e;simp
 .
  rw[zC2 e]
  have:(strOfNums l).data.toList ≠ (strOfNums m).data.toList:=fun k=>e (h.1 (by
   cases hx:strOfNums l;cases hy:strOfNums m;rw[hx,hy]at k;simpa using k))
  simpa using this
theorem iY (a1:Option Addr)(n1 c1:Nat)(l1:List Int)(a2:Option Addr)(n2 c2:Nat)(l2:List Int)(w:World)(h1:bW w a1 n1 l1)(h2:bW w a2 n2 l2):
  Calls Tryz.prog 107 #[.slice a1 n1 c1,.slice a2 n2 c2] w fun e w'=>e=.returned (.bool (decide (l1=l2)))/\w'=w:=by
 have k1:=aT c1 h1;have k2:=aT c2 h2
 have hi:Hid (((strOfNums l1).toList == (strOfNums l2).toList)=decide (l1=l2)):=iI h1.2.1 h2.2.1
 clear h1 h2;go_enter Tryz.func107,Tryz.ntmps107;go_wp2;go_ret;exact⟨aE hi.out,rfl⟩
end Go.Proofs.YtegkhlkjfeafjaaGreatDoor

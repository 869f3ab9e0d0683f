import Derived.Test.YtnelibmaancmkaaGreatDoorRows
import Derived.WalkKit
import Derived.ProofKit
import Derived.Deep.QuietTactic
import Derived.BigQuiet
import Derived.Laws.CopyOwn
import Derived.OpenShut
import Derived.WalkSmall
namespace Go.Proofs.YtnelibmaancmkaaGreatDoor
open Go.RowKit
set_option maxHeartbeats 1000000
theorem V6{p:Prop}(h:p:=by omega):p:=h
theorem V15{p:Prop}(h:p:=by simp):p:=h
theorem V52{p:Prop}(h:p:=by simp;omega):p:=h
theorem U41{p:Prop}(h:p:=by
 obtain⟨⟨hlen,hr⟩,hby⟩:=h
 rcases hr with⟨rfl,rfl⟩|⟨g,cap,cur,rfl,hg,hh,hnc,hcm,hs,ht⟩
 .
  exact⟨none,0,rfl,by omega,by simp,⟨by simpa using hlen,hby,by omega⟩,Ai⟩
 .
  refine⟨some ⟨g,0,none⟩,cap,rfl,hnc,hcm,⟨by simpa using hlen,hby,fun hn=>⟨g,0,rfl,fun i hi=>?_⟩⟩,Ai⟩
  rw[Nat.zero_add,cell_of_row w g i cur _ (0,0) hh]
  have hl:l.length=n:=by simpa using hlen
  have e:(cur.toList.take (n*1))[i]?=cur[i]?:=by rw[List.getElem?_take,if_pos V6];simp
  rw[<-e,ht]
  simp[show i<l.length by omega]):p:=h
theorem U82{p:Prop}(h:p:=by
 rcases h.2 with⟨h',_⟩|⟨g',cap,cur,h',_,hg,_,_,hs,ht⟩
 .
  simp at h'
 .
  simp only[Value.slice.injEq,Option.some.injEq,Addr.mk.injEq,and_true,true_and]at h'
  obtain⟨rfl,rfl⟩:=h'
  rw[List.take_of_length_le V52]at ht
  rw[hg,<-ht]):p:=h
theorem U89{p:Prop}(h:p:=by
 refine⟨⟨h.1.1, ?_⟩,h.2⟩
 rcases h.1.2 with hn|⟨g,cap,cur,hv,hg,hh,r⟩
 .
  exact .inl hn
 .
  exact .inr ⟨g,cap,cur,hv,hg,by rw[hb.block g (Array.getElem?_eq_some_iff.1 hh).1];exact hh,r⟩):p:=h
theorem U97{p:Prop}(h:p:=by
 refine⟨h.1,h.2.1,fun hn=>?_⟩
 obtain⟨b,off,ha,hc⟩:=h.2.2 hn
 refine⟨b,off,ha,fun i hi=>?_⟩
 have:=hc i hi
 rw[hb.cell (World.block_lt_of_cell? w _ this)];exact this):p:=h
theorem U114{p:Prop}(h:p:=by
 by_cases hi:i<l.length
 .
  rw[List.getElem?_eq_getElem hi];exact h _ (List.getElem_mem hi)
 .
  rw[List.getElem?_eq_none V6];simp):p:=h
def bW (w:World)(a:Option Addr)(n:Nat)(l:List Int):Prop:=
 l.length=n/\(∀x ∈ l,0<=x/\x<=255)/\(0<n->∃b off,a=some ⟨b,off,none⟩/\∀i,i<n->w.cell? ⟨b,off+i,none⟩=some (.int .u8 (l[i]?.getD 0)))
theorem bW.below {w w':World}{a:Option Addr}{n:Nat}{l:List Int}(h:bW w a n l)(hb:Below w.heap.size w w'):bW w' a n l:=by
 exact U97
theorem oZ {l:List Int}(h:∀x ∈ l,0<=x/\x<=255)(i:Nat):0<=l[i]?.getD 0/\l[i]?.getD 0<=255:=by
 exact U114
def aLe (k:IntKind)(w:World)(a:Option Addr)(len cap:Nat)(zs:List Int):Prop:=
 (a=none/\len=0/\cap=0/\zs=[]) ∨
 ∃x,a=some x/\len<=cap/\cap<=maxLen/\zs.length=cap/\(∀i,i<zs.length->w.cell? (x.add i)=some (.int k (zs.getD i 0)))/\∀n ∈ zs,(Lit.int k n).wf=true
theorem aLe.row {w:World}{a:Option Addr}{n c:Nat}{zs:List Int}(h:aLe .u8 w a n c zs):bW w a n (zs.take n)/\n<=c/\c<=maxLen:=by
 rcases h with⟨rfl,rfl,rfl,rfl⟩|⟨x,rfl,hl,hm,hz,hc,hw⟩
 .
  exact⟨⟨rfl,by simp,by omega⟩,by omega,by simp⟩
 .
  refine⟨⟨by simp;omega,fun x hx=>?_,fun hn=>?_⟩,hl,hm⟩
  .
   have:=hw x (List.mem_of_mem_take hx)
   exact bounds_u8 this
  .
   obtain⟨b,off,spot⟩:=x;have h0:=hc 0 V6
   have hspot:spot=none:=by simpa [Addr.add] using World.cell?_spot h0
   subst hspot
   refine⟨b,off,rfl,fun i hi=>?_⟩
   have:=hc i V6
   rw[Addr.add_lit]at this;rw[this]
   have e:(zs.take n)[i]?.getD 0=zs.getD i 0:=by simp[List.getD,hi]
   rw[e]
def Own (w:World)(base:Nat)(v:Value)(n:Nat)(l:List Int):Prop:=
 w.ownsRow base 5 1 v n (l.map (Value.int .u8))/\∀x ∈ l,0<=x/\x<=255
theorem Own.below {w w':World}{base:Nat}{v:Value}{n:Nat}{l:List Int}(h:Own w base v n l)(hb:Below w.heap.size w w'):Own w' base v n l:=by
 exact U89
theorem Own.kept {w w':World}{base:Nat}{v:Value}{n:Nat}{l:List Int}{row:Option Nat}(h:Own w base v n l)(hg:w.grownBy w' row)(hne:v.ownBlock=none\/v.ownBlock ≠ row):Own w' base v n l:=
 ⟨h.1.kept hg hne,h.2⟩
theorem Own.mono {w:World}{base base':Nat}{v:Value}{n:Nat}{l:List Int}(h:Own w base v n l)(hb:base'<=base):Own w base' v n l:=by
 refine⟨⟨h.1.1, ?_⟩,h.2⟩
 rcases h.1.2 with hn|⟨g,cap,cur,hv,hg,r⟩
 .
  exact .inl hn
 .
  exact .inr ⟨g,cap,cur,hv,by omega,r⟩
theorem Own.shape {w:World}{base:Nat}{v:Value}{n:Nat}{l:List Int}(h:Own w base v n l):
  ∃a c,v=.slice a n c/\n<=c/\c<=maxLen/\bW w a n l/\∀k,v.ownBlock=some k->base<=k/\k<w.heap.size:=by
 have Ai:=h.1.lt;exact U41
theorem uQ:(Tryz.prog.info? 5).map (fun i=>(i.zero,i.size,i.bytes))=some (some (.int .u8 0),1,1):=by kernel_rfl
theorem aE {a b:Bool}(h:a=b):Ending.returned (.bool a)=.returned (.bool b):=by rw[h]
theorem aQ {k:IntKind}{a b:Int}(h:a=b):Ending.returned (.int k a)=.returned (.int k b):=by rw[h]
theorem aGc (f:Int->Value)(l m:List Int)(j:Nat)(h:j<m.length)(hl:j<l.length):((l.take j++m.drop j).map f).set j (f (l[j]?.getD 0))=(l.take (j+1)++m.drop (j+1)).map f:=by
 have e:m.drop j=m[j] :: m.drop (j+1):=by rw[List.drop_eq_getElem_cons h]
 have e2:l.take (j+1)=l.take j++[l[j]]:=by rw[List.take_succ_eq_append_getElem hl]
 rw[e,List.map_append,List.set_append_right _ _ V52,e2];simp only[List.length_map,List.length_take,Nat.min_eq_left (Nat.le_of_lt hl),Nat.sub_self,List.map_cons,List.set_cons_zero,List.map_append,List.append_assoc,List.cons_append,List.nil_append];rw[List.getElem?_eq_getElem hl];rfl
theorem rL {w:World}{base g n:Nat}{xs:List Value}(h:w.ownsRow base 5 1 (.slice (some ⟨g,0,none⟩) n n) n xs):w.heap[g]?=some (.cells xs.toArray 5 (0,0)):=by
 exact U82
theorem jP {w:World}{base g:Nat}{l:List Int}(hg:w.heap[g]?=some (.cells (l.map (Value.int .u8)).toArray 5 (0,0)))(hb:base<=g)(hm:l.length<=maxLen)(hby:∀x ∈ l,0<=x/\x<=255):
  Own w base (.slice (some ⟨g,0,none⟩) l.length l.length) l.length l:=
 ⟨⟨by simp,.inr ⟨g,l.length,_,rfl,hb,hg,Nat.le_refl _,hm,by simp,List.take_of_length_le V15⟩⟩,hby⟩
theorem bW.pos {w:World}{a:Option Addr}{n:Nat}{l:List Int}(h:bW w a n l)(hp:0<(l.map (Value.int .u8)).length):
  ∃ad,a=some ad/\∀j v,(l.map (Value.int .u8))[j]?=some v->w.cell? (ad.add j)=some v:=by
 obtain⟨b,off,rfl,hc⟩:=h.2.2 (by rw[<-h.1];simpa using hp)
 refine⟨_,rfl,fun j v hv=>?_⟩
 have hj:j<l.length:=by simpa using (List.getElem?_eq_some_iff.1 hv).1
 rw[Addr.add_lit,hc j (by rw[<-h.1];exact hj)]
 simpa [hj] using hv
structure aMy (w w':World) (a:Option Addr) (n c:Nat) (l:List Int):Prop where
 own:Own w' w.heap.size (.slice a n c) n l
 row:bW w' a n l
 cap:n<=c
 most:c<=maxLen
 nil:a=none->c=0
 block:∀k,(Value.slice a n c).ownBlock=some k->w.heap.size<=k/\k<w'.heap.size
 below:Below w.heap.size w w'
theorem Own.made {w w':World}{v:Value}{n:Nat}{l:List Int}(h:Own w' w.heap.size v n l)(hb:Below w.heap.size w w'):∃a c,v=.slice a n c/\aMy w w' a n c l:=by
 have hnil:∀c,v=.slice none n c->c=0:=by
  intro c hv
  rcases h.1.2 with⟨e,_⟩|⟨g,cap,cur,e,_⟩
  .
   rw[hv]at e;simp only[Value.slice.injEq]at e;exact e.2.2
  .
   rw[hv]at e;simp at e
 obtain⟨a,c,rfl,h1,h2,h3,h4⟩:=h.shape
 exact⟨a,c,rfl,h,h3,h1,h2,fun e=>hnil c (by rw[e]),h4,hb⟩
theorem Calls.made {P:Program}{f:Nat}{args:Array Value}{w:World}{n:Nat}{l:List Int}(h:Calls P f args w fun e w'=>∃v,e=.returned v/\Own w' w.heap.size v n l/\Below w.heap.size w w'):
  Calls P f args w fun e w'=>∃a c,e=.returned (.slice a n c)/\aMy w w' a n c l:=by
 refine h.mono ?_;rintro e w' ⟨v,rfl,ho,hb⟩;obtain⟨a,c,hv,hm⟩:=ho.made hb
 exact⟨a,c,by rw[hv],hm⟩
theorem Own.row {w:World}{base:Nat}{a:Option Addr}{n c:Nat}{l:List Int}(h:Own w base (.slice a n c) n l):bW w a n l:=by
 obtain⟨a',c',e,_,_,hr,_⟩:=h.shape;simp only[Value.slice.injEq,true_and]at e;obtain⟨rfl,rfl⟩:=e;exact hr
theorem Own.drewN {w:World}{base:Nat}{v:Value}{n:Nat}{l:List Int}(h:Own w base v n l)(d:Nat):Own (w.drewN d) base v n l:=h
theorem bW.drewN {w:World}{a:Option Addr}{n:Nat}{l:List Int}(h:bW w a n l)(d:Nat):bW (w.drewN d) a n l:=h
theorem V14{p:Prop}(h:p:=by unfold maxLen;omega):p:=h
theorem V50{p:Prop}(h:p:=by rw[hz2];omega):p:=h
theorem V76{p:Prop}(h:p:=by intro k hk;cases hk):p:=h
theorem U25{p:Prop}(h:p:=by
 have hlt':(k:Int)<(n1:Int):=V6
 by_cases hxe:l1[k]?.getD 0=l2[k]?.getD 0
 .
  have hneq:(l1[k]?.getD 0 != l2[k]?.getD 0)=false:=by simp[hxe]
  have hnext:Hid (l1.take (k+1)=l2.take (k+1)):=rX heq.out (by rw[Hl1.out];exact Ai) (by rw[Hl2.out];exact Ai) hxe
  have HX:Hid _:=hxe
  clear hd1 hd2 hxe
  go_wp2
  go_quiet (fail)
  go_wp2
  go_roundw
  case rel=>exact⟨k+1,by omega,by go_num,hnext,_,rfl⟩
  case measure=>simp[intOf];omega
 .
  have hneq:(l1[k]?.getD 0 != l2[k]?.getD 0)=true:=by simpa using hxe
  have hd:Hid (decide (l1=l2)=false):=by
   show decide (l1=l2)=false
   rw[decide_eq_false_iff_not]
   rintro rfl
   exact hxe rfl
  clear hd1 hd2 hxe
  go_wp2
  go_quiet (fail)
  go_wp2
  go_ret
  exact⟨aE hd.out.symm,_,World.drewN_drewN ..⟩):p:=h
theorem U81{p:Prop}(h:p:=by
 have hd:Hid (decide (l1=l2)=true):=by
  show decide (l1=l2)=true
  have:=heq.out
  rw[List.take_of_length_le (by rw[Hl1.out];omega),List.take_of_length_le (by rw[Hl2.out];omega)]at this
  simp[this]
 go_wp2
 go_ret
 exact⟨aE hd.out.symm,_,rfl⟩):p:=h
theorem U92{p:Prop}(h:p:=by
 rintro e w' ⟨v,rfl,rfl,ho,hb⟩
 obtain⟨a1,c1,e1,_,_,hr,Ai⟩:=ho.shape
 simp only[Value.slice.injEq,true_and]at e1
 obtain⟨rfl,rfl⟩:=e1
 exact⟨rfl,ho,hr,hb,(Ai w.heap.size rfl).2⟩):p:=h
theorem U102{p:Prop}(h:p:=by
 intro wr hw
 have:=hw.out
 rw[List.take_of_length_le (by rw[Hl.out];exact Nat.le_refl _),List.drop_of_length_le V15,List.append_nil]at this
 exact⟨this,hby⟩):p:=h
theorem U108{p:Prop}(h:p:=by
 have R1:Hid _:=R.1
 have R2:=R.2
 clear R Av
 go_wp2
 go_roundw
 case rel=>exact⟨k+1,by omega,by go_num,R1,R2⟩
 case measure=>simp[intOf];omega):p:=h
theorem U118{p:Prop}(h:p:=by
 have e1:l1=[]:=List.eq_nil_of_length_eq_zero Hl1.out
 have e2:l2=[]:=List.eq_nil_of_length_eq_zero Hl2.out
 simp[e1,e2]):p:=h
theorem U124{p:Prop}(h:p:=by
 clear Av At
 go_wp2
 refine wp_loop_rounds 1 ?_
 rw[rounds_succ]
 go_wp2
 go_ret
 exact⟨_,rfl,rfl,HV _ hown',hb⟩):p:=h
theorem U137{p:Prop}(h:p:=by
 show decide (l1=l2)=false
 rw[decide_eq_false_iff_not]
 rintro rfl
 exact hne (Hl1.out.symm.trans Hl2.out)):p:=h
theorem U147{p:Prop}(h:p:=by
 rintro e w' ⟨rfl,d,rfl⟩
 exact⟨by rw[decide_eq_true rfl],below_drewN (Below.refl _ _) d⟩):p:=h
theorem U148{p:Prop}(h:p:=by
 go_wp2
 refine wp_loop_rounds 1 ?_
 rw[rounds_succ]
 go_wp2
 go_ret
 exact⟨aE HD.out.symm,0,rfl⟩):p:=h
theorem U153{p:Prop}(h:p:=by
 rw[Av.out.cellAt k V6]
 exact⟨_,List.getElem?_eq_getElem (by have:=Av.out.1;omega)⟩):p:=h
theorem aAh {w wr:World}{g n k:Nat}{l m:List Int}(hl:l.length=n)(hm:m.length=n)(hk:k<n)(hB:w.heap.size<=g)
  (Av:wr.ownsRow w.heap.size 5 1 (.slice (some ⟨g,0,none⟩) n n) n ((l.take k++m.drop k).map (Value.int .u8))) (hb:Below w.heap.size w wr):
  (wr.setCell ⟨g,k,none⟩ (.int .u8 (l[k]?.getD 0))).ownsRow w.heap.size 5 1 (.slice (some ⟨g,0,none⟩) n n) n ((l.take (k+1)++m.drop (k+1)).map (Value.int .u8))/\Below w.heap.size w (wr.setCell ⟨g,k,none⟩ (.int .u8 (l[k]?.getD 0))):=by
 refine⟨?_,hb.setCell hB _⟩
 have:=(Av.stored k (.int .u8 (l[k]?.getD 0))).1
 rwa [aGc _ _ _ _ V6 V6]at this
theorem rX {l1 l2:List Int}{k:Nat}(h:l1.take k=l2.take k)(h1:k<l1.length)(h2:k<l2.length)(hx:l1[k]?.getD 0=l2[k]?.getD 0):l1.take (k+1)=l2.take (k+1):=by
 rw[List.take_succ_eq_append_getElem h1,List.take_succ_eq_append_getElem h2,h];rw[List.getElem?_eq_getElem h1,List.getElem?_eq_getElem h2]at hx;simp only[Option.getD_some]at hx;rw[hx]
theorem toB (a:Option Addr)(n c:Nat)(l:List Int)(w:World)(h:bW w a n l)(hn:n<=1048576):
  Calls Tryz.prog 30 #[.slice a n c] w fun e w'=>∃v,e=.returned v/\v=.slice (some ⟨w.heap.size,0,none⟩) n n/\Own w' w.heap.size v n l/\Below w.heap.size w w':=by
 obtain⟨i0,hi,hz0,hz1,hz2⟩:=info_parts uQ;obtain⟨hl,hby,hcells⟩:=h
 have Hl:Hid (l.length=n):=hl
 clear hl
 have hv:∀wr:World,Hid (wr.ownsRow w.heap.size 5 1 (.slice (some ⟨w.heap.size,0,none⟩) n n) n ((l.take n++(List.replicate n 0).drop n).map (Value.int .u8)))->Own wr w.heap.size (.slice (some ⟨w.heap.size,0,none⟩) n n) n l:=by
  exact U102
 have HV:=hv;clear hv hby
 rcases Nat.eq_zero_or_pos n with h0|Am
 .
  subst h0;clear hcells;go_enter Tryz.func30,Tryz.ntmps30
  go_wp2_with (at_make;refine wpList_make_full _ rfl _ _ 22 rfl w.heap.size 5 i0 (.int .u8 0) 1 Tryz.underlying22 hi hz0 hz1 _ _ _ _ 0 rfl rfl rfl rfl V50 V14 (Nat.le_refl _) ?_)
  intro w1 Av At
  have hb:Below w.heap.size w w1:=(Below.refl _ _).grown At (Nat.le_refl _) V76
  have hown':Hid (w1.ownsRow w.heap.size 5 1 (.slice (some ⟨w.heap.size,0,none⟩) 0 0) 0 ((l.take 0++(List.replicate 0 0).drop 0).map (Value.int .u8))):=by
   show World.ownsRow _ _ _ _ _ _ _
   have e:(madeCells #[Value.int IntKind.u8 0] 0).toList=List.replicate 0 (Value.int IntKind.u8 0):=toList_madeCells_one _ _
   rw[e]at Av
   simpa using Av
  exact U124
 .
  obtain⟨b,off,rfl,hc⟩:=hcells Am;have hbl:b<w.heap.size:=World.block_lt_of_cell? w _ (hc 0 Am);go_enter Tryz.func30,Tryz.ntmps30
  go_wp2_with (at_make;refine wpList_make_full _ rfl _ _ 22 rfl w.heap.size 5 i0 (.int .u8 0) 1 Tryz.underlying22 hi hz0 hz1 _ _ _ _ n rfl rfl rfl rfl V50 V14 (Nat.le_refl _) ?_)
  intro w1 Av At
  have hb:Below w.heap.size w w1:=(Below.refl _ _).grown At (Nat.le_refl _) V76
  have hown':w1.ownsRow w.heap.size 5 1 (.slice (some ⟨w.heap.size,0,none⟩) n n) n ((l.take 0++(List.replicate n 0).drop 0).map (Value.int .u8)):=by
   have e:(madeCells #[Value.int IntKind.u8 0] n).toList=List.replicate n (Value.int IntKind.u8 0):=toList_madeCells_one _ _
   rw[e]at Av
   simpa using Av
  have HO:=hown';clear Av At hown';go_wp2
  go_loopw [4] (fun i wr=>∃k:Nat,k<=n/\i=.int .i64 k/\Hid (wr.ownsRow w.heap.size 5 1 (.slice (some ⟨w.heap.size,0,none⟩) n n) n ((l.take k++(List.replicate n 0).drop k).map (Value.int .u8)))/\Below w.heap.size w wr) (fun i _=>n-(intOf i).toNat)
  case atStart=>exact⟨0,Nat.zero_le _,rfl,HO,hb⟩
  case round=>
   obtain⟨k,hk,rfl,Av,Au⟩:=hrel;clear HO hb
   by_cases Ai:k<n
   .
    have hcx:wr.cell? ⟨b,off+k,none⟩=some (.int .u8 (l[k]?.getD 0)):=(Au.cell (by exact hbl)).trans (hc k Ai)
    have hcy:∃u,wr.cell? ⟨w.heap.size,k,none⟩=some u:=by
     exact U153
    obtain⟨u,hcy⟩:=hcy
    have hfy:wr.frozen? ⟨w.heap.size,k,none⟩=false:=Av.out.frozenAt k
    have R:=aAh Hl.out (List.length_replicate) Ai (Nat.le_refl _) Av.out Au;exact U108
   .
    go_wp2;go_ret
    have:k=n:=V6
    subst this;exact⟨_,rfl,rfl,HV _ Av,Au⟩
theorem aMj (a:Option Addr)(n c:Nat)(l:List Int)(w:World)(h:bW w a n l)(hn:n<=1048576):
  Calls Tryz.prog 30 #[.slice a n c] w fun e w'=>e=.returned (.slice (some ⟨w.heap.size,0,none⟩) n n)/\Own w' w.heap.size (.slice (some ⟨w.heap.size,0,none⟩) n n) n l/\bW w' (some ⟨w.heap.size,0,none⟩) n l/\Below w.heap.size w w'/\w.heap.size<w'.heap.size:=by
 refine(toB a n c l w h hn).mono ?_;exact U92
theorem eqB (a1:Option Addr)(n1 c1:Nat)(l1:List Int)(a2:Option Addr)(n2 c2:Nat)(l2:List Int)(w:World)(h1:bW w a1 n1 l1)(h2:bW w a2 n2 l2)(hn:n1<=1073741824):
  Calls Tryz.prog 42 #[.slice a1 n1 c1,.slice a2 n2 c2] w fun e w'=>e=.returned (.bool (decide (l1=l2)))/\∃k,w'=w.drewN k:=by
 obtain⟨hl1,hby1,hc1⟩:=h1;obtain⟨hl2,hby2,hc2⟩:=h2
 have Hl1:Hid (l1.length=n1):=hl1
 have Hl2:Hid (l2.length=n2):=hl2
 clear hl1 hl2
 by_cases hne:n1=n2
 .
  subst hne
  rcases Nat.eq_zero_or_pos n1 with h0|Am
  .
   subst h0
   have hd:decide (l1=l2)=true:=by
    exact U118
   have HD:Hid _:=hd
   clear hd hc1 hc2 hby1 hby2;go_enter Tryz.func42,Tryz.ntmps42;exact U148
  .
   obtain⟨b1,o1,rfl,hd1⟩:=hc1 Am;obtain⟨b2,o2,rfl,hd2⟩:=hc2 Am;clear hc1 hc2;go_enter Tryz.func42,Tryz.ntmps42;go_wp2
   go_loopw [5] (fun i wr=>∃k:Nat,k<=n1/\i=.int .i64 k/\Hid (l1.take k=l2.take k)/\∃d,wr=w.drewN d) (fun i _=>n1-(intOf i).toNat)
   case atStart=>exact⟨0,Nat.zero_le _,rfl,by simp[Hid],0,rfl⟩
   case round=>
    obtain⟨k,hk,rfl,heq,d,rfl⟩:=hrel
    by_cases Ai:k<n1
    .
     have hx1:=hd1 k Ai;have hx2:=hd2 k Ai;have Aj:=oZ hby1 k;have Ae:=oZ hby2 k;exact U25
    .
     exact U81
 .
  have hd:Hid (decide (l1=l2)=false):=by
   exact U137
  have hneq:((n1:Int) != (n2:Int))=true:=by simp;omega
  clear hne;go_enter Tryz.func42,Tryz.ntmps42;go_wp2;go_ret;exact⟨aE hd.out.symm,0,rfl⟩
def aNk (k n:Nat):List Int:=(List.range n).map fun i=>(((k+i) % 256:Nat):Int)
theorem eqT (a1:Option Addr)(n1 c1:Nat)(l:List Int)(a2:Option Addr)(n2 c2:Nat)(w:World)(h1:bW w a1 n1 l)(h2:bW w a2 n2 l)(hn:n1<=1073741824):
  Calls Tryz.prog 42 #[.slice a1 n1 c1,.slice a2 n2 c2] w fun e w'=>e=.returned (.bool true)/\Below w.heap.size w w':=by
 refine(eqB a1 n1 c1 l a2 n2 c2 l w h1 h2 hn).mono ?_;exact U147
end Go.Proofs.YtnelibmaancmkaaGreatDoor

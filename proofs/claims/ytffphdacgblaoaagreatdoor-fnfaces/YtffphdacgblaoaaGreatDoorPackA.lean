import Derived.Test.YtffphdacgblaoaaGreatDoorRows
import Derived.WalkKit
import Derived.ProofKit
import Derived.Deep.QuietTactic
import Derived.BigQuiet
import Derived.Laws.CopyOwn
import Derived.OpenShut
import Derived.WalkSmall
import Derived.Laws.BytesArg
namespace Go.Proofs.YtffphdacgblaoaaGreatDoor
open Go.RowKit
set_option linter.unusedVariables false
theorem zA0:type_of% @List.getElem?_eq_getElem.{0}:=@List.getElem?_eq_getElem
theorem zA1:type_of% @List.length_append.{0}:=@List.length_append
theorem zA2:type_of% @List.getElem?_map.{0,0}:=@List.getElem?_map
theorem zA3:type_of% @List.mem_of_getElem?.{0}:=@List.mem_of_getElem?
theorem zB0:type_of% @Nat.le_refl:=@Nat.le_refl
theorem zB1:type_of% @List.length_cons.{0}:=@List.length_cons
theorem zB2:type_of% @List.length_map.{0,0}:=@List.length_map
theorem zB3:type_of% @decide_eq_true:=@decide_eq_true
theorem zC0:type_of% @Bool.and_eq_true:=@Bool.and_eq_true
theorem zC1:type_of% @List.getElem?_eq_some_iff.{0}:=@List.getElem?_eq_some_iff
theorem zC2:type_of% @decide_eq_false:=@decide_eq_false
theorem zC3:type_of% @List.length_nil.{0}:=@List.length_nil
theorem zD0:type_of% @List.append_assoc.{0}:=@List.append_assoc
theorem zD1:type_of% @Nat.zero_le:=@Nat.zero_le
theorem zD2:type_of% @Below.refl:=@Below.refl
theorem zD3:type_of% @List.take_of_length_le.{0}:=@List.take_of_length_le
theorem zE0:type_of% @List.eq_nil_of_length_eq_zero.{0}:=@List.eq_nil_of_length_eq_zero
theorem zE1:type_of% @List.mem_map.{0,0}:=@List.mem_map
theorem zE2:type_of% @rounds_succ:=@rounds_succ
theorem zE3:type_of% @decide_eq_true_eq:=@decide_eq_true_eq
theorem zF0:type_of% @Option.map_eq_some_iff.{0,0}:=@Option.map_eq_some_iff
theorem zF1:type_of% @List.take_succ_eq_append_getElem.{0}:=@List.take_succ_eq_append_getElem
theorem zF2:type_of% @Nat.le_trans:=@Nat.le_trans
theorem zF3:type_of% @List.all_eq_true.{0}:=@List.all_eq_true
theorem zG0:type_of% @Nat.eq_zero_or_pos:=@Nat.eq_zero_or_pos
theorem zG1:type_of% @Nat.add_zero:=@Nat.add_zero
theorem zG2:type_of% @Option.some.injEq.{0}:=@Option.some.injEq
theorem zG3:type_of% @List.mem_cons.{0}:=@List.mem_cons
theorem zH0:type_of% @decide_eq_false_iff_not:=@decide_eq_false_iff_not
theorem zH1:type_of% @wp_loop_rounds:=@wp_loop_rounds
theorem zH2:type_of% @List.map_cons.{0,0}:=@List.map_cons
theorem zH3:type_of% @List.getElem?_of_mem.{0}:=@List.getElem?_of_mem
theorem zI0:type_of% @Bool.and_eq_false_iff:=@Bool.and_eq_false_iff
theorem zI1:type_of% @Option.getD_some.{0}:=@Option.getD_some
theorem zI2:type_of% @bodyPost_ret:=@bodyPost_ret
theorem zI3:type_of% @World.block_lt_of_cell?:=@World.block_lt_of_cell?
theorem zJ0:type_of% @Array.getElem?_eq_some_iff.{0}:=@Array.getElem?_eq_some_iff
theorem zJ1:type_of% @heap_alloc_new:=@heap_alloc_new
theorem zJ2:type_of% @Nat.zero_add:=@Nat.zero_add
theorem zJ3:type_of% @Nat.lt_or_ge:=@Nat.lt_or_ge
theorem zK0:type_of% @List.cons.injEq.{0}:=@List.cons.injEq
theorem Q0{p:Prop}(h:p:=by omega):p:=h
theorem Q9{p:Prop}(h:p:=by simp):p:=h
theorem U15{p:Prop}(h:p:=by
 obtain⟨⟨Ak,hr⟩,hby⟩:=h
 rcases hr with⟨rfl,rfl⟩|⟨g,cap,cur,rfl,hg,hh,hnc,hcm,hs,ht⟩
 .
  exact⟨none,0,rfl,by omega,by simp,⟨by simpa using Ak,hby,by omega⟩,Aj⟩
 .
  refine⟨some ⟨g,0,none⟩,cap,rfl,hnc,hcm,⟨by simpa using Ak,hby,fun hn=>⟨g,0,rfl,fun i hi=>?_⟩⟩,Aj⟩
  rw[zJ2,cell_of_row w g i cur _ (0,0) hh]
  have hl:l.length=n:=by simpa using Ak
  have e:(cur.toList.take (n*1))[i]?=cur[i]?:=by rw[List.getElem?_take,if_pos Q0];simp
  rw[<-e,ht]
  simp[show i<l.length by omega]):p:=h
theorem U52{p:Prop}(h:p:=by
 refine⟨⟨h.1.1, ?_⟩,h.2⟩
 rcases h.1.2 with hn|⟨g,cap,cur,hv,hg,hh,r⟩
 .
  exact .inl hn
 .
  exact .inr ⟨g,cap,cur,hv,hg,by rw[hb.block g (zJ0.1 hh).1];exact hh,r⟩):p:=h
theorem U58{p:Prop}(h:p:=by
 refine⟨h.1,h.2.1,fun hn=>?_⟩
 obtain⟨b,off,ha,hc⟩:=h.2.2 hn
 refine⟨b,off,ha,fun i hi=>?_⟩
 have:=hc i hi
 rw[hb.cell (zI3 w _ this)];exact this):p:=h
theorem hid {p:Prop}(h:p):Hid p:=h
structure Kx (p:Prop):Prop where o:p
def eG (w:World)(a:Option Addr)(n:Nat)(l:List Int):Prop:=
 l.length=n/\(∀x ∈ l,0<=x/\x<=255)/\(0<n->∃b off,a=some ⟨b,off,none⟩/\∀i,i<n->w.cell? ⟨b,off+i,none⟩=some (.int .u8 (l[i]?.getD 0)))
theorem eG.below {w w':World}{a:Option Addr}{n:Nat}{l:List Int}(h:eG w a n l)(hb:Below w.heap.size w w'):eG w' a n l:=by
 exact U58
theorem qJ {l:List Int}(h:∀x ∈ l,0<=x/\x<=255)(i:Nat):0<=l[i]?.getD 0/\l[i]?.getD 0<=255:=by
 by_cases hi:i<l.length
 .
  rw[zA0 hi];exact h _ (List.getElem_mem hi)
 .
  rw[List.getElem?_eq_none Q0];simp
def aGy (k:IntKind)(w:World)(a:Option Addr)(len cap:Nat)(zs:List Int):Prop:=
 (a=none/\len=0/\cap=0/\zs=[]) ∨
 ∃x,a=some x/\len<=cap/\cap<=maxLen/\zs.length=cap/\(∀i,i<zs.length->w.cell? (x.add i)=some (.int k (zs.getD i 0)))/\∀n ∈ zs,(Lit.int k n).wf=true
theorem aGy.row {w:World}{a:Option Addr}{n c:Nat}{zs:List Int}(h:aGy .u8 w a n c zs):eG w a n (zs.take n)/\n<=c/\c<=maxLen:=by
 rcases h with⟨rfl,rfl,rfl,rfl⟩|⟨x,rfl,hl,hm,hz,hc,hw⟩
 .
  exact⟨⟨rfl,by simp,by omega⟩,by omega,by simp⟩
 .
  refine⟨⟨by simp;omega,fun x hx=>?_,fun hn=>?_⟩,hl,hm⟩
  .
   have:=hw x (List.mem_of_mem_take hx)
   exact bounds_u8 this
  .
   obtain⟨b,off,spot⟩:=x;have h0:=hc 0 Q0
   have hspot:spot=none:=by simpa [Addr.add] using World.cell?_spot h0
   subst hspot
   refine⟨b,off,rfl,fun i hi=>?_⟩
   have:=hc i Q0
   rw[Addr.add_lit]at this;rw[this]
   have e:(zs.take n)[i]?.getD 0=zs.getD i 0:=by simp[List.getD,hi]
   rw[e]
def Own (w:World)(base:Nat)(v:Value)(n:Nat)(l:List Int):Prop:=
 w.ownsRow base 5 1 v n (l.map (Value.int .u8))/\∀x ∈ l,0<=x/\x<=255
theorem Own.below {w w':World}{base:Nat}{v:Value}{n:Nat}{l:List Int}(h:Own w base v n l)(hb:Below w.heap.size w w'):Own w' base v n l:=by
 exact U52
theorem Own.kept {w w':World}{base:Nat}{v:Value}{n:Nat}{l:List Int}{row:Option Nat}(h:Own w base v n l)(hg:w.grownBy w' row)(Aw:v.ownBlock=none\/v.ownBlock ≠ row):Own w' base v n l:=
 ⟨h.1.kept hg Aw,h.2⟩
theorem Own.mono {w:World}{base base':Nat}{v:Value}{n:Nat}{l:List Int}(h:Own w base v n l)(hb:base'<=base):Own w base' v n l:=by
 refine⟨⟨h.1.1, ?_⟩,h.2⟩
 rcases h.1.2 with hn|⟨g,cap,cur,hv,hg,r⟩
 .
  exact .inl hn
 .
  exact .inr ⟨g,cap,cur,hv,by omega,r⟩
theorem Own.shape {w:World}{base:Nat}{v:Value}{n:Nat}{l:List Int}(h:Own w base v n l):
  ∃a c,v=.slice a n c/\n<=c/\c<=maxLen/\eG w a n l/\∀k,v.ownBlock=some k->base<=k/\k<w.heap.size:=by
 have Aj:=h.1.lt;exact U15
theorem aCv:(Tryz.prog.info? 5).map (fun i=>(i.zero,i.size,i.bytes))=some (some (.int .u8 0),1,1):=by kernel_rfl
theorem aE {a b:Bool}(h:a=b):Ending.returned (.bool a)=.returned (.bool b):=by rw[h]
theorem gD {k:IntKind}{a b:Int}(h:a=b):Ending.returned (.int k a)=.returned (.int k b):=by rw[h]
theorem kU {w:World}{base g:Nat}{l:List Int}(hg:w.heap[g]?=some (.cells (l.map (Value.int .u8)).toArray 5 (0,0)))(hb:base<=g)(hm:l.length<=maxLen)(hby:∀x ∈ l,0<=x/\x<=255):
  Own w base (.slice (some ⟨g,0,none⟩) l.length l.length) l.length l:=
 ⟨⟨by simp,.inr ⟨g,l.length,_,rfl,hb,hg,zB0 _,hm,by simp,zD3 Q9⟩⟩,hby⟩
theorem eG.pos {w:World}{a:Option Addr}{n:Nat}{l:List Int}(h:eG w a n l)(hp:0<(l.map (Value.int .u8)).length):
  ∃ad,a=some ad/\∀j v,(l.map (Value.int .u8))[j]?=some v->w.cell? (ad.add j)=some v:=by
 obtain⟨b,off,rfl,hc⟩:=h.2.2 (by rw[<-h.1];simpa using hp)
 refine⟨_,rfl,fun j v hv=>?_⟩
 have hj:j<l.length:=by simpa using (zC1.1 hv).1
 rw[Addr.add_lit,hc j (by rw[<-h.1];exact hj)]
 simpa [hj] using hv
structure aSg (w w':World) (a:Option Addr) (n c:Nat) (l:List Int):Prop where
 own:Own w' w.heap.size (.slice a n c) n l
 row:eG w' a n l
 cap:n<=c
 most:c<=maxLen
 nil:a=none->c=0
 block:∀k,(Value.slice a n c).ownBlock=some k->w.heap.size<=k/\k<w'.heap.size
 below:Below w.heap.size w w'
theorem Own.made {w w':World}{v:Value}{n:Nat}{l:List Int}(h:Own w' w.heap.size v n l)(hb:Below w.heap.size w w'):∃a c,v=.slice a n c/\aSg w w' a n c l:=by
 have hnil:∀c,v=.slice none n c->c=0:=by
  intro c hv
  rcases h.1.2 with⟨e,_⟩|⟨g,cap,cur,e,_⟩
  .
   rw[hv]at e;simp only[Value.slice.injEq]at e;exact e.2.2
  .
   rw[hv]at e;simp at e
 obtain⟨a,c,rfl,h1,h2,h3,h4⟩:=h.shape
 exact⟨a,c,rfl,h,h3,h1,h2,fun e=>hnil c (by rw[e]),h4,hb⟩
theorem Calls.made {P:Program}{f:Nat}{args:Array Value}{w:World}{n:Nat}{l:List Int}(h:Calls P f args w fun e w'=>∃v,e=.returned v/\Own w' w.heap.size v n l/\Below w.heap.size w w'):
  Calls P f args w fun e w'=>∃a c,e=.returned (.slice a n c)/\aSg w w' a n c l:=by
 refine h.mono ?_;rintro e w' ⟨v,rfl,ho,hb⟩;obtain⟨a,c,hv,hm⟩:=ho.made hb
 exact⟨a,c,by rw[hv],hm⟩
theorem Own.row {w:World}{base:Nat}{a:Option Addr}{n c:Nat}{l:List Int}(h:Own w base (.slice a n c) n l):eG w a n l:=by
 obtain⟨a',c',e,_,_,hr,_⟩:=h.shape;simp only[Value.slice.injEq,true_and]at e;obtain⟨rfl,rfl⟩:=e;exact hr
theorem Own.drewN {w:World}{base:Nat}{v:Value}{n:Nat}{l:List Int}(h:Own w base v n l)(d:Nat):Own (w.drewN d) base v n l:=h
theorem eG.drewN {w:World}{a:Option Addr}{n:Nat}{l:List Int}(h:eG w a n l)(d:Nat):eG (w.drewN d) a n l:=h
def aSy (k n:Nat):List Int:=(List.range n).map fun i=>(((k+i) % 256:Nat):Int)
theorem bP {w:World}{a:Option Addr}{n:Nat}{l:List Int}(c:Nat)(h:eG w a n l):(convert 22 9 (.slice a n c)).run Tryz.prog w=.ok (.string (strOfNums l)) w:=by
 cases a with
 | none=>
  have hn:n=0:=by
   rcases zG0 n with h0|hp
   .
    exact h0
   .
    obtain⟨b,off,e,_⟩:=h.2.2 hp;cases e
  have hl:l=[]:=zE0 (h.1.trans hn);rw[run_convert_bytes_nil (P:=Tryz.prog) w 22 5 Tryz.underlying22 Tryz.underlying5 n c 9 Tryz.underlying9,hl]
  rfl
 | some ad=>
  rcases zG0 n with h0|hp
  .
   have hl:l=[]:=zE0 (h.1.trans h0);subst h0
   rw[run_convert_bytes_string w 22 9 5 _ 0 c Tryz.underlying22 Tryz.underlying5 Tryz.underlying9,run_bytesToString w ad 0 c [] (by simpa using run_loadCells_list (P:=Tryz.prog) w ad [] Q9),hl]
   rfl
  .
   obtain⟨b,off,e,hc⟩:=h.2.2 hp;cases e
   exact run_convert_bytes_arg (P:=Tryz.prog) w 22 5 Tryz.underlying22 Tryz.underlying5 b off n c l h.1 (fun i hi=>by rw[hc i hi];simp[List.getD]) 9 Tryz.underlying9
theorem aDx {l m:List Int}(hl:∀x ∈ l,0<=x/\x<=255)(hm:∀x ∈ m,0<=x/\x<=255):strOfNums l=strOfNums m ↔ l=m:=by
 refine⟨fun h=>?_,fun h=>by rw[h]⟩
 have e:l.map (fun n=>UInt8.ofNat n.toNat)=m.map (fun n=>UInt8.ofNat n.toNat):=by
  have:=congrArg (fun s:ByteArray=>s.data.toList) h
  simpa [strOfNums_data] using this
 have Ak:l.length=m.length:=by simpa using congrArg List.length e
 apply List.ext_getElem Ak
 intro i h1 h2
 have:=congrArg (fun s:List UInt8=>s[i]?) e
 simp only[zA2,zA0 h1,zA0 h2,Option.map_some,zG2]at this;have b1:=hl _ (List.getElem_mem h1);have b2:=hm _ (List.getElem_mem h2);have t:=congrArg UInt8.toNat this;simp only[UInt8.toNat_ofNat']at t
 omega
theorem aK2 {l m:List Int}(hl:∀x ∈ l,0<=x/\x<=255)(hm:∀x ∈ m,0<=x/\x<=255):((strOfNums l).toList == (strOfNums m).toList)=decide (l=m):=by
 rw[ByteArray.toList_eq,ByteArray.toList_eq];have h:=aDx hl hm
 by_cases e:l=m
 .
  subst e;simp
 .
  rw[zC2 e]
  have:(strOfNums l).data.toList ≠ (strOfNums m).data.toList:=fun k=>e (h.1 (by
   cases hx:strOfNums l;cases hy:strOfNums m;rw[hx,hy]at k;simpa using k))
  simpa using this
theorem kB (a1:Option Addr)(n1 c1:Nat)(l1:List Int)(a2:Option Addr)(n2 c2:Nat)(l2:List Int)(w:World)(h1:eG w a1 n1 l1)(h2:eG w a2 n2 l2):
  Calls Tryz.prog 48 #[.slice a1 n1 c1,.slice a2 n2 c2] w fun e w'=>e=.returned (.bool (decide (l1=l2)))/\w'=w:=by
 have k1:=bP c1 h1;have k2:=bP c2 h2
 have hi:Hid (((strOfNums l1).toList == (strOfNums l2).toList)=decide (l1=l2)):=aK2 h1.2.1 h2.2.1
 clear h1 h2;go_enter Tryz.func48,Tryz.ntmps48;go_wp2;go_ret;exact⟨aE hi.out,rfl⟩
theorem aPe (a:Option Addr)(n c:Nat)(l:List Int)(w:World)(h:eG w a n l):
  (convert 22 9 (.slice a n c)).run Tryz.prog w=.ok (.string (strOfNums l)) w:=by
 have he:Tryz.prog.underlying 5=some (.int .u8):=by kernel_rfl
 have hd:Tryz.prog.underlying 9=some .string:=by kernel_rfl
 rcases zG0 n with h0|hp
 .
  subst h0
  obtain rfl:l=[]:=zE0 h.1
  cases a with
  | none=>exact run_convert_bytes_nil w 22 5 Tryz.underlying22 he 0 c 9 hd
  | some ad=>
   rw[run_convert_bytes_string w 22 9 5 _ 0 c Tryz.underlying22 he hd,run_bytesToString w ad 0 c [] (by simp[loadCells,loadCellsFrom])]
   rfl
 .
  obtain⟨b,off,rfl,hc⟩:=h.2.2 hp;refine run_convert_bytes_arg w 22 5 Tryz.underlying22 he b off n c l h.1 ?_ 9 hd;intro i hi;rw[hc i hi]
  simp[List.getD]
theorem sD {l1 l2:List Int}(h1:∀x ∈ l1,0<=x/\x<=255)(h2:∀x ∈ l2,0<=x/\x<=255)(h:l1.map (fun n=>UInt8.ofNat n.toNat)=l2.map (fun n=>UInt8.ofNat n.toNat)):l1=l2:=by
 induction l1 generalizing l2 with
 | nil=>cases l2 with
  | nil=>rfl
  | cons y s=>simp at h
 | cons x r ih=>
  cases l2 with
  | nil=>simp at h
  | cons y s=>
   simp only[zH2,zK0]at h;have hx:=h1 x Q9;have hy:=h2 y Q9;have e:=congrArg UInt8.toNat h.1;simp only[UInt8.toNat_ofNat']at e
   have:x=y:=by omega
   subst this
   rw[ih (fun z hz=>h1 z (by simp[hz])) (fun z hz=>h2 z (by simp[hz])) h.2]
set_option maxRecDepth 100000 in
set_option maxHeartbeats 1000000 in
theorem aK9 (a1:Option Addr)(n1 c1:Nat)(l1:List Int)(a2:Option Addr)(n2 c2:Nat)(l2:List Int)(w:World)(h1:eG w a1 n1 l1)(h2:eG w a2 n2 l2):
  Calls Tryz.prog 8 #[.slice a1 n1 c1,.slice a2 n2 c2] w fun e w'=>e=.returned (.bool (decide (l1=l2)))/\w'=w:=by
 have k1:=aPe a1 n1 c1 l1 w h1;have k2:=aPe a2 n2 c2 l2 w h2;go_enter Tryz.func8,Tryz.ntmps8;go_wp2;go_ret;refine⟨aE ?_,rfl⟩;rw[Bool.eq_iff_iff,decide_eq_true_iff,beq_iff_eq]
 constructor
 .
  intro h;refine sD h1.2.1 h2.2.1 ?_;rw[<-strOfNums_data,<-strOfNums_data];rw[ByteArray.toList_eq,ByteArray.toList_eq]at h;exact h
 .
  intro h;rw[h]
end Go.Proofs.YtffphdacgblaoaaGreatDoor

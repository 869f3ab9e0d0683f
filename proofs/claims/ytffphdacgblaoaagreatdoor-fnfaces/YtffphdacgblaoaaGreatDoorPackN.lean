import Derived.Test.YtffphdacgblaoaaGreatDoorModHead2
import Derived.Test.YtffphdacgblaoaaGreatDoorPackE
import Derived.Lib.AppendStr
import Derived.Deep.RegionHeld3
import Derived.Lib.AppendIntMem
namespace Go.Proofs.YtffphdacgblaoaaGreatDoor
open Go.RowKit
set_option linter.unusedVariables false
set_option linter.unusedSimpArgs false
set_option maxRecDepth 100000
theorem Q1{p:Prop}(h:p:=by kernel_rfl):p:=h
theorem U3{p:Prop}(h:p:=by
 refine ra 8 fun K hK=>?_
 rw[if_pos Q1]
 refine lV _ _ rfl base (.slice a2 (nL+t.size) c2) (nL+t.size) (L++sI t) rfl o4 g4 [eM t] 1 1 rfl hr4 Q0 hs4 ?_
 intro v6 w6 ho6 hg6
 have k6:=k4.below_row hg6 (o4.free k4 Q5)
 have hw6:=hw4.trans (aG.own (x:=some g) o4 hg6)
 have hs6:base<=w6.heap.size:=zF2 hs4 hg6.size
 obtain⟨a6,c6,rfl,_⟩:=ho6.shape
 have q6:=k6.k 0
 have z6:=k6.free 0
 have hne6:=ho6.free k6 Q5
 clear o4 k4 hr4 hw4 hs4 hg6
 refine hK.out _ _ trivial (fun Aa=>?_)
 clear hK K
 try simp only[nrm]
 refine ta 9 ?_
 refine ta 10 ?_
 try simp only[nrm]
 have k7:=k6.set (i:=0) (.slice a6 (nL+t.size+1) c6)
 have ho7:=ho6.setOther (g:=g) (i:=0) (u:=.slice a6 (nL+t.size+1) c6) hne6
 have hw7:=hw6.trans (aG.put (base:=base) (g:=g) (i:=0) (w:=w6) (v:=.slice a6 (nL+t.size+1) c6))
 refine ra 11 fun K hK=>?_
 go_simp
 have HP7:Hid (∃v',Pg (w6.setCell ⟨g,0,none⟩ (.slice a6 (nL+t.size+1) c6)) base g (l++aM (ts.take (j+1))) v'):=by
  refine⟨_,k7, ?_,by simp;omega⟩
  have e1:l++aM (ts.take (j+1))=L++sI t++[eM t]:=by rw[HN.out,<-HLe.out];simp
  have e2:(l++aM (ts.take (j+1))).length=nL+t.size+1:=by rw[e1,zA1,zA1,HNL.out,kM];rfl
  rw[e2,e1]
  exact ho7
 have HW7:Hid (aG base (some g) w (w6.setCell ⟨g,0,none⟩ (.slice a6 (nL+t.size+1) c6))):=hw.out.trans hw7
 clear k6 ho6 hw6 hs6 q6 z6 hne6 k7 ho7 hw7
 generalize w6.setCell ⟨g,0,none⟩ (.slice a6 (nL+t.size+1) c6)=w7 at *
 refine hK.out _ _ (trivial) (fun Aa=>?_)
 clear hK K
 try simp only[nrm]
 refine zK2 Q1 ?_ _
 go_wp2
 go_roundw
 case rel=>exact⟨j+1,by omega,by go_num,HP7,HW7⟩
 case measure=>simp[intOf];omega):p:=h
theorem U24{p:Prop}(h:p:=by
 go_enter Tryz.func129,Tryz.ntmps129
 go_wp2
 go_ret
 exact⟨gD he.out.symm,rfl⟩):p:=h
theorem M918{p q:Prop}(k:q)(h:Kx q->p:=by
 intro kQ
 refine ta 0 ?_
 refine ta 1 ?_
 refine ta 2 ?_
 try simp only[nrm]
 exact kQ.o):p:=h ⟨k⟩
theorem M937{p q:Prop}(k:q)(h:Kx q->p:=by
 intro kQ
 try simp only[nrm]
 have o4:=Own.alloc ho3 (.cells #[.int .u8 (eM t)] 5)
 have k4:=Blk.old hb3 (o:=.cells #[.int .u8 (eM t)] 5)
 have hr4:=sQ w4 (eM t) (jQ t).1 (jQ t).2
 have hw4:aG base (some g) wr (w4.alloc (.cells #[.int .u8 (eM t)] 5)):=hw3.trans (aG.of (aB w4 _ none))
 have hs4:base<=(w4.alloc (.cells #[.int .u8 (eM t)] 5)).heap.size:=by simp;omega
 revert hs4;revert hw4;revert hr4;revert k4;revert o4
 exact kQ.o):p:=h ⟨k⟩
def sI (s:ByteArray):List Int:=s.data.toList.map fun b=>(b.toNat:Int)
theorem aD7 (s:ByteArray):∀x ∈ sI s,0<=x/\x<=255:=by
 intro x hx;obtain⟨b,_,rfl⟩:=zE1.1 hx
 have:=b.toNat_lt
 omega
def aMb (o:Option Obj):Prop:=∃cs,o=some (.cells cs 5 (0,0))
structure aG (base:Nat) (x:Option Nat) (w w':World):Prop where
 os:w'.os=w.os
 tape:w'.tape=w.tape
 output:w'.output=w.output
 size:w.heap.size<=w'.heap.size
 block:∀k,k<w.heap.size->(k<base\/¬aMb w.heap[k]?)->some k ≠ x->w'.heap[k]?=w.heap[k]?
theorem aG.refl (base:Nat)(x:Option Nat)(w:World):aG base x w w:=⟨rfl,rfl,rfl,zB0 _,fun _ _ _ _=>rfl⟩
theorem aG.trans {base:Nat}{x:Option Nat}{a b c:World}(h:aG base x a b)(k:aG base x b c):aG base x a c:=
 ⟨k.os.trans h.os,k.tape.trans h.tape,k.output.trans h.output,zF2 h.size k.size,fun i hi ho hx=>by
  have h1:=h.block i hi ho hx
  exact(k.block i (Nat.lt_of_lt_of_le hi h.size) (by rw[h1];exact ho) hx).trans h1⟩
theorem aG.of {base:Nat}{x:Option Nat}{w w':World}(h:w.grownBy w' none):aG base x w w':=
 ⟨h.os,h.tape,h.output,h.size,fun k hk _ _=>h.block k hk Q9⟩
theorem aG.own {base:Nat}{x:Option Nat}{w w':World}{v:Value}{n:Nat}{l:List Int}(ho:Own w base v n l)(h:w.grownBy w' v.ownBlock):aG base x w w':=by
 refine⟨h.os,h.tape,h.output,h.size,fun k hk hn _=>h.block k hk (fun e=>?_)⟩
 rcases ho.1.2 with⟨rfl,_⟩|⟨g,cap,cur,rfl,hg,hh,_⟩
 .
  simp[Value.ownBlock]at e
 .
  simp only[Value.ownBlock,zG2]at e;subst e
  rcases hn with hn|hn
  .
   omega
  .
   exact hn ⟨_,hh⟩
theorem aG.below {base:Nat}{x:Option Nat}{w0 w w':World}(h:aG base x w w')(hb:Below w0.heap.size w0 w)(h0:w0.heap.size<=base)(hx:∀k,x=some k->w0.heap.size<=k):Below w0.heap.size w0 w':=
 ⟨h.os.trans hb.os,h.tape.trans hb.tape,h.output.trans hb.output,zF2 hb.size h.size,fun k hk=>(h.block k (Nat.lt_of_lt_of_le hk hb.size) (.inl Q0) (fun e=>by have:=hx k e.symm;omega)).trans (hb.block k hk)⟩
theorem aG.blk {base g:Nat}{x:Option Nat}{w w':World}{T:TypeId}{vs:List Value}(h:aG base x w w')(hb:Blk w g T vs)(hT:T ≠ 5)(hx:some g ≠ x):Blk w' g T vs:=by
 refine(h.block g hb.lt (.inr ?_) hx).trans hb;rintro⟨cs,e⟩
 have:=hb.symm.trans e
 simp only[zG2,Obj.cells.injEq]at this;exact hT this.2.1
theorem aG.wide {base:Nat}{w w':World}(h:aG base none w w')(x:Option Nat):aG base x w w':=⟨h.os,h.tape,h.output,h.size,fun k hk ho _=>h.block k hk ho Q9⟩
theorem aG.mono {base base':Nat}{x:Option Nat}{w w':World}(h:aG base x w w')(hb:base'<=base):aG base' x w w':=
 ⟨h.os,h.tape,h.output,h.size,fun k hk ho hx=>h.block k hk (ho.imp (fun h=>by omega) id) hx⟩
theorem aG.put {base g i:Nat}{w:World}{v:Value}:aG base (some g) w (w.setCell ⟨g,i,none⟩ v):=
 ⟨rfl,rfl,rfl,by simp,fun k hk _ Aw=>heap_setCell_other w ⟨g,i,none⟩ k v (fun e=>Aw (by simp at e;rw[e]))⟩
theorem Own.free {w:World}{base g:Nat}{v:Value}{n:Nat}{l:List Int}{T:TypeId}{vs:List Value}(h:Own w base v n l)(hb:Blk w g T vs)(hT:T ≠ 5):v.ownBlock ≠ some g:=by
 intro e
 rcases h.1.2 with⟨rfl,_⟩|⟨k,cap,cur,rfl,hg,hh,_⟩
 .
  simp[Value.ownBlock]at e
 .
  simp only[Value.ownBlock,zG2]at e;subst e
  have:=hb.symm.trans hh
  simp only[zG2,Obj.cells.injEq]at this;exact hT this.2.1
structure Pg (w:World) (base g:Nat) (l:List Int) (v:Value):Prop where
 blk:Blk w g 122 [v]
 own:Own w base v l.length l
 le:base<=w.heap.size
theorem Own.setOther {w:World}{base g i:Nat}{v u:Value}{n:Nat}{l:List Int}(h:Own w base v n l)(Aw:v.ownBlock ≠ some g):Own (w.setCell ⟨g,i,none⟩ u) base v n l:=
 h.kept (row:=some g) mW (.inr Aw)
theorem Blk.below_row {w w':World}{g:Nat}{T:TypeId}{vs:List Value}{row:Option Nat}(h:Blk w g T vs)(hg:w.grownBy w' row)(Aw:row ≠ some g):Blk w' g T vs:=(hg.block g h.lt (fun e=>Aw e.symm)).trans h
theorem Pg.grown {w w':World}{base g:Nat}{l:List Int}{v:Value}(h:Pg w base g l v)(hg:w.grownBy w' none):Pg w' base g l v:=
 ⟨h.blk.below (aA hg) h.blk.lt,h.own.below (aA hg),zF2 h.le hg.size⟩
def kE:List (List UInt8):=[[59],[66,69,71,73,78],[84,72,69,78],[69,76,83,69],[68,79]]
def eM (s:ByteArray):Int:=if s.toList ∈ kE then 10 else 32
theorem jQ (s:ByteArray):0<=eM s/\eM s<=255:=by unfold eM;split <;> omega
theorem aGl (s:ByteArray)(w:World):Calls Tryz.prog 129 #[.string s] w fun e w'=>e=.returned (.int .u8 (eM s))/\w'=w:=by
 by_cases h0:s.toList=[59]
 .
  have he:Hid (eM s=10):=if_pos (by rw[h0];decide)
  exact U24
 have g0:(s.toList == [59])=false:=by simpa using h0
 by_cases h1:s.toList=[66,69,71,73,78]
 .
  have he:Hid (eM s=10):=if_pos (by rw[h1];decide)
  clear h0;exact U24
 have g1:(s.toList == [66,69,71,73,78])=false:=by simpa using h1
 by_cases h2:s.toList=[84,72,69,78]
 .
  have he:Hid (eM s=10):=if_pos (by rw[h2];decide)
  clear h0 h1;exact U24
 have g2:(s.toList == [84,72,69,78])=false:=by simpa using h2
 by_cases h3:s.toList=[69,76,83,69]
 .
  have he:Hid (eM s=10):=if_pos (by rw[h3];decide)
  clear h0 h1 h2;exact U24
 have g3:(s.toList == [69,76,83,69])=false:=by simpa using h3
 by_cases h4:s.toList=[68,79]
 .
  have he:Hid (eM s=10):=if_pos (by rw[h4];decide)
  clear h0 h1 h2 h3;exact U24
 have g4:(s.toList == [68,79])=false:=by simpa using h4
 have he:Hid (eM s=32):=if_neg (by simp only[kE,zG3,List.not_mem_nil,or_false,not_or];exact⟨h0,h1,h2,h3,h4⟩)
 clear h0 h1 h2 h3 h4;exact U24
theorem lV {w:World}{o:Oper}{a:Act}{K:Act->World->Prop}{Q:Exit->Act->World->Prop}(s x:Operand)
  (ho:o.op=.call { callee:=.builtin .append,args:=#[s,x],argTypes:=#[22,22] })
  (base:Nat) (v:Value) (n:Nat) (l:List Int) (hs:a.eval s=v) (hown:Own w base v n l)
  (g:Nat) (l2:List Int) (m c:Nat) (hx:a.eval x=.slice (some ⟨g,0,none⟩) m c) (hr:eG w (some ⟨g,0,none⟩) m l2) (Am:n+m<=1099511627776) (hbase:base<=w.heap.size)
  (h:∀v' w',Own w' base v' (n+m) (l++l2)->w.grownBy w' v.ownBlock->K (a.put o.dst v') w'):Oper.wp Tryz.prog o a w K Q:=by
 obtain⟨i0,hi,hz0,hz1,hz2⟩:=info_parts aCv
 have hby:∀x ∈ l++l2,0<=x/\x<=255:=fun x hx=>(List.mem_append.1 hx).elim (hown.2 x) (hr.2.1 x)
 refine wp_append_own w s x 22 ho base 5 i0 (.int .u8 0) 1 1 Tryz.underlying22 hi hz0 hz1 hz2 rfl Q5 v n _ hs hown.1 ⟨g,0,none⟩ m c (l2.map (Value.int .u8)) hx (by simp[hr.1]) ?_ (ints_oneCell _ _) Q17 Q0 hbase ?_
 .
  exact U31
 .
  intro v' w' ho' hg' _
  exact h v' w' ⟨by simpa using ho',hby⟩ hg'
def jI (s:ByteArray):List Int:=sI s++[eM s]
def aM (ts:List ByteArray):List Int:=ts.flatMap jI
theorem lT {w:World}{ops:Array Oper}{rest:List Oper}{o:Oper}{a:Act}{Q:Exit->Act->World->Prop}(hgd:o.guard=none)(s x:Operand)
  (ho:o.op=.call { callee:=.builtin .append,args:=#[s,x],argTypes:=#[22,9] })
  (base:Nat) (v:Value) (n:Nat) (l:List Int) (hs:a.eval s=v) (hown:Own w base v n l)
  (t:ByteArray) (hx:a.eval x=.string t) (Am:n+t.size<=1099511627776) (hbase:base<=w.heap.size)
  (h:∀v' w',Own w' base v' (n+t.size) (l++sI t)->w.grownBy w' v.ownBlock->wpList Tryz.prog ops Q rest (a.put o.dst v') w'):wpList Tryz.prog ops Q (o :: rest) a w:=by
 obtain⟨i0,hi,hz0,hz1,hz2⟩:=info_parts aCv;refine Lib.wpList_append_own_string w hgd s x 22 9 ho base 5 i0 Tryz.underlying22 Tryz.underlying9 hi hz0 hz1 hz2 v n _ hs hown.1 t hx Q17 Q0 hbase ?_;intro v' w' ho' hg' _
 refine h v' w' ⟨?_,fun x hx=>(List.mem_append.1 hx).elim (hown.2 x) (aD7 t x)⟩ hg'
 have e:(l++sI t).map (Value.int .u8)=l.map (Value.int .u8)++Lib.strCells t:=by
  rw[List.map_append]
  congr 1
  unfold sI Lib.strCells;rw[List.map_map]
  rfl
 rw[e];exact ho'
theorem kM (s:ByteArray):(sI s).length=s.size:=by unfold sI;rw[zB2,Array.length_toList];rfl
theorem pQ {ts:List ByteArray}{j:Nat}{t:ByteArray}(h:ts[j]?=some t):aM (ts.take (j+1))=aM (ts.take j)++jI t:=by
 obtain⟨hk,rfl⟩:=zC1.1 h;unfold aM;rw[zF1 hk,List.flatMap_append]
 simp
theorem wU (ts:List ByteArray)(j:Nat):(aM (ts.take j)).length<=(aM ts).length:=by
 unfold aM
 conv=>rhs;rw[<-List.take_append_drop j ts,List.flatMap_append,zA1]
 omega
set_option maxHeartbeats 4000000 in
theorem fH (ts:List ByteArray)(b m c:Nat)(w:World)(base g:Nat)(l:List Int)(v:Value)(hp:Pg w base g l v)(hm:ts.length=m)(hB:Blk w b 9 (ts.map Value.string))(hbg:b ≠ g)(Am:l.length+(aM ts).length<=1000000000)(hg:base<=g):
  Calls Tryz.prog 104 #[.pointer (some ⟨g,0,none⟩),.slice (some ⟨b,0,none⟩) m m] w fun e w'=>e=.returned (.tuple #[])/\(∃v',Pg w' base g (l++aM ts) v')/\aG base (some g) w w':=by
 have hts:ts.length<=(aM ts).length:=by
  clear hB hm Am
  induction ts with
  | nil=>simp
  | cons t ts ih=>simp[aM,jI]at ih ⊢;omega
 have hmm:m<=1000000000:=Q0;have HB:=hid hB;have Hm:=hid hm;have HP:=hid hp;have HS:=hid Am;clear hB hm hp Am hts;go_enter Tryz.func104,Tryz.ntmps104;go_wp2_with fail
 go_loopw [5,8] (fun _ i wr=>∃j:Nat,j<=m/\i=.int .i64 j/\Hid (∃v',Pg wr base g (l++aM (ts.take j)) v')/\Hid (aG base (some g) w wr)) (fun _ i _=>m-(intOf i).toNat)
 case atStart=>exact⟨0,zD1 _,rfl,⟨v,by simpa [aM] using HP.out⟩,aG.refl _ _ _⟩
 case round=>
  obtain⟨j,hj,rfl,hp,hw⟩:=hrel
  by_cases Aj:j<m
  .
   obtain⟨v1,hp⟩:=hp.out
   obtain⟨t,ht⟩:∃t,ts[j]?=some t:=⟨ts[j]'(by rw[Hm.out];exact Aj),zA0 _⟩
   have hbk:=(aG.blk hw.out HB.out Q5 (by simpa using hbg))
   have q0:wr.cell? ⟨b,j,none⟩=some (.string t):=by exact hbk.cell (by rw[zA2,ht];rfl)
   have q1:=hp.blk.k 0;have z1:=hp.blk.free 0
   have Ak:(l++aM (ts.take j)).length+(jI t).length<=1000000000:=by
    have h1:=wU ts (j+1);rw[pQ ht]at h1;simp only[zA1]at h1 ⊢
    have:=HS.out
    omega
   have hts:(sI t).length+1=(jI t).length:=by simp[jI]
   have HN:Hid (aM (ts.take (j+1))=aM (ts.take j)++(sI t++[eM t])):=pQ ht
   generalize hL:l++aM (ts.take j)=L at *
   have HLe:Hid (l++aM (ts.take j)=L):=hL
   obtain⟨hk,ho,hle⟩:=hp;clear hL;generalize hnL:L.length=nL at *
   have HNL:Hid (L.length=nL):=hnL
   clear hnL;obtain⟨a1,c1,rfl,_⟩:=ho.shape
   have hst:t.size+1<=(jI t).length:=by rw[<-kM];omega
   clear ht hbk
   go_wp2_with (at_builtin;refine lT rfl _ _ rfl base _ nL L rfl ho t rfl Q0 hle ?_)
   intro v2 w2 ho2 hg2;have hb2:=hk.below_row hg2 (ho.free hk Q5);have hw2:=aG.own (x:=some g) ho hg2;have q2:=hb2.k 0;have z2:=hb2.free 0;obtain⟨a2,c2,rfl,_⟩:=ho2.shape;have hne2:=ho2.free hb2 Q5;clear q1 z1 q0;go_upto_region 4 with fail;have hb3:=hb2.set (i:=0) (.slice a2 (nL+t.size) c2);have ho3:=ho2.setOther (g:=g) (i:=0) (u:=.slice a2 (nL+t.size) c2) hne2;have hw3:=hw2.trans (aG.put (base:=base) (g:=g) (i:=0) (w:=w2) (v:=.slice a2 (nL+t.size) c2))
   have hs3:base<=(w2.setCell ⟨g,0,none⟩ (.slice a2 (nL+t.size) c2)).heap.size:=by have:=hw3.size;omega
   generalize w2.setCell ⟨g,0,none⟩ (.slice a2 (nL+t.size) c2)=w3 at *;clear q2 z2 hb2 ho2 hw2 hg2 hne2
   refine zK1 (S:=fun _=>True) Q1 trivial (fun Aa=>?_)
   have q3:w3.drew.cell? ⟨g,0,none⟩=some (.slice a2 (nL+t.size) c2):=hb3.k 0
   replace hb3:Blk w3.drew g 122 [.slice a2 (nL+t.size) c2]:=hb3
   replace ho3:Own w3.drew base (.slice a2 (nL+t.size) c2) (nL+t.size) (L++sI t):=ho3
   replace hw3:aG base (some g) wr w3.drew:=⟨hw3.os,hw3.tape,hw3.output,hw3.size,hw3.block⟩
   replace hs3:base<=w3.drew.heap.size:=hs3;generalize w3.drew=w4 at *;refine M918 ?_;refine ta 3 ?_;refine ta 5 ?_;try simp only[nrm]
   refine wpAnyH_ready (rs:=[4,6]) Q1 Q9 ?_;refine AllReadyH.cons (i:=4) (o:=?oK7) ?iK7 ?gK7 (AllReadyH.cons (i:=6) (o:=?oK8) ?iK8 ?gK8 AllReadyH.nil)
   case iK7=>exact rfl
   case iK8=>exact rfl
   case gK7=>
    intro K hK;go_simp
    refine hK.out _ _ trivial (fun Aa=>?_)
    clear hK K;try simp only[nrm]
    refine wpAnyH_ready (rs:=[6]) Q1 Q9 ?_;refine AllReadyH.cons (i:=6) (o:=?oK2) ?iK2 ?gK2 AllReadyH.nil
    case iK2=>exact rfl
    case gK2=>
     intro K hK;go_simp
     (with_reducible refine(aGl t _).mono ?_)
     rintro e w4 ⟨rfl,rfl⟩;go_wp2_with fail
     refine hK.out _ _ trivial (fun Aa=>?_)
     clear hK K;try simp only[nrm]
     refine wpAnyH_ready (rs:=[7]) Q1 Q9 ?_;refine AllReadyH.cons (i:=7) (o:=?oK1) ?iK1 ?gK1 AllReadyH.nil
     case iK1=>exact rfl
     case gK1=>
      intro K hK;go_simp
      refine hK.out _ _ trivial (fun Aa=>?_)
      clear hK K;refine M937 ?_;intro o4 k4 hr4 hw4 hs4;generalize w4.alloc (.cells #[.int .u8 (eM t)] 5)=w5 at *;generalize w4.heap.size=g4 at *;clear ho3 hb3 hw3 hs3 q3;exact U3
   case gK8=>
    intro K hK;go_simp
    (with_reducible refine(aGl t _).mono ?_)
    rintro e w4 ⟨rfl,rfl⟩;go_wp2_with fail
    refine hK.out _ _ trivial (fun Aa=>?_)
    clear hK K;try simp only[nrm]
    refine wpAnyH_ready (rs:=[4,7]) Q1 Q9 ?_;refine AllReadyH.cons (i:=4) (o:=?oK5) ?iK5 ?gK5 (AllReadyH.cons (i:=7) (o:=?oK6) ?iK6 ?gK6 AllReadyH.nil)
    case iK5=>exact rfl
    case iK6=>exact rfl
    case gK5=>
     intro K hK;go_simp
     refine hK.out _ _ trivial (fun Aa=>?_)
     clear hK K;try simp only[nrm]
     refine wpAnyH_ready (rs:=[7]) Q1 Q9 ?_;refine AllReadyH.cons (i:=7) (o:=?oK3) ?iK3 ?gK3 AllReadyH.nil
     case iK3=>exact rfl
     case gK3=>
      intro K hK;go_simp
      refine hK.out _ _ trivial (fun Aa=>?_)
      clear hK K;refine M937 ?_;intro o4 k4 hr4 hw4 hs4;generalize w4.alloc (.cells #[.int .u8 (eM t)] 5)=w5 at *;generalize w4.heap.size=g4 at *;clear ho3 hb3 hw3 hs3 q3;exact U3
    case gK6=>
     intro K hK;go_simp
     refine hK.out _ _ trivial (fun Aa=>?_)
     clear hK K;try simp only[nrm]
     have q3':=(Blk.old hb3 (o:=.cells #[.int .u8 (eM t)] 5)).k 0;refine wpAnyH_ready (rs:=[4]) Q1 Q9 ?_;refine AllReadyH.cons (i:=4) (o:=?oK4) ?iK4 ?gK4 AllReadyH.nil
     case iK4=>exact rfl
     case gK4=>
      intro K hK;go_simp
      refine hK.out _ _ trivial (fun Aa=>?_)
      clear hK K;refine M937 ?_;intro o4 k4 hr4 hw4 hs4;generalize w4.alloc (.cells #[.int .u8 (eM t)] 5)=w5 at *;generalize w4.heap.size=g4 at *;clear ho3 hb3 hw3 hs3 q3 q3';exact U3
  .
   have:j=m:=Q0
   subst this;go_wp2_with fail;obtain⟨v',hp⟩:=hp.out
   rw[zD3 (by rw[Hm.out];exact zB0 _)]at hp
   exact bodyPost_end (results_none rfl _ _ _) rfl ⟨rfl,⟨v',hp⟩,hw.out⟩
def gL (n:Int):List Int:=(Lib.itoa n).map fun b=>(b.toNat:Int)
def opI (n:Int):List Int:=if n=0 then [43] else if n=1 then [45] else if n=2 then [42] else if n=3 then [47] else if n=4 then [60] else [61]
def aO (s:List Int):List (List Int)->List Int
 | []=>[]
 | [x]=>x
 | x :: y :: l=>x++s++aO s (y :: l)
def jP (k n:Int)(mod name:List Int)(ts:List (List Int)):List Int:=
 if k=0 then gL n++[32]
 else if k=1 then name++[32]
 else if k=2 then name++[32]++[91,32]++ts[0]?.getD []++[93,32]
 else if k=3 then [40,32]++ts[0]?.getD []++(opI n++[32])++ts[1]?.getD []++[41,32]
 else if k=4 then [73,78,32]
 else if k=5 then [76,69,78,32]++(name++[32])
 else if k=6 then (if mod.length=0 then [] else mod++[32]++[46,32])++(name++[32])++([40,32]++aO [44,32] ts++[41,32])
 else [64,32]++(name++[32])
mutual
def prE:Ex->List Int
 | .mk k n m a ks=>jP k n m a (lE ks)
def lE:List Ex->List (List Int)
 | []=>[]
 | e :: l=>prE e :: lE l
end
theorem lD (l:List Ex):lE l=l.map prE:=by
 induction l with
 | nil=>rfl
 | cons x l ih=>simp[lE,ih]
def fZ (k n:Int)(name:List Int)(ts:List (List Int))(body els:List Int):List Int:=
 if k=0 then name++[32]++[58,61,32]++ts[0]?.getD []++[59,10]
 else if k=1 then name++[32]++[91,32]++ts[0]?.getD []++[93,32]++[58,61,32]++ts[1]?.getD []++[59,10]
 else if k=2 then [73,70,32]++ts[0]?.getD []++[84,72,69,78,10]++body++[69,76,83,69,10]++els++[69,78,68,32]++[59,10]
 else if k=3 then [87,72,73,76,69,32]++ts[0]?.getD []++[68,79,10]++body++[69,78,68,32]++[59,10]
 else if k=4 then [82,69,84,85,82,78,32]++ts[0]?.getD []++[59,10]
 else if k=5 then [79,85,84,32]++ts[0]?.getD []++[59,10]
 else if k=6 then [84,82,65,80,32]++(gL n++[32])++[59,10]
 else [67,65,76,76,32]++ts[0]?.getD []++[59,10]
mutual
def prS:St->List Int
 | .mk k n a ks bs es=>fZ k n a (lE ks) (prB bs) (prB es)
def prB:List St->List Int
 | []=>[]
 | s :: l=>prS s++prB l
end
def dN (v:Va):List Int:=[86,65,82,32]++(v.name++[32])++(if 0<v.size then [91,32]++(gL v.size++[32])++[93,32] else [])++[59,10]
def qM (a:Pa):List Int:=(if a.arr then [64,32] else [])++(a.name++[32])
def aT (x:List Int):List Int:=[86,65,82,32]++(x++[32])++[59,10]
def fW (x:List Int):List Int:=[73,77,80,79,82,84,32]++(x++[32])++[59,10]
def cJ (q:Pr):List Int:=[80,82,79,67,32]++(q.name++[32])++(if q.opn then [42,32] else [])++([40,32]++aO [44,32] (q.params.map qM)++[41,32])++[59,10]++q.locals.flatMap aT++[66,69,71,73,78,10]++prB q.body++([69,78,68,32]++[59,10])
def prM (m:Mo):List Int:=[77,79,68,85,76,69,32]++(m.name++[32])++[59,10]++m.uses.flatMap fW++m.vars.flatMap dN++m.procs.flatMap cJ++[69,78,68,32]++[46,10]
theorem aD6 {l:List Int}(h:∀x ∈ l,0<=x/\x<=255):sI (strOfNums l)=l:=by
 unfold sI;rw[strOfNums_data];simp only[List.map_map]
 apply List.ext_getElem
 .
  simp
 .
  intro i h1 h2;have hb:=h _ (List.getElem_mem h2);simp only[List.getElem_map,Function.comp_apply,UInt8.toNat_ofNat']
  omega
theorem aPl {l:List Int}(h:∀x ∈ l,0<=x/\x<=255)(hn:l ∉ kE.map fun t=>t.map fun b=>((b.toNat:Nat):Int)):eM (strOfNums l)=32:=by
 unfold eM;rw[if_neg];intro hm
 apply hn
 have:=List.mem_map_of_mem (f:=fun t:List UInt8=>t.map fun b=>((b.toNat:Nat):Int)) hm
 rw[ByteArray.toList_eq]at this;have e:=aD6 h;unfold sI at e;rw[e]at this;exact this
theorem aJe {l:List Int}{g:Bool}(hb:∀x ∈ l,0<=x/\x<=255)(h:aK l g=true):eM (strOfNums l)=32:=by
 refine aPl hb fun hm=>?_
 simp only[kE,zH2,List.map_nil,zG3,List.not_mem_nil,or_false]at hm
 have key:∀x:List Int,aK x true=false->aK x false=false->l=x->False:=fun x h1 h2 e=>by
  subst e;cases g
  .
   rw[h2]at h;cases h
  .
   rw[h1]at h;cases h
 rcases hm with e|e|e|e|e
 .
  exact key _ Q5 Q5 e
 .
  exact key _ Q5 Q5 e
 .
  exact key _ Q5 Q5 e
 .
  exact key _ Q5 Q5 e
 .
  exact key _ Q5 Q5 e
theorem aHx {l:List Int}{g:Bool}(hb:∀x ∈ l,0<=x/\x<=255)(h:aK l g=true):jI (strOfNums l)=l++[32]:=by
 unfold jI;rw[aD6 hb,aJe hb h]
theorem aKl (u:Nat):∀b ∈ Lib.decDigits u,b.toNat<=57:=by
 induction u using Nat.strongRecOn with
 | _ u ih=>
  intro b hb;rw[Lib.decDigits]at hb
  split at hb
  .
   simp only[List.mem_singleton]at hb;subst hb;rw[UInt8.toNat_ofNat'];omega
  .
   rcases List.mem_append.1 hb with h|h
   .
    exact ih (u / 10) Q0 b h
   .
    simp only[List.mem_singleton]at h;subst h;rw[UInt8.toNat_ofNat'];omega
theorem aGa:∀(k u:Nat),u<10 ^ (k+1)->(Lib.decDigits u).length<=k+1:=by
 intro k
 induction k with
 | zero=>intro u h;rw[Lib.decDigits,dif_pos Q0];simp
 | succ k ih=>
  intro u h;rw[Lib.decDigits]
  split
  .
   simp
  .
   have:=ih (u / 10) (by rw[Nat.pow_succ]at h;omega)
   simp only[zA1,List.length_singleton];omega
theorem aL6 (n:Int):∀b ∈ Lib.itoa n,b.toNat<=57:=by
 intro b hb;unfold Lib.itoa at hb
 split at hb
 .
  rcases zG3.1 hb with h|h
  .
   subst h;decide
  .
   exact aKl _ b h
 .
  exact aKl _ b hb
theorem jW {n:Int}(h0:-9223372036854775808<=n)(h1:n<=9223372036854775807):(gL n).length<=21:=by
 unfold gL Lib.itoa;rw[zB2]
 split
 .
  have:=aGa 19 n.natAbs Q0
  simp only[zB1];omega
 .
  have:=aGa 19 n.toNat Q0
  omega
theorem aLe (n:Int):jI ⟨(Lib.itoa n).toArray⟩=gL n++[32]:=by
 unfold jI gL sI
 congr 1
 unfold eM;rw[if_neg];rw[ByteArray.toList_eq];intro hm;have hle:=aL6 n;simp only[kE,zG3,List.not_mem_nil,or_false]at hm
 rcases hm with e|e|e|e|e
 .
  rw[e]at hle;exact absurd (hle 59 Q9) Q5
 .
  rw[e]at hle;exact absurd (hle 66 Q9) Q5
 .
  rw[e]at hle;exact absurd (hle 84 Q9) Q5
 .
  rw[e]at hle;exact absurd (hle 69 Q9) Q5
 .
  rw[e]at hle;exact absurd (hle 68 Q9) Q5
theorem aTa:(exF 0).words=[[110,117,109]]:=by decide
theorem aS9:(exF 1).words=[[110,97,109,101]]:=by decide
theorem aS8:(exF 2).words=[[110,97,109,101],[91],[107,105,100],[93]]:=by decide
theorem aS7:(exF 3).words=[[40],[107,105,100],[111,112],[107,105,100],[41]]:=by decide
theorem aS6:(exF 4).words=[[73,78]]:=by decide
theorem aS5:(exF 5).words=[[76,69,78],[110,97,109,101]]:=by decide
theorem aS4:(exF 6).words=[[109,111,100],[110,97,109,101],[97,114,103,115]]:=by decide
theorem aS3:(exF 7).words=[[64],[110,97,109,101]]:=by decide
theorem aSt:(stF 0).words=[[110,97,109,101],[58,61],[107,105,100],[59]]:=by decide
theorem aSs:(stF 1).words=[[110,97,109,101],[91],[107,105,100],[93],[58,61],[107,105,100],[59]]:=by decide
theorem aSr:(stF 2).words=[[73,70],[107,105,100],[84,72,69,78],[98,111,100,121],[69,76,83,69],[101,108,115,101],[69,78,68],[59]]:=by decide
theorem aSq:(stF 3).words=[[87,72,73,76,69],[107,105,100],[68,79],[98,111,100,121],[69,78,68],[59]]:=by decide
theorem aSp:(stF 4).words=[[82,69,84,85,82,78],[107,105,100],[59]]:=by decide
theorem aSo:(stF 5).words=[[79,85,84],[107,105,100],[59]]:=by decide
theorem aSn:(stF 6).words=[[84,82,65,80],[110,117,109],[59]]:=by decide
theorem aSm:(stF 7).words=[[67,65,76,76],[99,97,108,108],[59]]:=by decide
theorem uQ:aM [⟨#[91]⟩]=[91,32]:=by simp[aM,jI,sI,eM,kE,ByteArray.toList_eq]
theorem uP:aM [⟨#[93]⟩]=[93,32]:=by simp[aM,jI,sI,eM,kE,ByteArray.toList_eq]
theorem rG:aM [⟨#[40]⟩]=[40,32]:=by simp[aM,jI,sI,eM,kE,ByteArray.toList_eq]
theorem rF:aM [⟨#[41]⟩]=[41,32]:=by simp[aM,jI,sI,eM,kE,ByteArray.toList_eq]
theorem uR:aM [⟨#[73,78]⟩]=[73,78,32]:=by simp[aM,jI,sI,eM,kE,ByteArray.toList_eq]
theorem oE:aM [⟨#[76,69,78]⟩]=[76,69,78,32]:=by simp[aM,jI,sI,eM,kE,ByteArray.toList_eq]
theorem aEg:aM [⟨#[64]⟩]=[64,32]:=by simp[aM,jI,sI,eM,kE,ByteArray.toList_eq]
theorem mM:aM [⟨#[58,61]⟩]=[58,61,32]:=by simp[aM,jI,sI,eM,kE,ByteArray.toList_eq]
theorem dU:aM [⟨#[59]⟩]=[59,10]:=by simp[aM,jI,sI,eM,kE,ByteArray.toList_eq]
theorem uS:aM [⟨#[73,70]⟩]=[73,70,32]:=by simp[aM,jI,sI,eM,kE,ByteArray.toList_eq]
theorem kP:aM [⟨#[84,72,69,78]⟩]=[84,72,69,78,10]:=by simp[aM,jI,sI,eM,kE,ByteArray.toList_eq]
theorem kS:aM [⟨#[69,76,83,69]⟩]=[69,76,83,69,10]:=by simp[aM,jI,sI,eM,kE,ByteArray.toList_eq]
theorem eO:aM [⟨#[69,78,68]⟩]=[69,78,68,32]:=by simp[aM,jI,sI,eM,kE,ByteArray.toList_eq]
theorem jA:aM [⟨#[87,72,73,76,69]⟩]=[87,72,73,76,69,32]:=by simp[aM,jI,sI,eM,kE,ByteArray.toList_eq]
theorem uT:aM [⟨#[68,79]⟩]=[68,79,10]:=by simp[aM,jI,sI,eM,kE,ByteArray.toList_eq]
theorem iA:aM [⟨#[82,69,84,85,82,78]⟩]=[82,69,84,85,82,78,32]:=by simp[aM,jI,sI,eM,kE,ByteArray.toList_eq]
theorem oD:aM [⟨#[79,85,84]⟩]=[79,85,84,32]:=by simp[aM,jI,sI,eM,kE,ByteArray.toList_eq]
theorem kO:aM [⟨#[84,82,65,80]⟩]=[84,82,65,80,32]:=by simp[aM,jI,sI,eM,kE,ByteArray.toList_eq]
theorem kT:aM [⟨#[67,65,76,76]⟩]=[67,65,76,76,32]:=by simp[aM,jI,sI,eM,kE,ByteArray.toList_eq]
theorem aN8:aM [⟨#[46]⟩]=[46,32]:=by simp[aM,jI,sI,eM,kE,ByteArray.toList_eq]
theorem yZ:aM [⟨#[44]⟩]=[44,32]:=by simp[aM,jI,sI,eM,kE,ByteArray.toList_eq]
theorem aOa:aM [⟨#[43]⟩]=[43,32]:=by simp[aM,jI,sI,eM,kE,ByteArray.toList_eq]
theorem aN9:aM [⟨#[45]⟩]=[45,32]:=by simp[aM,jI,sI,eM,kE,ByteArray.toList_eq]
theorem aJ0:aM [⟨#[42]⟩]=[42,32]:=by simp[aM,jI,sI,eM,kE,ByteArray.toList_eq]
theorem aN7:aM [⟨#[47]⟩]=[47,32]:=by simp[aM,jI,sI,eM,kE,ByteArray.toList_eq]
theorem aN6:aM [⟨#[60]⟩]=[60,32]:=by simp[aM,jI,sI,eM,kE,ByteArray.toList_eq]
theorem aN5:aM [⟨#[61]⟩]=[61,32]:=by simp[aM,jI,sI,eM,kE,ByteArray.toList_eq]
theorem kQ:aM [⟨#[77,79,68,85,76,69]⟩]=[77,79,68,85,76,69,32]:=by simp[aM,jI,sI,eM,kE,ByteArray.toList_eq]
theorem kR:aM [⟨#[73,77,80,79,82,84]⟩]=[73,77,80,79,82,84,32]:=by simp[aM,jI,sI,eM,kE,ByteArray.toList_eq]
theorem jB:aM [⟨#[86,65,82]⟩]=[86,65,82,32]:=by simp[aM,jI,sI,eM,kE,ByteArray.toList_eq]
theorem pP:aM [⟨#[80,82,79,67]⟩]=[80,82,79,67,32]:=by simp[aM,jI,sI,eM,kE,ByteArray.toList_eq]
theorem jC:aM [⟨#[66,69,71,73,78]⟩]=[66,69,71,73,78,10]:=by simp[aM,jI,sI,eM,kE,ByteArray.toList_eq]
theorem cE {l:List Int}{g:Bool}(hb:∀x ∈ l,0<=x/\x<=255)(h:aK l g=true):aM [strOfNums l]=l++[32]:=by
 unfold aM;rw[List.flatMap_singleton];exact aHx hb h
theorem iQ (n:Int):aM [⟨(Lib.itoa n).toArray⟩]=gL n++[32]:=by
 unfold aM;rw[List.flatMap_singleton];exact aLe n
theorem aL7 (n:Int)(h0:-9223372036854775808<=n)(h1:n<=9223372036854775807)(w:World)(ht:nF w):
  Calls Tryz.prog 130 #[.int .i64 n] w fun e w'=>e=.returned (.string ⟨(Lib.itoa n).toArray⟩)/\w.grownBy w' none:=by
 refine(Tryz.strconv_Itoa n h0 h1 w ht.p10).mono ?_;rintro e w' ⟨rfl,k,os,rfl⟩;exact⟨rfl,aW (Lib.below_grow w.heap.size w (zB0 _) k os) none⟩
def aKa (mod:List Int):List Int:=if mod.length=0 then [] else mod++[32]++[46,32]
theorem aSx (mod:List Int)(a:Option Addr)(c:Nat)(w:World)(base g:Nat)(l:List Int)(v:Value)(h:eG w a mod.length mod)(hp:Pg w base g l v)(hg:base<=g)(hok:mod.length=0\/aK mod true=true)(Am:l.length+(aKa mod).length<=1000000000):
  Calls Tryz.prog 171 #[.pointer (some ⟨g,0,none⟩),.slice a mod.length c] w fun e w'=>e=.returned (.tuple #[])/\(∃v',Pg w' base g (l++aKa mod) v')/\aG base (some g) w w':=by
 by_cases h0:mod.length=0
 .
  have he:Hid (aKa mod=[]):=if_pos h0
  rw[h0];go_enter Tryz.func171,Tryz.ntmps171;go_wp2_with fail
  have Bh:∃v',Pg w base g (l++aKa mod) v':=⟨v,by rw[he.out];simpa using hp⟩
  exact bodyPost_end (results_none rfl _ _ _) rfl ⟨rfl,Bh,aG.refl _ _ _⟩
 .
  have he:aKa mod=mod++[32]++[46,32]:=if_neg h0
  have hnm:aK mod true=true:=hok.resolve_left h0
  have hpn:=cE (g:=true) h.2.1 hnm
  have Ah:aM [strOfNums mod,⟨#[46]⟩]=mod++[32]++[46,32]:=by
   have h2:=aN8;unfold aM at hpn h2 ⊢;rw[List.flatMap_cons,h2];simp only[List.flatMap_cons,List.flatMap_nil,List.append_nil]at hpn;rw[hpn]
  have kc:=bP c h;have hgl:=hp.blk.lt
  have HQ:=fH [strOfNums mod,⟨#[46]⟩] w.heap.size 2 2 (w.alloc (.cells #[.string (strOfNums mod),.string ⟨#[46]⟩] 9)) base g _ _ (hp.grown (aB w _ none)) rfl (Blk.new w 9 [.string (strOfNums mod),.string ⟨#[46]⟩]) Q0 (by rw[Ah,<-he];exact Am) hg
  rw[Ah,<-he]at HQ;have hpos:(0:Int)<(mod.length:Int):=Q0;go_enter Tryz.func171,Tryz.ntmps171;go_wp2_with fail;refine HQ.mono ?_;rintro e w1 ⟨rfl,Bh,hq⟩;go_wp2_with fail;exact bodyPost_end (results_none rfl _ _ _) rfl ⟨rfl,Bh,(aG.of (aB w (.cells #[.string (strOfNums mod),.string ⟨#[46]⟩] 9) none)).trans hq⟩
theorem U21{p:Prop}(h:p:=by
 go_enter Tryz.func118,Tryz.ntmps118
 go_wp2
 go_ret
 exact⟨⟨_,rfl,by decide⟩,yy⟩):p:=h
def Dig (n:Int):Prop:=∀w:World,Calls Tryz.prog 55 #[.int .i64 n] w fun e w'=>∃v,e=.returned v/\Own w' w.heap.size v (gL n).length (gL n)/\w.grownBy w' none
theorem aE0 {u:Nat}(h:u<10):gL u=[48+(u:Int)]:=by
 unfold gL Lib.itoa;rw[if_neg Q0,Int.toNat_natCast,Lib.decDigits,dif_pos h];simp only[zH2,List.map_nil,UInt8.toNat_ofNat']
 congr 1
 omega
theorem aLs {u:Nat}(h:¬u<10):gL u=gL ((u / 10:Nat):Int)++[48+((u % 10:Nat):Int)]:=by
 unfold gL Lib.itoa;rw[if_neg Q0,if_neg Q0,Int.toNat_natCast,Int.toNat_natCast,Lib.decDigits,dif_neg h,List.map_append];simp only[zH2,List.map_nil,UInt8.toNat_ofNat']
 congr 2
 omega
theorem aLr {n:Int}(h:n<0):gL n=45 :: gL (-n):=by
 unfold gL Lib.itoa
 rw[if_pos h,if_neg Q0,show(-n).toNat=n.natAbs by omega]
 rfl
theorem vI {w wa wb wc:World}{v:Value}{n:Nat}{l:List Int}(h1:w.grownBy wa none)(h2:wa.grownBy wb none)(ho:Own wb w.heap.size v n l)(h3:wb.grownBy wc v.ownBlock):w.grownBy wc none:=by
 have h12:=aD h1 h2
 refine⟨h3.os.trans h12.os,h3.tape.trans h12.tape,h3.output.trans h12.output,zF2 h12.size h3.size,fun k hk _=>?_⟩
 refine(h3.block k (Nat.lt_of_lt_of_le hk h12.size) (fun e=>?_)).trans (h12.block k hk Q9)
 have:=(ho.1.lt k e.symm).1
 omega
theorem aF8 (u:Nat)(h:u<10):Dig u:=by
 intro w;have h1:¬(u:Int)<0:=Q0;have h2:(u:Int)<10:=Q0
 have he:Hid (gL u=[48+(u:Int)]):=aE0 h
 clear h;generalize (u:Int)=n at *
 have ho:Own (w.alloc (.cells #[.int .u8 (48+n)] 5)) w.heap.size (.slice (some ⟨w.heap.size,0,none⟩) 1 1) 1 [48+n]:=kU (l:=[48+n]) (zJ1 w _) (zB0 _) (by simp[maxLen]) Q29
 have yy:=aB w (.cells #[.int .u8 (48+n)] 5) none;go_enter Tryz.func55,Tryz.ntmps55;go_wp2;go_ret;rw[he.out];exact⟨_,rfl,ho,yy⟩
theorem aMo (u:Nat)(h:¬u<10)(hm:u<9223372036854775808)(ih:Dig ((u / 10:Nat):Int)):Dig u:=by
 intro w;have hl:=jW (n:=((u / 10:Nat):Int)) Q0 Q0;have h1:¬(u:Int)<0:=Q0;have h2:¬(u:Int)<10:=Q0
 have he:Hid (gL u=gL ((u / 10:Nat):Int)++[48+((u % 10:Nat):Int)]):=aLs h
 have hd:Int.tdiv (u:Int) 10=((u / 10:Nat):Int):=by rw[Int.tdiv_eq_ediv_of_nonneg Q0];omega
 have hm2:Int.tmod (u:Int) 10=((u % 10:Nat):Int):=by rw[Int.tmod_eq_emod_of_nonneg Q0];omega
 have r1:((u % 10:Nat):Int)<10:=Q0
 have r0:0<=((u % 10:Nat):Int):=Q0
 have H:=ih w;have hb:(u:Int)<=9223372036854775807:=Q0
 have hw:wrap64 ((u / 10:Nat):Int)=((u / 10:Nat):Int):=by unfold wrap64;omega
 generalize ((u % 10:Nat):Int)=r at *;generalize ((u / 10:Nat):Int)=q at *;clear h hm ih;generalize (u:Int)=n at *;go_enter Tryz.func55,Tryz.ntmps55;go_wp2_with fail;refine H.mono ?_;rintro e w1 ⟨v,rfl,ho,hg⟩
 obtain⟨nq,hnq⟩:∃z,z=(gL q).length:=⟨_,rfl⟩
 rw[<-hnq]at ho hl
 have Ak:Hid ((gL q++[48+r]).length=nq+1):=by show _=_;rw[zA1,<-hnq];rfl
 clear hnq;obtain⟨a1,c1,rfl,_⟩:=ho.shape;have hg2:=aB w1 (.cells #[.int .u8 (48+r)] 5) none;clear H
 go_wp2_with (at_builtin;refine jG rfl _ _ rfl w.heap.size _ nq (gL q) rfl (ho.alloc _) _ 1 1 [48+r] rfl (sQ w1 (48+r) Q0 Q0) Q9 Q0 (by have:=hg.size;have:=hg2.size;omega) ?_)
 intro v2 w2 ho2 hg3
 have hf:w.grownBy w2 none:=vI hg hg2 (ho.alloc _) hg3
 clear hg hg2 hg3;go_wp2;go_ret;rw[he.out,Ak.out];exact⟨_,rfl,ho2,hf⟩
theorem aF9:∀(u:Nat),u<9223372036854775808->Dig u:=by
 intro u
 induction u using Nat.strongRecOn with
 | _ u ih=>
  intro hu
  by_cases h:u<10
  .
   exact aF8 u h
  .
   exact aMo u h hu (ih (u / 10) Q0 Q0)
theorem aMn (n:Int)(h:n<0)(hm:-9223372036854775808<n)(ih:Dig (-n)):Dig n:=by
 intro w;have hl:=jW (n:=-n) Q0 Q0
 have he:Hid (gL n=45 :: gL (-n)):=aLr h
 have H:=ih (w.alloc (.cells #[.int .u8 45] 5))
 have ho:Own (w.alloc (.cells #[.int .u8 45] 5)) w.heap.size (.slice (some ⟨w.heap.size,0,none⟩) 1 1) 1 [45]:=kU (l:=[45]) (zJ1 w _) (zB0 _) (by simp[maxLen]) Q9
 have yy:=aB w (.cells #[.int .u8 45] 5) none
 have hw:wrap64 (-n) = -n:=by unfold wrap64;omega
 clear ih;go_enter Tryz.func55,Tryz.ntmps55;go_wp2_with fail;refine H.mono ?_;rintro e w1 ⟨v,rfl,hod,hg⟩;replace ho:=ho.below (aA hg);generalize w.alloc (.cells #[.int .u8 45] 5)=wa at *
 obtain⟨nq,hnq⟩:∃z,z=(gL (-n)).length:=⟨_,rfl⟩
 rw[<-hnq]at hod hl
 have Ak:Hid ((45 :: gL (-n)).length=1+nq):=by show _=_;rw[zB1,<-hnq];omega
 clear hnq;obtain⟨a1,c1,rfl,hM⟩:=hod.made (aA hg);clear H
 go_wp2_with (at_builtin;refine jG rfl _ _ rfl w.heap.size _ 1 [45] rfl ho a1 nq c1 (gL (-n)) rfl hM.row hM.nil Q0 (by have:=yy.size;have:=hg.size;omega) ?_)
 intro v2 w2 ho2 hg3
 have hf:w.grownBy w2 none:=vI yy hg ho hg3
 go_wp2;go_ret;rw[he.out,Ak.out];exact⟨_,rfl,ho2,hf⟩
theorem dig (n:Int)(h0:-9223372036854775808<n)(h1:n<=9223372036854775807):Dig n:=by
 by_cases h:n<0
 .
  refine aMn n h h0 ?_
  have:=aF9 (-n).toNat Q0
  rwa [show(((-n).toNat:Nat):Int) = -n by omega]at this
 .
  have:=aF9 n.toNat Q0
  rwa [show((n.toNat:Nat):Int)=n by omega]at this
theorem aL0 (n:Int)(h:n=0\/n=1\/n=2\/n=3\/n=4\/n=5)(w:World):
  Calls Tryz.prog 118 #[.int .i64 n] w fun e w'=>(∃s,e=.returned (.string s)/\sI s=opI n)/\w.grownBy w' none:=by
 have yy:=aB w (.cells #[.string ⟨#[43]⟩,.string ⟨#[45]⟩,.string ⟨#[42]⟩,.string ⟨#[47]⟩,.string ⟨#[60]⟩,.string ⟨#[61]⟩] 9) none
 rcases h with rfl|rfl|rfl|rfl|rfl|rfl
 .
  exact U21
 .
  exact U21
 .
  exact U21
 .
  exact U21
 .
  exact U21
 .
  exact U21
end Go.Proofs.YtffphdacgblaoaaGreatDoor
